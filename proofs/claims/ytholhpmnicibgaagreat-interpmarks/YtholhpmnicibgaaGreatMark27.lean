import Derived.Test.YtholhpmnicibgaaGreatMark26
import Derived.Test.YtholhpmnicibgaaGreatMark1
import Derived.Test.YtholhpmnicibgaaGreatMark25
/- The statements' own sure. -/
namespace Go.Proofs.YtholhpmnicibgaaGreat
open Go.RowKit
set_option linter.unusedVariables false
set_option linter.unusedSimpArgs false

def endC : Cd := ⟨[], [], [], [⟨35, 0, 0, 0, 0, 0, 0⟩]⟩
theorem end_check : (checkC endC).1 = 160 := by decide +kernel
theorem end_ok : CdOk endC := by
  refine ⟨by show (0 : Nat) ≤ _; decide, fun p hp => ?_, by show (0 : Nat) ≤ _; decide, by show (0 : Nat) ≤ _; decide, by show (1 : Nat) ≤ _; decide, fun s hs => ?_, fun i hi => ?_⟩
  · cases hp
  · cases hs
  · simp [endC] at hi; rw [hi]; decide
/-- One vector of two patterns, in two new blocks. -/
theorem vs_two {T : Nat → Prop} (w : World) (x y : Int) (h1 : ¬ T w.heap.size) (h2 : ¬ T (w.heap.size + 1)) : VsT T ((w.alloc (.cells #[.int .u32 x, .int .u32 y] 43)).alloc (.cells #[.slice (some ⟨w.heap.size, 0, none⟩) 2 2] 57)) (.slice (some ⟨w.heap.size + 1, 0, none⟩) 1 1) [[x, y]] := by
  have r1 := (World.rowIs_alloc w #[.int .u32 x, .int .u32 y] 43 (fun j => .int .u32 (atL [x, y] j)) (fun i hi => by
    have hi' : i < 2 := hi
    obtain rfl | rfl : i = 0 ∨ i = 1 := by omega
    all_goals rfl)).alloc (.cells #[.slice (some ⟨w.heap.size, 0, none⟩) 2 2] 57)
  have r2 := World.rowIs_alloc (w.alloc (.cells #[.int .u32 x, .int .u32 y] 43)) #[.slice (some ⟨w.heap.size, 0, none⟩) 2 2] 57 (fun _ => .slice (some ⟨w.heap.size, 0, none⟩) 2 2) (fun i hi => by
    have hi' : i < 1 := hi
    obtain rfl : i = 0 := by omega
    rfl)
  rw [show (w.alloc (.cells #[.int .u32 x, .int .u32 y] 43)).heap.size = w.heap.size + 1 by simp] at r2
  refine ⟨_, _, rfl, .inr ⟨w.heap.size + 1, 0, rfl, h2, r2.lt, fun i hi => ?_⟩⟩
  have hi0 : i = 0 := by have : i < 1 := hi; omega
  subst hi0
  exact ⟨_, r2.cell (i := 0) (by show 0 < 1; decide), Pt.of_row r1 h1 rfl (fun j _ => rfl) 2⟩
theorem vs_nil (T : Nat → Prop) (w : World) (c : Nat) : VsT T w (.slice none 0 c) [] := ⟨none, c, rfl, .inl rfl⟩
theorem vok_two {x y : Int} (h1 : IsP x) (h2 : IsP y) : VsOk [[x, y]] := by
  refine ⟨by show 1 ≤ 140737488351232; decide, fun l hl => ?_, fun l hl z hz => ?_⟩
  · simp at hl; rw [hl]; show 2 ≤ 140737488351232; decide
  · simp at hl; rw [hl] at hz; simp at hz; rcases hz with e | e <;> rw [e]
    · exact h1
    · exact h2
theorem vok_nil : VsOk [] := ⟨by show 0 ≤ 140737488351232; decide, fun l hl => (by cases hl), fun l hl => (by cases hl)⟩

/-- A step of half. -/
theorem half_go {k y x1 x2 : Int} (k0 : 0 ≤ k) (k1 : k ≤ 2147483647) (h1 : IsP x1) (h2 : IsP x2) {B : Nat} (w : World) (R : Nat) (a : Lay) (X : Nat → Value) (h : RunAt (fun b => b < B ∨ b = a.S) B w R a X (halfC k) [⟨[], y⟩]) (hB : B ≤ w.heap.size) (v : Value) (hv : VsT (fun b => b < B ∨ b = a.S) w v [[x1, x2]]) :
    Calls Tryz.prog 12 #[.pointer (some ⟨R, 0, none⟩), v, v] w fun e w' => ∃ UB, e = .returned (.tuple #[.slice (some ⟨UB, 0, none⟩) 1 1, .int .i64 0]) ∧ (∃ X', RunAt (fun b => b < B ∨ b = a.S) B w' R a X' (halfC k) [⟨[], min y 2147483646 + 1⟩]) ∧ Un (fun b => b = a.S) w w' ∧ VsT (fun b => b < w.heap.size) w' (.slice (some ⟨UB, 0, none⟩) 1 1) (updP (halfC k) (endJ (halfC k) [⟨[], y⟩] [[x1, x2]] [[x1, x2]])) := by
  have := step_good w R a X (halfC k) [⟨[], y⟩] h (half_check k k0 k1) (half_ok k) (fun b e => e.elim (fun q => by omega) fun q => by rw [q]; exact h.slots.row.lt) v v [[x1, x2]] [[x1, x2]] hv hv (vok_two h1 h2) (vok_two h1 h2) (half_fits k x1 x2)
  rw [half_steps] at this
  exact this
theorem half_none {k y : Int} (k0 : 0 ≤ k) (k1 : k ≤ 2147483647) {B : Nat} (w : World) (R : Nat) (a : Lay) (X : Nat → Value) (h : RunAt (fun b => b < B ∨ b = a.S) B w R a X (halfC k) [⟨[], y⟩]) :
    Calls Tryz.prog 12 #[.pointer (some ⟨R, 0, none⟩), .slice none 0 0, .slice none 0 0] w fun e w' => e = .returned (.tuple #[.slice none 0 0, .int .i64 170]) ∧ Below w.heap.size w w' :=
  step_bad w R a X (halfC k) _ h (good_of (half_check k k0 k1)).1 (half_ok k).names _ _ [] [] (vs_nil _ _ _) (vs_nil _ _ _) vok_nil vok_nil (half_nofit k)
theorem half_slot {k y : Int} (k0 : 0 ≤ k) (k1 : k ≤ 2147483647) {B : Nat} (w : World) (R : Nat) (a : Lay) (X : Nat → Value) (h : RunAt (fun b => b < B ∨ b = a.S) B w R a X (halfC k) [⟨[], y⟩]) :
    Calls Tryz.prog 16 #[.pointer (some ⟨R, 0, none⟩), .int .i64 0] w fun e w' => ∃ p d, e = .returned (.tuple #[.slice p 0 d, .int .i64 y, .int .i64 0]) ∧ Below w.heap.size w w' :=
  (slot_any w R a X (halfC k) [⟨[], y⟩] h (good_of (half_check k k0 k1)).1 0 (by show 0 < 1; decide)).mono fun e w' ⟨p, d, h1, _, h2⟩ => ⟨p, d, h1, h2⟩

set_option maxRecDepth 100000 in
set_option maxHeartbeats 8000000 in
theorem isure_any (w : World) : Calls Tryz.prog 10 #[] w fun e w' => e = .returned (.bool true) ∧ Below w.heap.size w w' := by
  have KN : Hid (∀ (v u : World), HalfAt v (w.heap.size + 1) → u = v → Calls Tryz.prog 8 #[.agg #[.slice (some ⟨w.heap.size + 1, 0, none⟩) 1 1, .slice (some ⟨w.heap.size + 2, 0, none⟩) 3 3, .slice (some ⟨w.heap.size + 3, 0, none⟩) 1 1, .slice (some ⟨w.heap.size + 4, 0, none⟩) 7 7]] u fun e w' => ∃ R a X, e = .returned (.tuple #[.pointer (some ⟨R, 0, none⟩), .int .i64 0]) ∧ RunAt (fun b => b < u.heap.size ∨ b = a.S) u.heap.size w' R a X (halfC 4) [⟨[], 4⟩] ∧ Below u.heap.size u w') := fun v u h e => by
    subst e
    have := new_good _ _ _ _ (halfC 4) (half_ok 4) u (half_code h (fun _ _ _ => rfl) h.slots) (half_check 4 (by decide) (by decide))
    rw [half_start] at this
    exact this
  have hg4 := (good_of (half_check 4 (by decide) (by decide))).1
  have KB : Hid (∀ v : World, Calls Tryz.prog 8 #[.agg #[.slice none 0 0, .slice none 0 0, .slice none 0 0, .slice (some ⟨v.heap.size, 0, none⟩) 1 1]] (v.alloc (.cells #[.int .i64 35, .int .i64 0, .int .i64 0, .int .i64 0, .int .i64 0, .int .i64 0, .int .u32 0] 45)) fun e w' => e = .returned (.tuple #[.pointer none, .int .i64 160]) ∧ Below v.heap.size v w') := fun v => by
    have := new_bad (.slice none 0 0) (.slice none 0 0) (.slice none 0 0) (.slice (some ⟨v.heap.size, 0, none⟩) 1 1) endC end_ok (v.alloc (.cells #[.int .i64 35, .int .i64 0, .int .i64 0, .int .i64 0, .int .i64 0, .int .i64 0, .int .u32 0] 45)) ⟨⟨none, 0, rfl, .inl rfl⟩, ⟨none, 0, rfl, .inl rfl⟩, ⟨none, 0, rfl, .inl rfl⟩, rowG_new (l := endC.list) inC_len v _ _ (by rfl) 1⟩ (by rw [end_check]; decide)
    rw [end_check] at this
    exact this.mono fun e w' ⟨h1, h2⟩ => ⟨h1, bel (bel_alloc _ _) h2⟩
  have heq : ∀ (w : World) (q : Addr), (binOp .eql 32 (.pointer (some q)) (.pointer none)).run Tryz.prog w = .ok (.bool false) w := fun w q => by go_simp
  go_enter Tryz.func10, Tryz.ntmps10
  go_wp2_with (first
    | (go_at_call 18; refine (half_any w).mono ?_; rintro e w1 ⟨rfl, hb1, hh1, hs1⟩; have HB1 := hidM hb1; have HH1 := hidM hh1; have HS1 := hidM hs1; clear hb1 hh1 hs1)
    | (go_at_call 8; (with_reducible refine (KN.out w1 w1 HH1.out rfl).mono ?_); rintro e w2 ⟨R, a, X, rfl, hrun, hb2⟩; have HRUN := hidM hrun; have HB2 := hidM hb2; obtain ⟨W3, hW3⟩ : ∃ W3, (w2.alloc (.cells #[.int .u32 1073741824, .int .u32 1065353216] 43)).alloc (.cells #[.slice (some ⟨w2.heap.size, 0, none⟩) 2 2] 57) = W3 := ⟨_, rfl⟩; have HB3 : Hid (Below w2.heap.size w2 W3) := (by rw [← hW3]; exact bel (bel_alloc _ _) (bel_alloc _ _)); have HVS : Hid (VsT (fun b => b < w1.heap.size ∨ b = a.S) W3 (.slice (some ⟨w2.heap.size + 1, 0, none⟩) 1 1) [[1073741824, 1065353216]]) := (by rw [← hW3]; exact vs_two w2 _ _ (by have := hb2.size; have := hrun.slots.row.lt; omega) (by have := hb2.size; have := hrun.slots.row.lt; omega)); have KS1 := hidM (half_go (k := 4) (y := 4) (by decide) (by decide) (by unfold IsP; decide) (by unfold IsP; decide) W3 R a X (hrun.below HB3.out) (by have := hb2.size; have := HB3.out.size; omega) _ HVS.out); clear hrun hb2)
    | (go_at_call 12; (with_reducible refine KS1.out.mono ?_); rintro e w4 ⟨UB, rfl, ⟨X4, hrun4⟩, hun4, hvs4⟩; have HRUN4 := hidM hrun4; have HUN4 := hidM hun4; have HVS4 := hidM hvs4; have KSL := hidM (half_slot (k := 4) (by decide) (by decide) w4 R a X4 hrun4); clear hrun4 hun4 hvs4)
    | (go_at_call 16; (with_reducible refine KSL.out.mono ?_); rintro e w5 ⟨p5, d5, rfl, hb5⟩; have HB5 := hidM hb5; have KS2 := hidM (half_none (k := 4) (by decide) (by decide) w5 R a X4 (HRUN4.out.below hb5)); clear hb5)
    | (go_at_call 12; (with_reducible refine KS2.out.mono ?_); rintro e w6 ⟨rfl, hb6⟩; have HB6 := hidM hb6; clear hb6)
    | (go_at_call 8; (with_reducible refine (KB.out w6).mono ?_); rintro e w7 ⟨rfl, hb7⟩; have HB7 := hidM hb7; have KSV := hidM (same_any (T := fun b => b < W3.heap.size) (T' := fun _ => False) ((w7.alloc (.cells #[.int .u32 1065353216, .int .u32 1056964608] 43)).alloc (.cells #[.slice (some ⟨w7.heap.size, 0, none⟩) 2 2] 57)) (.slice (some ⟨UB, 0, none⟩) 1 1) (.slice (some ⟨w7.heap.size + 1, 0, none⟩) 1 1) [[1065353216, 1056964608]] (by have := HVS4.out; rw [half_upd] at this; exact this.below (bel HB5.out (bel HB6.out (bel hb7 (bel (bel_alloc _ _) (bel_alloc _ _)))))) (vs_two w7 _ _ (fun e => e) (fun e => e)) (by show 1 ≤ 1048576; decide) (fun l hl => by simp at hl; rw [hl]; show 2 ≤ 1048576; decide)); clear hb7)
    | (go_at_call 14; (with_reducible refine KSV.out.mono ?_); rintro e w8 ⟨rfl, hb8⟩; have HB8 := hidM hb8; clear hb8))
  go_ret
  have hS := HRUN.out.bS
  have hs1 := HB1.out.size
  have hs2 := HB2.out.size
  have hs3 := HB3.out.size
  refine ⟨rfl, ?_⟩
  have hA : Below w.heap.size w W3 := bel HB1.out (bel HB2.out HB3.out)
  have hC : Below w.heap.size W3 w4 := HUN4.out.below (by omega) (fun b e => by omega)
  exact (hA.trans hC).trans ((bel HB5.out (bel HB6.out (bel HB7.out (bel (bel (bel_alloc _ _) (bel_alloc _ _)) HB8.out)))).mono (by have := hC.size; omega))

end Go.Proofs.YtholhpmnicibgaaGreat
/- InterpMarks. -/
namespace Go.Proofs.YtholhpmnicibgaaGreat
open Go.RowKit
set_option linter.unusedVariables false
set_option linter.unusedSimpArgs false

theorem cdOk_noMark {c : Cd} (h : CdOk c) : CdOk { c with list := noMark c.list } :=
  ⟨h.signL, h.names, h.regsL, h.slotsL, Nat.le_trans (List.length_filter_le _ _) h.listL, h.sbits, fun i hi => h.ibits i (List.mem_filter.1 hi).1⟩
theorem updP_len (c : Cd) (f : Fr) : (updP c f).length = c.sign.length := by simp [updP]
theorem updP_lens {c : Cd} (hg : Good c) (f : Fr) : ∀ l ∈ updP c f, l.length ≤ 1048576 := by
  intro l hl
  obtain ⟨p, hp, rfl⟩ := List.mem_map.1 hl
  rw [List.length_map, List.length_range]
  cases h : c.sign[p]? with
  | none => exact Nat.zero_le _
  | some q =>
    have hq := hg.len q (List.mem_of_getElem? h)
    show numL q ≤ _
    unfold numL numP
    split
    · split <;> omega
    · simp
/-- Inputs stay as they are while only blocks behind them change. -/
theorem vs_keep {T : Nat → Prop} {w w' : World} {v : Value} {L : List (List Int)} (h : VsT (High w) w v L) (q : Un T w w') (hT : ∀ b, T b → w.heap.size ≤ b) : VsT T w' v L :=
  (h.un q (fun b hb e => hT b e)).mono (fun b hb e => hT b e)

set_option maxRecDepth 100000 in
set_option maxHeartbeats 8000000 in
theorem marks_bad (v0 v1 v2 v3 v4 : Value) (c : Cd) (hk : CdOk c) (w : World) (hv : CdV w v0 v1 v2 v3 c) (hc : (checkC c).1 ≠ 0) :
    Calls Tryz.prog 5 #[.agg #[v0, v1, v2, v3, v4]] w fun e w' => e = .returned (.bool true) ∧ Below w.heap.size w w' := by
  have KN : Hid (∀ v, Below w.heap.size w v → Calls Tryz.prog 8 #[.agg #[v0, v1, v2, v3]] v fun e w' => e = .returned (.tuple #[.pointer none, .int .i64 (checkC c).1]) ∧ Below v.heap.size v w') := fun v hvv => new_bad v0 v1 v2 v3 c hk v (hv.below hvv) hc
  obtain ⟨e1, he1⟩ : ∃ e1, (checkC c).1 = e1 := ⟨_, rfl⟩
  rw [he1] at hc KN
  have n1 : (e1 != 0) = true := by simpa using hc
  have n2 : (e1 == 0) = false := by simpa using hc
  have KSU := hidM isure_any
  obtain ⟨p0, q0, rfl⟩ : ∃ p q, v0 = .slice p c.sign.length q := by obtain ⟨p, q, e, _⟩ := hv.sign; exact ⟨p, q, e⟩
  obtain ⟨p1, q1, rfl⟩ : ∃ p q, v1 = .slice p c.regs.length q := by obtain ⟨p, q, e, _⟩ := hv.regs; exact ⟨p, q, e⟩
  obtain ⟨p2, q2, rfl⟩ : ∃ p q, v2 = .slice p c.slots.length q := by obtain ⟨p, q, e, _⟩ := hv.slots; exact ⟨p, q, e⟩
  obtain ⟨p3, q3, rfl⟩ : ∃ p q, v3 = .slice p c.list.length q := by obtain ⟨p, q, e, _⟩ := hv.list; exact ⟨p, q, e⟩
  clear hv hk he1
  go_enter Tryz.func5, Tryz.ntmps5
  go_wp2_with (first
    | (go_at_call 8; (with_reducible refine (KN.out _ (bel_alloc _ _)).mono ?_); rintro e w1 ⟨rfl, hb1⟩; have HB1 := hidM hb1; clear hb1)
    | (go_at_call 10; refine (KSU.out _).mono ?_; rintro e w6 ⟨rfl, hb6⟩; have HB6 := hidM hb6; clear hb6))
  go_ret
  exact ⟨rfl, bel (bel_alloc _ _) (bel HB1.out HB6.out)⟩

set_option maxRecDepth 100000 in
set_option maxHeartbeats 8000000 in
theorem marks_good (v0 v1 v2 v3 v4 : Value) (c : Cd) (hk : CdOk c) (hz : CdSz c) (l : List St) (hl : l.length ≤ 140737488351232) (w : World) (hv : CdV w v0 v1 v2 v3 c) (hr : RowG 2 stC w v4 l) (hs : ∀ s ∈ l, StOk w s) (hc : (checkC c).1 = 0) :
    Calls Tryz.prog 5 #[.agg #[v0, v1, v2, v3, v4]] w fun e w' => e = .returned (.bool true) ∧ Below w.heap.size w w' := by
  obtain ⟨hg, -⟩ := good_of hc
  have heq : ∀ (w : World) (q : Addr), (binOp .eql 32 (.pointer (some q)) (.pointer none)).run Tryz.prog w = .ok (.bool false) w := fun w q => by go_simp
  have KN := hidM (fun (v : World) (h : Below w.heap.size w v) => new_good v0 v1 v2 v3 c hk v (hv.below h) hc)
  have KP := hidM (fun (v : World) (h : Below w.heap.size w v) => plain_any v0 v1 v2 v3 c hz hg.listL v (hv.below h))
  have KM := hidM (fun (v : World) (u0 u1 u2 u3 : Value) (h : CdV v u0 u1 u2 u3 { c with list := noMark c.list }) => new_good u0 u1 u2 u3 _ (cdOk_noMark hk) v h (marks_check hc))
  have KSU := hidM isure_any
  have HG := hidM (And.intro hg (And.intro hc hk))
  have HS := hidM hs
  obtain ⟨p0, q0, rfl⟩ : ∃ p q, v0 = .slice p c.sign.length q := by obtain ⟨p, q, e, _⟩ := hv.sign; exact ⟨p, q, e⟩
  obtain ⟨p1, q1, rfl⟩ : ∃ p q, v1 = .slice p c.regs.length q := by obtain ⟨p, q, e, _⟩ := hv.regs; exact ⟨p, q, e⟩
  obtain ⟨p2, q2, rfl⟩ : ∃ p q, v2 = .slice p c.slots.length q := by obtain ⟨p, q, e, _⟩ := hv.slots; exact ⟨p, q, e⟩
  obtain ⟨p3, q3, rfl⟩ : ∃ p q, v3 = .slice p c.list.length q := by obtain ⟨p, q, e, _⟩ := hv.list; exact ⟨p, q, e⟩
  obtain ⟨p4, q4, rfl, hrow⟩ := hr
  have HROW := hidM hrow
  obtain ⟨N4, hN4⟩ : ∃ N, l.length = N := ⟨_, rfl⟩
  have HN4 := hidM hN4
  rw [hN4] at hl ⊢
  obtain ⟨W0, hW0⟩ : ∃ W0, w.alloc (.cells #[.slice p0 c.sign.length q0, .slice p1 c.regs.length q1, .slice p2 c.slots.length q2, .slice p3 c.list.length q3, .slice p4 N4 q4] 30) = W0 := ⟨_, rfl⟩
  have hb0 : Below w.heap.size w W0 := by rw [← hW0]; exact bel_alloc _ _
  have hs0 : W0.heap.size = w.heap.size + 1 := by rw [← hW0]; simp
  have k0 : W0.cell? ⟨w.heap.size, 0, none⟩ = some (.slice p0 c.sign.length q0) := by rw [← hW0]; simp [go_sem]
  have k1 : W0.cell? ⟨w.heap.size, 1, none⟩ = some (.slice p1 c.regs.length q1) := by rw [← hW0]; simp [go_sem]
  have k2 : W0.cell? ⟨w.heap.size, 2, none⟩ = some (.slice p2 c.slots.length q2) := by rw [← hW0]; simp [go_sem]
  have k3 : W0.cell? ⟨w.heap.size, 3, none⟩ = some (.slice p3 c.list.length q3) := by rw [← hW0]; simp [go_sem]
  have k4 : W0.cell? ⟨w.heap.size, 4, none⟩ = some (.slice p4 N4 q4) := by rw [← hW0]; simp [go_sem]
  have K4 := hidM k4
  clear k4
  have HB0 := hidM hb0
  have HS0 := hidM hs0
  clear hv hz hk hs hrow hg hc hb0 hs0 hN4
  go_enter Tryz.func5, Tryz.ntmps5
  go_wp2_with (first
    | (go_at_call 8; (with_reducible refine (KN.out _ HB0.out).mono ?_); rintro e w1 ⟨R, a, X, rfl, hrun, hb1⟩; have HR1 := hidM hrun; have HB1 := hidM hb1; have m0 := kc hb1 k0; have m1 := kc hb1 k1; have m2 := kc hb1 k2; have m3 := kc hb1 k3; clear hrun hb1 k0 k1 k2 k3)
    | (go_at_call 17; (with_reducible refine (KP.out _ (bel HB0.out HB1.out)).mono ?_); rintro e w2 ⟨u0, u1, u2, u3, rfl, hcd, hb2⟩; have HCD := hidM hcd; have HB2 := hidM hb2; clear hcd hb2 m0 m1 m2 m3)
    | (go_at_call 8; (with_reducible refine (KM.out _ _ _ _ _ HCD.out).mono ?_); rintro e w3 ⟨R', a', X', rfl, hrun, hb3⟩; have HR2 := hidM hrun; have HB3 := hidM hb3; clear hrun hb3))
  have HF : Hid (w.heap.size + 1 ≤ a.S ∧ a.S < w2.heap.size ∧ w2.heap.size ≤ a'.S ∧ a'.S < w3.heap.size) := by
    have e0 := HS0.out
    have e1 := HR1.out.bS
    have e2 := HR1.out.slots.row.lt
    have e3 := HB2.out.size
    have e4 := HR2.out.bS
    have e5 := HR2.out.slots.row.lt
    exact ⟨by omega, by omega, e4, e5⟩
  have HW3 : Hid (Below w.heap.size w w3 ∧ Below W0.heap.size W0 w3) := ⟨bel HB0.out (bel HB1.out (bel HB2.out HB3.out)), bel HB1.out (bel HB2.out HB3.out)⟩
  have HI : Hid (RunAt (fun b => b = a.S ∨ b = a'.S) W0.heap.size w3 R a X c (startH c) ∧ RunAt (fun b => b = a.S ∨ b = a'.S) w2.heap.size w3 R' a' X' { c with list := noMark c.list } (startH c)) := by
    have hF := HF.out
    have hsz1 := HB2.out.size
    have hsz0 := HB1.out.size
    refine ⟨(HR1.out.mono (.inl rfl) (fun b hb e => ?_)).below (bel HB2.out HB3.out), HR2.out.mono (.inr rfl) (fun b hb e => ?_)⟩
    · rcases e with rfl | rfl
      · exact .inr rfl
      · omega
    · rcases e with rfl | rfl
      · exact .inl hF.2.1
      · exact .inr rfl
  clear hW0
  go_loopw [7] (fun iv wr => ∃ j : Nat, j ≤ N4 ∧ j ≤ 20 ∧ iv = .int .i64 j ∧ Hid (∃ hs Y Y', RunAt (fun b => b = a.S ∨ b = a'.S) W0.heap.size wr R a Y c hs ∧ RunAt (fun b => b = a.S ∨ b = a'.S) w2.heap.size wr R' a' Y' { c with list := noMark c.list } hs ∧ Un (fun b => b = a.S ∨ b = a'.S) w3 wr)) (fun iv _ => 20 - (intOf iv).toNat)
  case atStart => exact ⟨0, Nat.zero_le _, by decide, rfl, _, _, _, HI.out.1, HI.out.2, Un.refl _ _⟩
  case round =>
    obtain ⟨j, hj, hj20, rfl, HR⟩ := hrel
    obtain ⟨hs, Y, Y', h1, h2, hun⟩ := HR.out
    have hF := HF.out
    have hT9 : ∀ b, (b = a.S ∨ b = a'.S) → w.heap.size + 1 ≤ b := by rintro b (rfl | rfl) <;> omega
    have hbw : Below (w.heap.size + 1) W0 wr := by
      have hA := HW3.out.2
      rw [HS0.out] at hA
      exact hA.trans (hun.below (by omega) hT9)
    have hUw : Un (fun b => b = a.S ∨ b = a'.S) w wr := (Un.of HW3.out.1).trans hun
    have b4 : wr.cell? ⟨w.heap.size, 4, none⟩ = some (.slice p4 N4 q4) := (World.cell?_of_block (hbw.block w.heap.size (by omega))).trans K4.out
    have hszr : w3.heap.size ≤ wr.heap.size := hun.size
    have HEND : Hid (Below w.heap.size w wr) := HW3.out.1.trans (hun.below (by omega) (fun b e => Nat.le_of_succ_le (hT9 b e)))
    by_cases hlt : j < N4
    · by_cases h20 : j < 20
      · have hjl : j < l.length := by rw [HN4.out]; exact hlt
        obtain ⟨lb, lo, hp4, hcj⟩ : ∃ lb lo, p4 = some ⟨lb, lo, none⟩ ∧ CellsAt w lb (lo + j * 2) (stC l[j]) := by
          rcases HROW.out with e | ⟨b, o, hp, hc⟩
          · rw [e] at hjl; cases hjl
          · exact ⟨b, o, hp, hc j hjl⟩
        subst hp4
        have hst := HS.out l[j] (List.getElem_mem hjl)
        obtain ⟨s, hs9⟩ : ∃ s, l[j] = s := ⟨_, rfl⟩
        rw [hs9] at hcj hst
        obtain ⟨gv, pv, G, P⟩ := s
        obtain ⟨g1, g2, g3, g4⟩ := hst
        have hlb : lb < w.heap.size := mcell_lt (hcj.at 0 rfl)
        have y0 : wr.cell? ⟨lb, lo + j * 2, none⟩ = some gv := (World.cell?_of_block (hbw.block lb (by omega))).trans (kc HB0.out (hcj.at 0 rfl))
        have y1 : wr.cell? ⟨lb, lo + j * 2 + 1, none⟩ = some pv := (World.cell?_of_block (hbw.block lb (by omega))).trans (kc HB0.out (hcj.at 1 rfl))
        have hgv : VsT (fun b => b = a.S ∨ b = a'.S) wr gv G := vs_keep g1 hUw (fun b e => Nat.le_of_succ_le (hT9 b e))
        have hpv : VsT (fun b => b = a.S ∨ b = a'.S) wr pv P := vs_keep g2 hUw (fun b e => Nat.le_of_succ_le (hT9 b e))
        have hTlt : ∀ b, (b = a.S ∨ b = a'.S) → b < wr.heap.size := by rintro b (rfl | rfl) <;> omega
        obtain ⟨hg, hc, hk⟩ := HG.out
        have HLT : Hid (a.S ≠ a'.S ∧ a'.S < wr.heap.size ∧ w.heap.size < a.S ∧ w.heap.size < a'.S ∧ w.heap.size < wr.heap.size ∧ lb < w.heap.size) := ⟨by omega, by omega, by omega, by omega, by omega, hlb⟩
        have HUN := hidM hun
        cases hf : fits2 c G P with
        | true =>
          have KS1 : Hid (Calls Tryz.prog 12 #[.pointer (some ⟨R, 0, none⟩), gv, pv] wr.drew fun e w' => ∃ UB, e = .returned (.tuple #[.slice (some ⟨UB, 0, none⟩) c.sign.length c.sign.length, .int .i64 0]) ∧ (∃ X', RunAt (fun b => b = a.S ∨ b = a'.S) W0.heap.size w' R a X' c (endJ c hs G P).slots) ∧ Un (fun b => b = a.S) wr w' ∧ VsT (fun b => b < wr.heap.size) w' (.slice (some ⟨UB, 0, none⟩) c.sign.length c.sign.length) (updP c (endJ c hs G P))) :=
            (step_good wr.drew R a Y c hs (h1.below (bel_drew _)) hc hk (fun b e => Nat.lt_of_lt_of_le (hTlt b e) (bel_drew wr).size) gv pv G P (hgv.below (bel_drew _)) (hpv.below (bel_drew _)) g3 g4 hf).mono fun e w' ⟨UB, e1, e2, e3, e4⟩ => ⟨UB, e1, e2, (Un.of (bel_drew _)).trans e3, e4.mono (fun b _ q => Nat.lt_of_lt_of_le q (bel_drew wr).size)⟩
          have KS2 : Hid (∀ w5, Un (fun b => b = a.S) wr w5 → Calls Tryz.prog 12 #[.pointer (some ⟨R', 0, none⟩), gv, pv] w5.drew fun e w' => ∃ UB, e = .returned (.tuple #[.slice (some ⟨UB, 0, none⟩) c.sign.length c.sign.length, .int .i64 0]) ∧ (∃ X', RunAt (fun b => b = a.S ∨ b = a'.S) w2.heap.size w' R' a' X' { c with list := noMark c.list } (endJ c hs G P).slots) ∧ Un (fun b => b = a'.S) w5 w' ∧ VsT (fun b => b < w5.heap.size) w' (.slice (some ⟨UB, 0, none⟩) c.sign.length c.sign.length) (updP c (endJ c hs G P))) := by
            intro w5 hu
            have hu5 : Un (fun b => b = a.S) wr w5.drew := hu.on (bel_drew _)
            have := step_good w5.drew R' a' Y' _ hs (h2.un hu5 (fun e => HLT.out.1 e.symm) (fun b _ e => .inl e)) (marks_check hc) (cdOk_noMark hk) (fun b e => Nat.lt_of_lt_of_le (hTlt b e) hu5.size) gv pv G P (hgv.un hu5 (fun b _ e => .inl e)) (hpv.un hu5 (fun b _ e => .inl e)) g3 g4 hf
            rw [marks_end] at this
            exact this.mono fun e w' ⟨UB, e1, e2, e3, e4⟩ => ⟨UB, e1, e2, (Un.of (bel_drew _)).trans e3, e4.mono (fun b _ q => Nat.lt_of_lt_of_le q (bel_drew w5).size)⟩
          have HL : Hid ((updP c (endJ c hs G P)).length ≤ 1048576 ∧ ∀ l ∈ updP c (endJ c hs G P), l.length ≤ 1048576) := ⟨by rw [updP_len]; have := hg.signL; omega, updP_lens hg _⟩
          clear hg hc hk h1 h2 hgv hpv hTlt g1 g2 g3 g4 hcj hs9 hUw hbw hun hF hT9 hszr hlb hf
          go_wp2
          refine wp_region_held_drew (S := (fun v => v.cell? ⟨w.heap.size, 4, none⟩ = some (.slice (some ⟨lb, lo, none⟩) N4 q4) ∧ v.cell? ⟨lb, lo + j * 2, none⟩ = some gv ∧ v.cell? ⟨lb, lo + j * 2 + 1, none⟩ = some pv)) (by kernel_rfl) ?_ (fun hHeld => ?_)
          · ((try dsimp only); go_keep)
          refine tkH (i := 0) (v := ?_) (hy := .inl ⟨by rfl, ?_⟩) (h := ?_)
          rotate_left 1
          · (intro wS hSw; (try dsimp only at hSw); go_simp; try (with_reducible rfl))
          try simp only [Act.put, List.setIfInBounds_toArray, List.set_cons_zero, List.set_cons_succ]
          refine tkH (i := 1) (v := ?_) (hy := .inl ⟨by rfl, ?_⟩) (h := ?_)
          rotate_left 1
          · (intro wS hSw; (try dsimp only at hSw); go_simp; try (with_reducible rfl))
          try simp only [Act.put, List.setIfInBounds_toArray, List.set_cons_zero, List.set_cons_succ]
          refine tkH (i := 2) (v := ?_) (hy := .inl ⟨by rfl, ?_⟩) (h := ?_)
          rotate_left 1
          · (intro wS hSw; (try dsimp only at hSw); go_simp; try (with_reducible rfl))
          try simp only [Act.put, List.setIfInBounds_toArray, List.set_cons_zero, List.set_cons_succ]
          refine tkH (i := 3) (v := ?_) (hy := .inl ⟨by rfl, ?_⟩) (h := ?_)
          rotate_left 1
          · (intro wS hSw; (try dsimp only at hSw); go_simp; try (with_reducible rfl))
          try simp only [Act.put, List.setIfInBounds_toArray, List.set_cons_zero, List.set_cons_succ]
          refine tkH (i := 4) (v := ?_) (hy := .inl ⟨by rfl, ?_⟩) (h := ?_)
          rotate_left 1
          · (intro wS hSw; (try dsimp only at hSw); go_simp; try (with_reducible rfl))
          try simp only [Act.put, List.setIfInBounds_toArray, List.set_cons_zero, List.set_cons_succ]
          refine tkH (i := 5) (v := ?_) (hy := .inl ⟨by rfl, ?_⟩) (h := ?_)
          rotate_left 1
          · (intro wS hSw; (try dsimp only at hSw); go_simp; try (with_reducible rfl))
          try simp only [Act.put, List.setIfInBounds_toArray, List.set_cons_zero, List.set_cons_succ]
          refine tkH (i := 6) (v := ?_) (hy := .inl ⟨by rfl, ?_⟩) (h := ?_)
          rotate_left 1
          · (intro wS hSw; (try dsimp only at hSw); go_simp; try (with_reducible rfl))
          try simp only [Act.put, List.setIfInBounds_toArray, List.set_cons_zero, List.set_cons_succ]
          refine tkH (i := 7) (v := ?_) (hy := .inl ⟨by rfl, ?_⟩) (h := ?_)
          rotate_left 1
          · (intro wS hSw; (try dsimp only at hSw); go_simp; try (with_reducible rfl))
          try simp only [Act.put, List.setIfInBounds_toArray, List.set_cons_zero, List.set_cons_succ]
          refine tkH (i := 8) (v := ?_) (hy := .inl ⟨by rfl, ?_⟩) (h := ?_)
          rotate_left 1
          · (intro wS hSw; (try dsimp only at hSw); go_simp; try (with_reducible rfl))
          try simp only [Act.put, List.setIfInBounds_toArray, List.set_cons_zero, List.set_cons_succ]
          refine tkH (i := 9) (v := ?_) (hy := .inl ⟨by rfl, ?_⟩) (h := ?_)
          rotate_left 1
          · (intro wS hSw; (try dsimp only at hSw); go_simp; try (with_reducible rfl))
          try simp only [Act.put, List.setIfInBounds_toArray, List.set_cons_zero, List.set_cons_succ]
          refine tkH (i := 10) (v := ?_) (hy := .inl ⟨by rfl, ?_⟩) (h := ?_)
          rotate_left 1
          · (intro wS hSw; (try dsimp only at hSw); go_simp; try (with_reducible rfl))
          try simp only [Act.put, List.setIfInBounds_toArray, List.set_cons_zero, List.set_cons_succ]
          refine tkH (i := 11) (v := ?_) (hy := .inl ⟨by rfl, ?_⟩) (h := ?_)
          rotate_left 1
          · (intro wS hSw; (try dsimp only at hSw); go_simp; try (with_reducible rfl))
          try simp only [Act.put, List.setIfInBounds_toArray, List.set_cons_zero, List.set_cons_succ]
          refine tkH (i := 12) (v := ?_) (hy := .inl ⟨by rfl, ?_⟩) (h := ?_)
          rotate_left 1
          · (intro wS hSw; (try dsimp only at hSw); go_simp; try (with_reducible rfl))
          try simp only [Act.put, List.setIfInBounds_toArray, List.set_cons_zero, List.set_cons_succ]
          clear hHeld
          refine wpAnyH_ready (rs := [13]) (by kernel_rfl) (by simp) ?_
          refine AllReadyH.cons (i := 13) (by simp only [List.getElem?_toArray, List.getElem?_cons_succ, List.getElem?_cons_zero]; rfl) (fun K hK => ?_) AllReadyH.nil
          go_simp
          (go_at_call 12; (with_reducible refine KS1.out.mono ?_); rintro e w5 ⟨UB, rfl, ⟨Z1, r5⟩, un5, vs5⟩; have HR5 := hidM r5; have HU5 := hidM un5; have HV5 := hidM vs5; have b5 := (World.cell?_of_block (un5.block w.heap.size HLT.out.2.2.2.2.1 (Nat.ne_of_lt HLT.out.2.2.1))).trans b4; have x0 := (World.cell?_of_block (un5.block lb (Nat.lt_trans HLT.out.2.2.2.2.2 HLT.out.2.2.2.2.1) (Nat.ne_of_lt (Nat.lt_trans HLT.out.2.2.2.2.2 HLT.out.2.2.1)))).trans y0; have x1 := (World.cell?_of_block (un5.block lb (Nat.lt_trans HLT.out.2.2.2.2.2 HLT.out.2.2.2.2.1) (Nat.ne_of_lt (Nat.lt_trans HLT.out.2.2.2.2.2 HLT.out.2.2.1)))).trans y1; clear r5 un5 vs5 b4 y0 y1)
          try (go_wp2_with fail)
          refine hK.out _ _ ?_ (fun hHeld => ?_)
          · ((try dsimp only); go_keep)
          clear hK K
          try simp only [Act.put, List.setIfInBounds_toArray, List.set_cons_zero, List.set_cons_succ]
          refine tkH (i := 14) (v := ?_) (hy := .inl ⟨by rfl, ?_⟩) (h := ?_)
          rotate_left 1
          · (intro wS hSw; (try dsimp only at hSw); go_simp; try (with_reducible rfl))
          try simp only [Act.put, List.setIfInBounds_toArray, List.set_cons_zero, List.set_cons_succ]
          refine tkH (i := 15) (v := ?_) (hy := .inl ⟨by rfl, ?_⟩) (h := ?_)
          rotate_left 1
          · (intro wS hSw; (try dsimp only at hSw); go_simp; try (with_reducible rfl))
          try simp only [Act.put, List.setIfInBounds_toArray, List.set_cons_zero, List.set_cons_succ]
          refine tkH (i := 16) (v := ?_) (hy := .inl ⟨by rfl, ?_⟩) (h := ?_)
          rotate_left 1
          · (intro wS hSw; (try dsimp only at hSw); go_simp; try (with_reducible rfl))
          try simp only [Act.put, List.setIfInBounds_toArray, List.set_cons_zero, List.set_cons_succ]
          refine tkH (i := 17) (v := ?_) (hy := .inl ⟨by rfl, ?_⟩) (h := ?_)
          rotate_left 1
          · (intro wS hSw; (try dsimp only at hSw); go_simp; try (with_reducible rfl))
          try simp only [Act.put, List.setIfInBounds_toArray, List.set_cons_zero, List.set_cons_succ]
          refine tkH (i := 18) (v := ?_) (hy := .inl ⟨by rfl, ?_⟩) (h := ?_)
          rotate_left 1
          · (intro wS hSw; (try dsimp only at hSw); go_simp; try (with_reducible rfl))
          try simp only [Act.put, List.setIfInBounds_toArray, List.set_cons_zero, List.set_cons_succ]
          refine wpAnyH_done (by kernel_rfl) ?_ _
          go_wp2
          refine wp_region_held_drew (S := (fun v => v.cell? ⟨w.heap.size, 4, none⟩ = some (.slice (some ⟨lb, lo, none⟩) N4 q4) ∧ v.cell? ⟨lb, lo + j * 2, none⟩ = some gv ∧ v.cell? ⟨lb, lo + j * 2 + 1, none⟩ = some pv)) (by kernel_rfl) ?_ (fun hHeld => ?_)
          · ((try dsimp only); go_keep)
          refine tkH (i := 0) (v := ?_) (hy := .inl ⟨by rfl, ?_⟩) (h := ?_)
          rotate_left 1
          · (intro wS hSw; (try dsimp only at hSw); go_simp; try (with_reducible rfl))
          try simp only [Act.put, List.setIfInBounds_toArray, List.set_cons_zero, List.set_cons_succ]
          refine tkH (i := 1) (v := ?_) (hy := .inl ⟨by rfl, ?_⟩) (h := ?_)
          rotate_left 1
          · (intro wS hSw; (try dsimp only at hSw); go_simp; try (with_reducible rfl))
          try simp only [Act.put, List.setIfInBounds_toArray, List.set_cons_zero, List.set_cons_succ]
          refine tkH (i := 2) (v := ?_) (hy := .inl ⟨by rfl, ?_⟩) (h := ?_)
          rotate_left 1
          · (intro wS hSw; (try dsimp only at hSw); go_simp; try (with_reducible rfl))
          try simp only [Act.put, List.setIfInBounds_toArray, List.set_cons_zero, List.set_cons_succ]
          refine tkH (i := 3) (v := ?_) (hy := .inl ⟨by rfl, ?_⟩) (h := ?_)
          rotate_left 1
          · (intro wS hSw; (try dsimp only at hSw); go_simp; try (with_reducible rfl))
          try simp only [Act.put, List.setIfInBounds_toArray, List.set_cons_zero, List.set_cons_succ]
          refine tkH (i := 4) (v := ?_) (hy := .inl ⟨by rfl, ?_⟩) (h := ?_)
          rotate_left 1
          · (intro wS hSw; (try dsimp only at hSw); go_simp; try (with_reducible rfl))
          try simp only [Act.put, List.setIfInBounds_toArray, List.set_cons_zero, List.set_cons_succ]
          refine tkH (i := 5) (v := ?_) (hy := .inl ⟨by rfl, ?_⟩) (h := ?_)
          rotate_left 1
          · (intro wS hSw; (try dsimp only at hSw); go_simp; try (with_reducible rfl))
          try simp only [Act.put, List.setIfInBounds_toArray, List.set_cons_zero, List.set_cons_succ]
          refine tkH (i := 6) (v := ?_) (hy := .inl ⟨by rfl, ?_⟩) (h := ?_)
          rotate_left 1
          · (intro wS hSw; (try dsimp only at hSw); go_simp; try (with_reducible rfl))
          try simp only [Act.put, List.setIfInBounds_toArray, List.set_cons_zero, List.set_cons_succ]
          refine tkH (i := 7) (v := ?_) (hy := .inl ⟨by rfl, ?_⟩) (h := ?_)
          rotate_left 1
          · (intro wS hSw; (try dsimp only at hSw); go_simp; try (with_reducible rfl))
          try simp only [Act.put, List.setIfInBounds_toArray, List.set_cons_zero, List.set_cons_succ]
          refine tkH (i := 8) (v := ?_) (hy := .inl ⟨by rfl, ?_⟩) (h := ?_)
          rotate_left 1
          · (intro wS hSw; (try dsimp only at hSw); go_simp; try (with_reducible rfl))
          try simp only [Act.put, List.setIfInBounds_toArray, List.set_cons_zero, List.set_cons_succ]
          refine tkH (i := 9) (v := ?_) (hy := .inl ⟨by rfl, ?_⟩) (h := ?_)
          rotate_left 1
          · (intro wS hSw; (try dsimp only at hSw); go_simp; try (with_reducible rfl))
          try simp only [Act.put, List.setIfInBounds_toArray, List.set_cons_zero, List.set_cons_succ]
          refine tkH (i := 10) (v := ?_) (hy := .inl ⟨by rfl, ?_⟩) (h := ?_)
          rotate_left 1
          · (intro wS hSw; (try dsimp only at hSw); go_simp; try (with_reducible rfl))
          try simp only [Act.put, List.setIfInBounds_toArray, List.set_cons_zero, List.set_cons_succ]
          refine tkH (i := 11) (v := ?_) (hy := .inl ⟨by rfl, ?_⟩) (h := ?_)
          rotate_left 1
          · (intro wS hSw; (try dsimp only at hSw); go_simp; try (with_reducible rfl))
          try simp only [Act.put, List.setIfInBounds_toArray, List.set_cons_zero, List.set_cons_succ]
          refine tkH (i := 12) (v := ?_) (hy := .inl ⟨by rfl, ?_⟩) (h := ?_)
          rotate_left 1
          · (intro wS hSw; (try dsimp only at hSw); go_simp; try (with_reducible rfl))
          try simp only [Act.put, List.setIfInBounds_toArray, List.set_cons_zero, List.set_cons_succ]
          clear hHeld
          refine wpAnyH_ready (rs := [13]) (by kernel_rfl) (by simp) ?_
          refine AllReadyH.cons (i := 13) (by simp only [List.getElem?_toArray, List.getElem?_cons_succ, List.getElem?_cons_zero]; rfl) (fun K hK => ?_) AllReadyH.nil
          go_simp
          (go_at_call 12; (with_reducible refine (KS2.out _ HU5.out).mono ?_); rintro e w6 ⟨UB', rfl, ⟨Z2, r6⟩, un6, vs6⟩; have HR6 := hidM r6; have HU6 := hidM un6; have HV6 := hidM vs6; have b6 := (World.cell?_of_block (un6.block w.heap.size (Nat.lt_of_lt_of_le HLT.out.2.2.2.2.1 HU5.out.size) (Nat.ne_of_lt HLT.out.2.2.2.1))).trans b5; have z0 := (World.cell?_of_block (un6.block lb (Nat.lt_of_lt_of_le (Nat.lt_trans HLT.out.2.2.2.2.2 HLT.out.2.2.2.2.1) HU5.out.size) (Nat.ne_of_lt (Nat.lt_trans HLT.out.2.2.2.2.2 HLT.out.2.2.2.1)))).trans x0; have z1 := (World.cell?_of_block (un6.block lb (Nat.lt_of_lt_of_le (Nat.lt_trans HLT.out.2.2.2.2.2 HLT.out.2.2.2.2.1) HU5.out.size) (Nat.ne_of_lt (Nat.lt_trans HLT.out.2.2.2.2.2 HLT.out.2.2.2.1)))).trans x1; have KSA := hidM (same_any w6 _ _ _ (HV5.out.un HU6.out (fun b _ e => by rw [e]; exact HLT.out.2.1)) HV6.out HL.out.1 HL.out.2); clear r6 un6 vs6 b5 x0 x1)
          try (go_wp2_with fail)
          refine hK.out _ _ ?_ (fun hHeld => ?_)
          · ((try dsimp only); go_keep)
          clear hK K
          try simp only [Act.put, List.setIfInBounds_toArray, List.set_cons_zero, List.set_cons_succ]
          refine tkH (i := 14) (v := ?_) (hy := .inl ⟨by rfl, ?_⟩) (h := ?_)
          rotate_left 1
          · (intro wS hSw; (try dsimp only at hSw); go_simp; try (with_reducible rfl))
          try simp only [Act.put, List.setIfInBounds_toArray, List.set_cons_zero, List.set_cons_succ]
          refine tkH (i := 15) (v := ?_) (hy := .inl ⟨by rfl, ?_⟩) (h := ?_)
          rotate_left 1
          · (intro wS hSw; (try dsimp only at hSw); go_simp; try (with_reducible rfl))
          try simp only [Act.put, List.setIfInBounds_toArray, List.set_cons_zero, List.set_cons_succ]
          refine tkH (i := 16) (v := ?_) (hy := .inl ⟨by rfl, ?_⟩) (h := ?_)
          rotate_left 1
          · (intro wS hSw; (try dsimp only at hSw); go_simp; try (with_reducible rfl))
          try simp only [Act.put, List.setIfInBounds_toArray, List.set_cons_zero, List.set_cons_succ]
          refine tkH (i := 17) (v := ?_) (hy := .inl ⟨by rfl, ?_⟩) (h := ?_)
          rotate_left 1
          · (intro wS hSw; (try dsimp only at hSw); go_simp; try (with_reducible rfl))
          try simp only [Act.put, List.setIfInBounds_toArray, List.set_cons_zero, List.set_cons_succ]
          refine tkH (i := 18) (v := ?_) (hy := .inl ⟨by rfl, ?_⟩) (h := ?_)
          rotate_left 1
          · (intro wS hSw; (try dsimp only at hSw); go_simp; try (with_reducible rfl))
          try simp only [Act.put, List.setIfInBounds_toArray, List.set_cons_zero, List.set_cons_succ]
          refine wpAnyH_done (by kernel_rfl) ?_ _
          go_wp2_with (go_at_call 14; (with_reducible refine KSA.out.mono ?_); rintro e w7 ⟨rfl, hb7⟩; have HB7 := hidM hb7; clear hb7)
          go_roundw
          case rel =>
            refine ⟨j + 1, by omega, by omega, by go_num, (endJ c hs G P).slots, Z1, Z2, (HR5.out.un HU6.out (fun e => HLT.out.1 e) (fun b _ e => .inr e)).below HB7.out, HR6.out.below HB7.out, ((HUN.out.trans (HU5.out.mono (fun b e => .inl e))).trans (HU6.out.mono (fun b e => .inr e))).on HB7.out⟩
          case measure => simp [intOf]; omega
        | false =>
          have KS1 := hidM ((step_bad wr.drew R a Y c hs (h1.below (bel_drew _)) hg hk.names gv pv G P (hgv.below (bel_drew _)) (hpv.below (bel_drew _)) g3 g4 hf).mono fun e w' h => And.intro h.1 (bel (bel_drew wr) h.2))
          have KS2 := hidM (fun (w5 : World) (hb5 : Below wr.heap.size wr w5) => (step_bad w5.drew R' a' Y' { c with list := noMark c.list } hs (h2.below (bel hb5 (bel_drew _))) (good_of (marks_check hc)).1 hk.names gv pv G P (hgv.below (bel hb5 (bel_drew _))) (hpv.below (bel hb5 (bel_drew _))) g3 g4 hf).mono fun e w' h => And.intro h.1 (bel (bel_drew w5) h.2))
          have HH := hidM (And.intro h1 h2)
          clear hg hc hk h1 h2 hgv hpv hTlt g1 g2 g3 g4 hcj hs9 hUw hbw hun hF hT9 hszr hlb hf
          go_wp2
          refine wp_region_held_drew (S := (fun v => v.cell? ⟨w.heap.size, 4, none⟩ = some (.slice (some ⟨lb, lo, none⟩) N4 q4) ∧ v.cell? ⟨lb, lo + j * 2, none⟩ = some gv ∧ v.cell? ⟨lb, lo + j * 2 + 1, none⟩ = some pv)) (by kernel_rfl) ?_ (fun hHeld => ?_)
          · ((try dsimp only); go_keep)
          refine tkH (i := 0) (v := ?_) (hy := .inl ⟨by rfl, ?_⟩) (h := ?_)
          rotate_left 1
          · (intro wS hSw; (try dsimp only at hSw); go_simp; try (with_reducible rfl))
          try simp only [Act.put, List.setIfInBounds_toArray, List.set_cons_zero, List.set_cons_succ]
          refine tkH (i := 1) (v := ?_) (hy := .inl ⟨by rfl, ?_⟩) (h := ?_)
          rotate_left 1
          · (intro wS hSw; (try dsimp only at hSw); go_simp; try (with_reducible rfl))
          try simp only [Act.put, List.setIfInBounds_toArray, List.set_cons_zero, List.set_cons_succ]
          refine tkH (i := 2) (v := ?_) (hy := .inl ⟨by rfl, ?_⟩) (h := ?_)
          rotate_left 1
          · (intro wS hSw; (try dsimp only at hSw); go_simp; try (with_reducible rfl))
          try simp only [Act.put, List.setIfInBounds_toArray, List.set_cons_zero, List.set_cons_succ]
          refine tkH (i := 3) (v := ?_) (hy := .inl ⟨by rfl, ?_⟩) (h := ?_)
          rotate_left 1
          · (intro wS hSw; (try dsimp only at hSw); go_simp; try (with_reducible rfl))
          try simp only [Act.put, List.setIfInBounds_toArray, List.set_cons_zero, List.set_cons_succ]
          refine tkH (i := 4) (v := ?_) (hy := .inl ⟨by rfl, ?_⟩) (h := ?_)
          rotate_left 1
          · (intro wS hSw; (try dsimp only at hSw); go_simp; try (with_reducible rfl))
          try simp only [Act.put, List.setIfInBounds_toArray, List.set_cons_zero, List.set_cons_succ]
          refine tkH (i := 5) (v := ?_) (hy := .inl ⟨by rfl, ?_⟩) (h := ?_)
          rotate_left 1
          · (intro wS hSw; (try dsimp only at hSw); go_simp; try (with_reducible rfl))
          try simp only [Act.put, List.setIfInBounds_toArray, List.set_cons_zero, List.set_cons_succ]
          refine tkH (i := 6) (v := ?_) (hy := .inl ⟨by rfl, ?_⟩) (h := ?_)
          rotate_left 1
          · (intro wS hSw; (try dsimp only at hSw); go_simp; try (with_reducible rfl))
          try simp only [Act.put, List.setIfInBounds_toArray, List.set_cons_zero, List.set_cons_succ]
          refine tkH (i := 7) (v := ?_) (hy := .inl ⟨by rfl, ?_⟩) (h := ?_)
          rotate_left 1
          · (intro wS hSw; (try dsimp only at hSw); go_simp; try (with_reducible rfl))
          try simp only [Act.put, List.setIfInBounds_toArray, List.set_cons_zero, List.set_cons_succ]
          refine tkH (i := 8) (v := ?_) (hy := .inl ⟨by rfl, ?_⟩) (h := ?_)
          rotate_left 1
          · (intro wS hSw; (try dsimp only at hSw); go_simp; try (with_reducible rfl))
          try simp only [Act.put, List.setIfInBounds_toArray, List.set_cons_zero, List.set_cons_succ]
          refine tkH (i := 9) (v := ?_) (hy := .inl ⟨by rfl, ?_⟩) (h := ?_)
          rotate_left 1
          · (intro wS hSw; (try dsimp only at hSw); go_simp; try (with_reducible rfl))
          try simp only [Act.put, List.setIfInBounds_toArray, List.set_cons_zero, List.set_cons_succ]
          refine tkH (i := 10) (v := ?_) (hy := .inl ⟨by rfl, ?_⟩) (h := ?_)
          rotate_left 1
          · (intro wS hSw; (try dsimp only at hSw); go_simp; try (with_reducible rfl))
          try simp only [Act.put, List.setIfInBounds_toArray, List.set_cons_zero, List.set_cons_succ]
          refine tkH (i := 11) (v := ?_) (hy := .inl ⟨by rfl, ?_⟩) (h := ?_)
          rotate_left 1
          · (intro wS hSw; (try dsimp only at hSw); go_simp; try (with_reducible rfl))
          try simp only [Act.put, List.setIfInBounds_toArray, List.set_cons_zero, List.set_cons_succ]
          refine tkH (i := 12) (v := ?_) (hy := .inl ⟨by rfl, ?_⟩) (h := ?_)
          rotate_left 1
          · (intro wS hSw; (try dsimp only at hSw); go_simp; try (with_reducible rfl))
          try simp only [Act.put, List.setIfInBounds_toArray, List.set_cons_zero, List.set_cons_succ]
          clear hHeld
          refine wpAnyH_ready (rs := [13]) (by kernel_rfl) (by simp) ?_
          refine AllReadyH.cons (i := 13) (by simp only [List.getElem?_toArray, List.getElem?_cons_succ, List.getElem?_cons_zero]; rfl) (fun K hK => ?_) AllReadyH.nil
          go_simp
          (go_at_call 12; (with_reducible refine KS1.out.mono ?_); rintro e w5 ⟨rfl, hb5⟩; have HB5 := hidM hb5; have b5 := kc hb5 b4; have x0 := kc hb5 y0; have x1 := kc hb5 y1; clear hb5 b4 y0 y1)
          try (go_wp2_with fail)
          refine hK.out _ _ ?_ (fun hHeld => ?_)
          · ((try dsimp only); go_keep)
          clear hK K
          try simp only [Act.put, List.setIfInBounds_toArray, List.set_cons_zero, List.set_cons_succ]
          refine tkH (i := 14) (v := ?_) (hy := .inl ⟨by rfl, ?_⟩) (h := ?_)
          rotate_left 1
          · (intro wS hSw; (try dsimp only at hSw); go_simp; try (with_reducible rfl))
          try simp only [Act.put, List.setIfInBounds_toArray, List.set_cons_zero, List.set_cons_succ]
          refine tkH (i := 15) (v := ?_) (hy := .inl ⟨by rfl, ?_⟩) (h := ?_)
          rotate_left 1
          · (intro wS hSw; (try dsimp only at hSw); go_simp; try (with_reducible rfl))
          try simp only [Act.put, List.setIfInBounds_toArray, List.set_cons_zero, List.set_cons_succ]
          refine tkH (i := 16) (v := ?_) (hy := .inl ⟨by rfl, ?_⟩) (h := ?_)
          rotate_left 1
          · (intro wS hSw; (try dsimp only at hSw); go_simp; try (with_reducible rfl))
          try simp only [Act.put, List.setIfInBounds_toArray, List.set_cons_zero, List.set_cons_succ]
          refine tkH (i := 17) (v := ?_) (hy := .inl ⟨by rfl, ?_⟩) (h := ?_)
          rotate_left 1
          · (intro wS hSw; (try dsimp only at hSw); go_simp; try (with_reducible rfl))
          try simp only [Act.put, List.setIfInBounds_toArray, List.set_cons_zero, List.set_cons_succ]
          refine tkH (i := 18) (v := ?_) (hy := .inl ⟨by rfl, ?_⟩) (h := ?_)
          rotate_left 1
          · (intro wS hSw; (try dsimp only at hSw); go_simp; try (with_reducible rfl))
          try simp only [Act.put, List.setIfInBounds_toArray, List.set_cons_zero, List.set_cons_succ]
          refine wpAnyH_done (by kernel_rfl) ?_ _
          go_wp2
          refine wp_region_held_drew (S := (fun v => v.cell? ⟨w.heap.size, 4, none⟩ = some (.slice (some ⟨lb, lo, none⟩) N4 q4) ∧ v.cell? ⟨lb, lo + j * 2, none⟩ = some gv ∧ v.cell? ⟨lb, lo + j * 2 + 1, none⟩ = some pv)) (by kernel_rfl) ?_ (fun hHeld => ?_)
          · ((try dsimp only); go_keep)
          refine tkH (i := 0) (v := ?_) (hy := .inl ⟨by rfl, ?_⟩) (h := ?_)
          rotate_left 1
          · (intro wS hSw; (try dsimp only at hSw); go_simp; try (with_reducible rfl))
          try simp only [Act.put, List.setIfInBounds_toArray, List.set_cons_zero, List.set_cons_succ]
          refine tkH (i := 1) (v := ?_) (hy := .inl ⟨by rfl, ?_⟩) (h := ?_)
          rotate_left 1
          · (intro wS hSw; (try dsimp only at hSw); go_simp; try (with_reducible rfl))
          try simp only [Act.put, List.setIfInBounds_toArray, List.set_cons_zero, List.set_cons_succ]
          refine tkH (i := 2) (v := ?_) (hy := .inl ⟨by rfl, ?_⟩) (h := ?_)
          rotate_left 1
          · (intro wS hSw; (try dsimp only at hSw); go_simp; try (with_reducible rfl))
          try simp only [Act.put, List.setIfInBounds_toArray, List.set_cons_zero, List.set_cons_succ]
          refine tkH (i := 3) (v := ?_) (hy := .inl ⟨by rfl, ?_⟩) (h := ?_)
          rotate_left 1
          · (intro wS hSw; (try dsimp only at hSw); go_simp; try (with_reducible rfl))
          try simp only [Act.put, List.setIfInBounds_toArray, List.set_cons_zero, List.set_cons_succ]
          refine tkH (i := 4) (v := ?_) (hy := .inl ⟨by rfl, ?_⟩) (h := ?_)
          rotate_left 1
          · (intro wS hSw; (try dsimp only at hSw); go_simp; try (with_reducible rfl))
          try simp only [Act.put, List.setIfInBounds_toArray, List.set_cons_zero, List.set_cons_succ]
          refine tkH (i := 5) (v := ?_) (hy := .inl ⟨by rfl, ?_⟩) (h := ?_)
          rotate_left 1
          · (intro wS hSw; (try dsimp only at hSw); go_simp; try (with_reducible rfl))
          try simp only [Act.put, List.setIfInBounds_toArray, List.set_cons_zero, List.set_cons_succ]
          refine tkH (i := 6) (v := ?_) (hy := .inl ⟨by rfl, ?_⟩) (h := ?_)
          rotate_left 1
          · (intro wS hSw; (try dsimp only at hSw); go_simp; try (with_reducible rfl))
          try simp only [Act.put, List.setIfInBounds_toArray, List.set_cons_zero, List.set_cons_succ]
          refine tkH (i := 7) (v := ?_) (hy := .inl ⟨by rfl, ?_⟩) (h := ?_)
          rotate_left 1
          · (intro wS hSw; (try dsimp only at hSw); go_simp; try (with_reducible rfl))
          try simp only [Act.put, List.setIfInBounds_toArray, List.set_cons_zero, List.set_cons_succ]
          refine tkH (i := 8) (v := ?_) (hy := .inl ⟨by rfl, ?_⟩) (h := ?_)
          rotate_left 1
          · (intro wS hSw; (try dsimp only at hSw); go_simp; try (with_reducible rfl))
          try simp only [Act.put, List.setIfInBounds_toArray, List.set_cons_zero, List.set_cons_succ]
          refine tkH (i := 9) (v := ?_) (hy := .inl ⟨by rfl, ?_⟩) (h := ?_)
          rotate_left 1
          · (intro wS hSw; (try dsimp only at hSw); go_simp; try (with_reducible rfl))
          try simp only [Act.put, List.setIfInBounds_toArray, List.set_cons_zero, List.set_cons_succ]
          refine tkH (i := 10) (v := ?_) (hy := .inl ⟨by rfl, ?_⟩) (h := ?_)
          rotate_left 1
          · (intro wS hSw; (try dsimp only at hSw); go_simp; try (with_reducible rfl))
          try simp only [Act.put, List.setIfInBounds_toArray, List.set_cons_zero, List.set_cons_succ]
          refine tkH (i := 11) (v := ?_) (hy := .inl ⟨by rfl, ?_⟩) (h := ?_)
          rotate_left 1
          · (intro wS hSw; (try dsimp only at hSw); go_simp; try (with_reducible rfl))
          try simp only [Act.put, List.setIfInBounds_toArray, List.set_cons_zero, List.set_cons_succ]
          refine tkH (i := 12) (v := ?_) (hy := .inl ⟨by rfl, ?_⟩) (h := ?_)
          rotate_left 1
          · (intro wS hSw; (try dsimp only at hSw); go_simp; try (with_reducible rfl))
          try simp only [Act.put, List.setIfInBounds_toArray, List.set_cons_zero, List.set_cons_succ]
          clear hHeld
          refine wpAnyH_ready (rs := [13]) (by kernel_rfl) (by simp) ?_
          refine AllReadyH.cons (i := 13) (by simp only [List.getElem?_toArray, List.getElem?_cons_succ, List.getElem?_cons_zero]; rfl) (fun K hK => ?_) AllReadyH.nil
          go_simp
          (go_at_call 12; (with_reducible refine (KS2.out _ HB5.out).mono ?_); rintro e w6 ⟨rfl, hb6⟩; have HB6 := hidM hb6; have b6 := kc hb6 b5; have z0 := kc hb6 x0; have z1 := kc hb6 x1; have KSA := hidM (same_any (T := fun _ => False) (T' := fun _ => False) w6 (.slice none 0 0) (.slice none 0 0) [] ⟨none, 0, rfl, .inl rfl⟩ ⟨none, 0, rfl, .inl rfl⟩ (Nat.zero_le _) (fun l h => by cases h)); clear hb6 b5 x0 x1)
          try (go_wp2_with fail)
          refine hK.out _ _ ?_ (fun hHeld => ?_)
          · ((try dsimp only); go_keep)
          clear hK K
          try simp only [Act.put, List.setIfInBounds_toArray, List.set_cons_zero, List.set_cons_succ]
          refine tkH (i := 14) (v := ?_) (hy := .inl ⟨by rfl, ?_⟩) (h := ?_)
          rotate_left 1
          · (intro wS hSw; (try dsimp only at hSw); go_simp; try (with_reducible rfl))
          try simp only [Act.put, List.setIfInBounds_toArray, List.set_cons_zero, List.set_cons_succ]
          refine tkH (i := 15) (v := ?_) (hy := .inl ⟨by rfl, ?_⟩) (h := ?_)
          rotate_left 1
          · (intro wS hSw; (try dsimp only at hSw); go_simp; try (with_reducible rfl))
          try simp only [Act.put, List.setIfInBounds_toArray, List.set_cons_zero, List.set_cons_succ]
          refine tkH (i := 16) (v := ?_) (hy := .inl ⟨by rfl, ?_⟩) (h := ?_)
          rotate_left 1
          · (intro wS hSw; (try dsimp only at hSw); go_simp; try (with_reducible rfl))
          try simp only [Act.put, List.setIfInBounds_toArray, List.set_cons_zero, List.set_cons_succ]
          refine tkH (i := 17) (v := ?_) (hy := .inl ⟨by rfl, ?_⟩) (h := ?_)
          rotate_left 1
          · (intro wS hSw; (try dsimp only at hSw); go_simp; try (with_reducible rfl))
          try simp only [Act.put, List.setIfInBounds_toArray, List.set_cons_zero, List.set_cons_succ]
          refine tkH (i := 18) (v := ?_) (hy := .inl ⟨by rfl, ?_⟩) (h := ?_)
          rotate_left 1
          · (intro wS hSw; (try dsimp only at hSw); go_simp; try (with_reducible rfl))
          try simp only [Act.put, List.setIfInBounds_toArray, List.set_cons_zero, List.set_cons_succ]
          refine wpAnyH_done (by kernel_rfl) ?_ _
          go_wp2_with (go_at_call 14; (with_reducible refine KSA.out.mono ?_); rintro e w7 ⟨rfl, hb7⟩; have HB7 := hidM hb7; clear hb7)
          go_roundw
          case rel =>
            refine ⟨j + 1, by omega, by omega, by go_num, hs, Y, Y', HH.out.1.below (bel HB5.out (bel HB6.out HB7.out)), HH.out.2.below (bel HB5.out (bel HB6.out HB7.out)), HUN.out.on (bel HB5.out (bel HB6.out HB7.out))⟩
          case measure => simp [intOf]; omega
      · have hj' : j = 20 := by omega
        subst hj'
        clear h1 h2 hUw hbw hun hF hT9 hszr
        go_wp2_with (go_at_call 10; refine (KSU.out _).mono ?_; rintro e w6 ⟨rfl, hb6⟩; have HB6 := hidM hb6; clear hb6)
        go_ret
        exact ⟨rfl, bel HEND.out HB6.out⟩
    · have hj' : j = N4 := by omega
      subst hj'
      clear h1 h2 hUw hbw hun hF hT9 hszr
      go_wp2_with (go_at_call 10; refine (KSU.out _).mono ?_; rintro e w6 ⟨rfl, hb6⟩; have HB6 := hidM hb6; clear hb6)
      go_ret
      exact ⟨rfl, bel HEND.out HB6.out⟩

theorem walk_InterpMarks (v0 v1 v2 v3 v4 : Value) (c : Cd) (hk : CdOk c) (hz : CdSz c) (l : List St) (hl : l.length ≤ 140737488351232) (w : World) (hv : CdV w v0 v1 v2 v3 c) (hr : RowG 2 stC w v4 l) (hs : ∀ s ∈ l, StOk w s) :
    Calls Tryz.prog 5 #[.agg #[v0, v1, v2, v3, v4]] w fun e w' => e = .returned (.bool true) ∧ Below w.heap.size w w' := by
  by_cases hc : (checkC c).1 = 0
  · exact marks_good v0 v1 v2 v3 v4 c hk hz l hl w hv hr hs hc
  · exact marks_bad v0 v1 v2 v3 v4 c hk w hv hc

end Go.Proofs.YtholhpmnicibgaaGreat
