import Derived.Test.YtholhpmnicibgaaGreatPart26
/- The statements' own sure. -/
namespace Go.Proofs.YtholhpmnicibgaaGreat
open Go.RowKit
set_option linter.unusedVariables false
set_option linter.unusedSimpArgs false

def endC : Cd := ⟨[], [], [], [⟨35, 0, 0, 0, 0, 0, 0⟩]⟩
theorem end_check : (checkC endC).1 = 160 := by decide +kernel
theorem end_ok : CdOk endC := by
  refine ⟨by show (0 : Nat) ≤ _; decide, fun p hp => ?_, by show (0 : Nat) ≤ _; decide, by show (0 : Nat) ≤ _; decide, by show (1 : Nat) ≤ _; decide, fun s hs => ?_, fun i hi => ?_⟩
  · cases hp
  · cases hs
  · simp [endC] at hi; rw [hi]; decide
/-- One vector of two patterns, in two new blocks. -/
theorem vs_two {T : Nat → Prop} (w : World) (x y : Int) (h1 : ¬ T w.heap.size) (h2 : ¬ T (w.heap.size + 1)) : VsT T ((w.alloc (.cells #[.int .u32 x, .int .u32 y] 43)).alloc (.cells #[.slice (some ⟨w.heap.size, 0, none⟩) 2 2] 57)) (.slice (some ⟨w.heap.size + 1, 0, none⟩) 1 1) [[x, y]] := by
  have r1 := (World.rowIs_alloc w #[.int .u32 x, .int .u32 y] 43 (fun j => .int .u32 (atL [x, y] j)) (fun i hi => by
    have hi' : i < 2 := hi
    obtain rfl | rfl : i = 0 ∨ i = 1 := by omega
    all_goals rfl)).alloc (.cells #[.slice (some ⟨w.heap.size, 0, none⟩) 2 2] 57)
  have r2 := World.rowIs_alloc (w.alloc (.cells #[.int .u32 x, .int .u32 y] 43)) #[.slice (some ⟨w.heap.size, 0, none⟩) 2 2] 57 (fun _ => .slice (some ⟨w.heap.size, 0, none⟩) 2 2) (fun i hi => by
    have hi' : i < 1 := hi
    obtain rfl : i = 0 := by omega
    rfl)
  rw [show (w.alloc (.cells #[.int .u32 x, .int .u32 y] 43)).heap.size = w.heap.size + 1 by simp] at r2
  refine ⟨_, _, rfl, .inr ⟨w.heap.size + 1, 0, rfl, h2, r2.lt, fun i hi => ?_⟩⟩
  have hi0 : i = 0 := by have : i < 1 := hi; omega
  subst hi0
  exact ⟨_, r2.cell (i := 0) (by show 0 < 1; decide), Pt.of_row r1 h1 rfl (fun j _ => rfl) 2⟩
theorem vs_nil (T : Nat → Prop) (w : World) (c : Nat) : VsT T w (.slice none 0 c) [] := ⟨none, c, rfl, .inl rfl⟩
theorem vok_two {x y : Int} (h1 : IsP x) (h2 : IsP y) : VsOk [[x, y]] := by
  refine ⟨by show 1 ≤ 140737488351232; decide, fun l hl => ?_, fun l hl z hz => ?_⟩
  · simp at hl; rw [hl]; show 2 ≤ 140737488351232; decide
  · simp at hl; rw [hl] at hz; simp at hz; rcases hz with e | e <;> rw [e]
    · exact h1
    · exact h2
theorem vok_nil : VsOk [] := ⟨by show 0 ≤ 140737488351232; decide, fun l hl => (by cases hl), fun l hl => (by cases hl)⟩

/-- A step of half. -/
theorem half_go {k y x1 x2 : Int} (k0 : 0 ≤ k) (k1 : k ≤ 2147483647) (h1 : IsP x1) (h2 : IsP x2) {B : Nat} (w : World) (R : Nat) (a : Lay) (X : Nat → Value) (h : RunAt (fun b => b < B ∨ b = a.S) B w R a X (halfC k) [⟨[], y⟩]) (hB : B ≤ w.heap.size) (v : Value) (hv : VsT (fun b => b < B ∨ b = a.S) w v [[x1, x2]]) :
    Calls Tryz.prog 12 #[.pointer (some ⟨R, 0, none⟩), v, v] w fun e w' => ∃ UB, e = .returned (.tuple #[.slice (some ⟨UB, 0, none⟩) 1 1, .int .i64 0]) ∧ (∃ X', RunAt (fun b => b < B ∨ b = a.S) B w' R a X' (halfC k) [⟨[], min y 2147483646 + 1⟩]) ∧ Un (fun b => b = a.S) w w' ∧ VsT (fun b => b < w.heap.size) w' (.slice (some ⟨UB, 0, none⟩) 1 1) (updP (halfC k) (endJ (halfC k) [⟨[], y⟩] [[x1, x2]] [[x1, x2]])) := by
  have := step_good w R a X (halfC k) [⟨[], y⟩] h (half_check k k0 k1) (half_ok k) (fun b e => e.elim (fun q => by omega) fun q => by rw [q]; exact h.slots.row.lt) v v [[x1, x2]] [[x1, x2]] hv hv (vok_two h1 h2) (vok_two h1 h2) (half_fits k x1 x2)
  rw [half_steps] at this
  exact this
theorem half_none {k y : Int} (k0 : 0 ≤ k) (k1 : k ≤ 2147483647) {B : Nat} (w : World) (R : Nat) (a : Lay) (X : Nat → Value) (h : RunAt (fun b => b < B ∨ b = a.S) B w R a X (halfC k) [⟨[], y⟩]) :
    Calls Tryz.prog 12 #[.pointer (some ⟨R, 0, none⟩), .slice none 0 0, .slice none 0 0] w fun e w' => e = .returned (.tuple #[.slice none 0 0, .int .i64 170]) ∧ Below w.heap.size w w' :=
  step_bad w R a X (halfC k) _ h (good_of (half_check k k0 k1)).1 (half_ok k).names _ _ [] [] (vs_nil _ _ _) (vs_nil _ _ _) vok_nil vok_nil (half_nofit k)
theorem half_slot {k y : Int} (k0 : 0 ≤ k) (k1 : k ≤ 2147483647) {B : Nat} (w : World) (R : Nat) (a : Lay) (X : Nat → Value) (h : RunAt (fun b => b < B ∨ b = a.S) B w R a X (halfC k) [⟨[], y⟩]) :
    Calls Tryz.prog 16 #[.pointer (some ⟨R, 0, none⟩), .int .i64 0] w fun e w' => ∃ p d, e = .returned (.tuple #[.slice p 0 d, .int .i64 y, .int .i64 0]) ∧ Below w.heap.size w w' :=
  (slot_any w R a X (halfC k) [⟨[], y⟩] h (good_of (half_check k k0 k1)).1 0 (by show 0 < 1; decide)).mono fun e w' ⟨p, d, h1, _, h2⟩ => ⟨p, d, h1, h2⟩

set_option maxRecDepth 100000 in
set_option maxHeartbeats 8000000 in
theorem isure_any (w : World) : Calls Tryz.prog 10 #[] w fun e w' => e = .returned (.bool true) ∧ Below w.heap.size w w' := by
  have KN : Hid (∀ (v u : World), HalfAt v (w.heap.size + 1) → u = v → Calls Tryz.prog 8 #[.agg #[.slice (some ⟨w.heap.size + 1, 0, none⟩) 1 1, .slice (some ⟨w.heap.size + 2, 0, none⟩) 3 3, .slice (some ⟨w.heap.size + 3, 0, none⟩) 1 1, .slice (some ⟨w.heap.size + 4, 0, none⟩) 7 7]] u fun e w' => ∃ R a X, e = .returned (.tuple #[.pointer (some ⟨R, 0, none⟩), .int .i64 0]) ∧ RunAt (fun b => b < u.heap.size ∨ b = a.S) u.heap.size w' R a X (halfC 4) [⟨[], 4⟩] ∧ Below u.heap.size u w') := fun v u h e => by
    subst e
    have := new_good _ _ _ _ (halfC 4) (half_ok 4) u (half_code h (fun _ _ _ => rfl) h.slots) (half_check 4 (by decide) (by decide))
    rw [half_start] at this
    exact this
  have hg4 := (good_of (half_check 4 (by decide) (by decide))).1
  have KB : Hid (∀ v : World, Calls Tryz.prog 8 #[.agg #[.slice none 0 0, .slice none 0 0, .slice none 0 0, .slice (some ⟨v.heap.size, 0, none⟩) 1 1]] (v.alloc (.cells #[.int .i64 35, .int .i64 0, .int .i64 0, .int .i64 0, .int .i64 0, .int .i64 0, .int .u32 0] 45)) fun e w' => e = .returned (.tuple #[.pointer none, .int .i64 160]) ∧ Below v.heap.size v w') := fun v => by
    have := new_bad (.slice none 0 0) (.slice none 0 0) (.slice none 0 0) (.slice (some ⟨v.heap.size, 0, none⟩) 1 1) endC end_ok (v.alloc (.cells #[.int .i64 35, .int .i64 0, .int .i64 0, .int .i64 0, .int .i64 0, .int .i64 0, .int .u32 0] 45)) ⟨⟨none, 0, rfl, .inl rfl⟩, ⟨none, 0, rfl, .inl rfl⟩, ⟨none, 0, rfl, .inl rfl⟩, rowG_new (l := endC.list) inC_len v _ _ (by rfl) 1⟩ (by rw [end_check]; decide)
    rw [end_check] at this
    exact this.mono fun e w' ⟨h1, h2⟩ => ⟨h1, bel (bel_alloc _ _) h2⟩
  have heq : ∀ (w : World) (q : Addr), (binOp .eql 32 (.pointer (some q)) (.pointer none)).run Tryz.prog w = .ok (.bool false) w := fun w q => by go_simp
  go_enter Tryz.func10, Tryz.ntmps10
  go_wp2_with (first
    | (go_at_call 18; refine (half_any w).mono ?_; rintro e w1 ⟨rfl, hb1, hh1, hs1⟩; have HB1 := hidM hb1; have HH1 := hidM hh1; have HS1 := hidM hs1; clear hb1 hh1 hs1)
    | (go_at_call 8; (with_reducible refine (KN.out w1 w1 HH1.out rfl).mono ?_); rintro e w2 ⟨R, a, X, rfl, hrun, hb2⟩; have HRUN := hidM hrun; have HB2 := hidM hb2; obtain ⟨W3, hW3⟩ : ∃ W3, (w2.alloc (.cells #[.int .u32 1073741824, .int .u32 1065353216] 43)).alloc (.cells #[.slice (some ⟨w2.heap.size, 0, none⟩) 2 2] 57) = W3 := ⟨_, rfl⟩; have HB3 : Hid (Below w2.heap.size w2 W3) := (by rw [← hW3]; exact bel (bel_alloc _ _) (bel_alloc _ _)); have HVS : Hid (VsT (fun b => b < w1.heap.size ∨ b = a.S) W3 (.slice (some ⟨w2.heap.size + 1, 0, none⟩) 1 1) [[1073741824, 1065353216]]) := (by rw [← hW3]; exact vs_two w2 _ _ (by have := hb2.size; have := hrun.slots.row.lt; omega) (by have := hb2.size; have := hrun.slots.row.lt; omega)); have KS1 := hidM (half_go (k := 4) (y := 4) (by decide) (by decide) (by unfold IsP; decide) (by unfold IsP; decide) W3 R a X (hrun.below HB3.out) (by have := hb2.size; have := HB3.out.size; omega) _ HVS.out); clear hrun hb2)
    | (go_at_call 12; (with_reducible refine KS1.out.mono ?_); rintro e w4 ⟨UB, rfl, ⟨X4, hrun4⟩, hun4, hvs4⟩; have HRUN4 := hidM hrun4; have HUN4 := hidM hun4; have HVS4 := hidM hvs4; have KSL := hidM (half_slot (k := 4) (by decide) (by decide) w4 R a X4 hrun4); clear hrun4 hun4 hvs4)
    | (go_at_call 16; (with_reducible refine KSL.out.mono ?_); rintro e w5 ⟨p5, d5, rfl, hb5⟩; have HB5 := hidM hb5; have KS2 := hidM (half_none (k := 4) (by decide) (by decide) w5 R a X4 (HRUN4.out.below hb5)); clear hb5)
    | (go_at_call 12; (with_reducible refine KS2.out.mono ?_); rintro e w6 ⟨rfl, hb6⟩; have HB6 := hidM hb6; clear hb6)
    | (go_at_call 8; (with_reducible refine (KB.out w6).mono ?_); rintro e w7 ⟨rfl, hb7⟩; have HB7 := hidM hb7; have KSV := hidM (same_any (T := fun b => b < W3.heap.size) (T' := fun _ => False) ((w7.alloc (.cells #[.int .u32 1065353216, .int .u32 1056964608] 43)).alloc (.cells #[.slice (some ⟨w7.heap.size, 0, none⟩) 2 2] 57)) (.slice (some ⟨UB, 0, none⟩) 1 1) (.slice (some ⟨w7.heap.size + 1, 0, none⟩) 1 1) [[1065353216, 1056964608]] (by have := HVS4.out; rw [half_upd] at this; exact this.below (bel HB5.out (bel HB6.out (bel hb7 (bel (bel_alloc _ _) (bel_alloc _ _)))))) (vs_two w7 _ _ (fun e => e) (fun e => e)) (by show 1 ≤ 1048576; decide) (fun l hl => by simp at hl; rw [hl]; show 2 ≤ 1048576; decide)); clear hb7)
    | (go_at_call 14; (with_reducible refine KSV.out.mono ?_); rintro e w8 ⟨rfl, hb8⟩; have HB8 := hidM hb8; clear hb8))
  go_ret
  have hS := HRUN.out.bS
  have hs1 := HB1.out.size
  have hs2 := HB2.out.size
  have hs3 := HB3.out.size
  refine ⟨rfl, ?_⟩
  have hA : Below w.heap.size w W3 := bel HB1.out (bel HB2.out HB3.out)
  have hC : Below w.heap.size W3 w4 := HUN4.out.below (by omega) (fun b e => by omega)
  exact (hA.trans hC).trans ((bel HB5.out (bel HB6.out (bel HB7.out (bel (bel (bel_alloc _ _) (bel_alloc _ _)) HB8.out)))).mono (by have := hC.size; omega))

end Go.Proofs.YtholhpmnicibgaaGreat
/- InterpWholes. -/
namespace Go.Proofs.YtholhpmnicibgaaGreat
open Go.RowKit
set_option linter.unusedVariables false
set_option linter.unusedSimpArgs false

theorem half_more {F : Int} (h0 : 0 ≤ F) (h1 : F ≤ 2147483647) (j : Nat) : min (min (F + j) 2147483647) 2147483646 + 1 = min (F + ((j + 1 : Nat) : Int)) 2147483647 := by omega

set_option maxRecDepth 100000 in
set_option maxHeartbeats 8000000 in
theorem walk_InterpWholes (x : Int) (x0 : -9223372036854775808 ≤ x) (x1 : x ≤ 9223372036854775807) (y : Int) (y0 : -9223372036854775808 ≤ y) (y1 : y ≤ 9223372036854775807) (w : World) :
    Calls Tryz.prog 6 #[.int .i64 x, .int .i64 y] w fun e w' => e = .returned (.bool true) ∧ Below w.heap.size w w' := by
  have heq : ∀ (w : World) (q : Addr), (binOp .eql 32 (.pointer (some q)) (.pointer none)).run Tryz.prog w = .ok (.bool false) w := fun w q => by go_simp
  obtain ⟨F, hF⟩ : ∃ F, max 0 (min x 2147483647) = F := ⟨_, rfl⟩
  obtain ⟨S, hS⟩ : ∃ S : Nat, max 0 (min y 50) = (S : Int) := ⟨(max 0 (min y 50)).toNat, by omega⟩
  have f0 : 0 ≤ F := by omega
  have f1 : F ≤ 2147483647 := by omega
  have s1 : S ≤ 50 := by omega
  have KN : Hid (∀ (v u : World), HalfAt v (w.heap.size + 1) → v.heap.size = w.heap.size + 5 → u = (v.alloc (.cells #[.slice (some ⟨w.heap.size + 1, 0, none⟩) 1 1, .slice (some ⟨w.heap.size + 2, 0, none⟩) 3 3, .slice (some ⟨w.heap.size + 3, 0, none⟩) 1 1, .slice (some ⟨w.heap.size + 4, 0, none⟩) 7 7] 27)).setCell ⟨w.heap.size + 3, 4, none⟩ (.int .i64 F) → Calls Tryz.prog 8 #[.agg #[.slice (some ⟨w.heap.size + 1, 0, none⟩) 1 1, .slice (some ⟨w.heap.size + 2, 0, none⟩) 3 3, .slice (some ⟨w.heap.size + 3, 0, none⟩) 1 1, .slice (some ⟨w.heap.size + 4, 0, none⟩) 7 7]] u fun e w' => ∃ R a X, e = .returned (.tuple #[.pointer (some ⟨R, 0, none⟩), .int .i64 0]) ∧ RunAt (fun b => b < u.heap.size ∨ b = a.S) u.heap.size w' R a X (halfC F) [⟨[], F⟩] ∧ Below u.heap.size u w') := by
    intro v u h hsz e
    have hcd : CdV u (.slice (some ⟨w.heap.size + 1, 0, none⟩) 1 1) (.slice (some ⟨w.heap.size + 2, 0, none⟩) 3 3) (.slice (some ⟨w.heap.size + 3, 0, none⟩) 1 1) (.slice (some ⟨w.heap.size + 4, 0, none⟩) 7 7) (halfC F) := by
      rw [e]
      refine half_code h (fun b hne hb => ?_) ?_
      · rw [Below.heap_setCell _ _ _ _ (by show b ≠ w.heap.size + 3; omega)]
        exact (bel_alloc v _).block b hb
      · refine ((h.slots.alloc _).set 4 (.int .i64 F)).congr fun j hj => ?_
        obtain rfl | rfl | rfl | rfl | rfl : j = 0 ∨ j = 1 ∨ j = 2 ∨ j = 3 ∨ j = 4 := by omega
        all_goals rfl
    have := new_good _ _ _ _ (halfC F) (half_ok F) u hcd (half_check F f0 f1)
    rw [half_start] at this
    exact this
  have KSU := hidM isure_any
  go_enter Tryz.func6, Tryz.ntmps6
  have HFS := hidM (And.intro hF hS)
  have HX := hidM (And.intro f0 f1)
  go_wp2_with (first
    | (go_at_call 18; refine (half_any w).mono ?_; rintro e w1 ⟨rfl, hb1, hh1, hs1⟩; have HB1 := hidM hb1; have HH1 := hidM hh1; have HS1 := hidM hs1; obtain ⟨W1, hW1⟩ : ∃ W1, w1.alloc (.cells #[.slice (some ⟨w.heap.size + 1, 0, none⟩) 1 1, .slice (some ⟨w.heap.size + 2, 0, none⟩) 3 3, .slice (some ⟨w.heap.size + 3, 0, none⟩) 1 1, .slice (some ⟨w.heap.size + 4, 0, none⟩) 7 7] 27) = W1 := ⟨_, rfl⟩; have hrs : W1.rowIs (w.heap.size + 3) 65 5 _ := (by rw [← hW1]; exact hh1.slots.alloc _); have q4 := hrs.cell (i := 4) (by decide); have z4 := hrs.frozen 4; simp only [Nat.reduceEqDiff, if_false] at q4; have c2 : W1.cell? ⟨w1.heap.size, 2, none⟩ = some (.slice (some ⟨w.heap.size + 3, 0, none⟩) 1 1) := (by rw [← hW1]; simp [go_sem]); obtain ⟨W2, hW2⟩ : ∃ W2, W1.setCell ⟨w.heap.size + 3, 4, none⟩ (.int .i64 F) = W2 := ⟨_, rfl⟩; have hbx : ∀ j, j < 4 → W2.cell? ⟨w1.heap.size, j, none⟩ = W1.cell? ⟨w1.heap.size, j, none⟩ := (fun j _ => by rw [← hW2]; exact World.cell?_of_block (Below.heap_setCell _ _ _ _ (by show w1.heap.size ≠ w.heap.size + 3; omega))); have k0 : W2.cell? ⟨w1.heap.size, 0, none⟩ = some (.slice (some ⟨w.heap.size + 1, 0, none⟩) 1 1) := (by rw [hbx 0 (by decide), ← hW1]; simp [go_sem]); have k1 : W2.cell? ⟨w1.heap.size, 1, none⟩ = some (.slice (some ⟨w.heap.size + 2, 0, none⟩) 3 3) := (by rw [hbx 1 (by decide), ← hW1]; simp [go_sem]); have k2 : W2.cell? ⟨w1.heap.size, 2, none⟩ = some (.slice (some ⟨w.heap.size + 3, 0, none⟩) 1 1) := (by rw [hbx 2 (by decide), ← hW1]; simp [go_sem]); have k3 : W2.cell? ⟨w1.heap.size, 3, none⟩ = some (.slice (some ⟨w.heap.size + 4, 0, none⟩) 7 7) := (by rw [hbx 3 (by decide), ← hW1]; simp [go_sem]); have HKN := hidM (KN.out w1 W2 hh1 hs1 (by rw [← hW2, ← hW1])); have HBW2 : Hid (Below w.heap.size w W2) := (by rw [← hW2, ← hW1]; exact (hb1.alloc (by omega) _).setCell (by show w.heap.size ≤ w.heap.size + 3; omega) _); clear hb1 hh1 hs1 hrs hbx)
    | (go_at_call 8; (with_reducible refine HKN.out.mono ?_); rintro e w2 ⟨R, a, X, rfl, hrun, hb2⟩; have HRUN := hidM hrun; have HB2 := hidM hb2; obtain ⟨W3, hW3⟩ : ∃ W3, (w2.alloc (.cells #[.int .u32 0, .int .u32 0] 43)).alloc (.cells #[.slice (some ⟨w2.heap.size, 0, none⟩) 2 2] 57) = W3 := ⟨_, rfl⟩; have HB3 : Hid (Below w2.heap.size w2 W3) := (by rw [← hW3]; exact bel (bel_alloc _ _) (bel_alloc _ _)); have HVS : Hid (VsT (fun b => b < W2.heap.size ∨ b = a.S) W3 (.slice (some ⟨w2.heap.size + 1, 0, none⟩) 1 1) [[0, 0]]) := (by rw [← hW3]; exact vs_two w2 _ _ (by have := hb2.size; have := hrun.slots.row.lt; omega) (by have := hb2.size; have := hrun.slots.row.lt; omega)); clear hrun hb2))
  go_loopw [9] (fun iv wr => ∃ j : Nat, j ≤ S ∧ iv = .int .i64 j ∧ Hid (∃ X, RunAt (fun b => b < W2.heap.size ∨ b = a.S) W2.heap.size wr R a X (halfC F) [⟨[], min (F + j) 2147483647⟩] ∧ Un (fun b => b = a.S) W3 wr)) (fun iv _ => S - (intOf iv).toNat)
  case atStart =>
    refine ⟨0, Nat.zero_le _, rfl, X, ?_, Un.refl _ _⟩
    have e : min (F + ((0 : Nat) : Int)) 2147483647 = F := by have := HX.out; omega
    rw [e]
    exact HRUN.out.below HB3.out
  case round =>
    clear hW1 hW2 hW3 k0 k1 k2 k3 q4 z4 c2
    obtain ⟨j, hj, rfl, HR⟩ := hrel
    obtain ⟨X1, hrun, hun⟩ := HR.out
    by_cases hlt : j < S
    · have KST := hidM (half_go (k := F) (y := min (F + j) 2147483647) HX.out.1 HX.out.2 isP_0 isP_0 wr R a X1 hrun (by have := HB2.out.size; have := HB3.out.size; have := hun.size; omega) (.slice (some ⟨w2.heap.size + 1, 0, none⟩) 1 1) (HVS.out.un hun (fun b _ e => .inr e)))
      have HUN := hidM hun
      clear hrun hun
      go_wp2_with (go_at_call 12; (with_reducible refine KST.out.mono ?_); rintro e w4 ⟨UB, rfl, hrun4, hun4, -⟩; have HRUN4 := hidM hrun4; have HUN4 := hidM hun4; clear hrun4 hun4)
      go_roundw
      case rel =>
        refine ⟨j + 1, by omega, by go_num, ?_⟩
        obtain ⟨X4, h4⟩ := HRUN4.out
        rw [half_more HX.out.1 HX.out.2 j] at h4
        exact ⟨X4, h4, HUN.out.trans HUN4.out⟩
      case measure => simp [intOf]; omega
    · have hjS : j = S := by omega
      subst hjS
      have KSL := hidM (half_slot (k := F) HX.out.1 HX.out.2 wr R a X1 hrun)
      have HRN := hidM hrun
      have HUN := hidM hun
      have ew : IntKind.i64.wrap (F + (j : Int)) = F + (j : Int) := by rw [IntKind.wrap_i64]; omega
      clear hrun hun
      obtain ⟨Q, hQ⟩ : ∃ Q, min (F + (j : Int)) 2147483647 = Q := ⟨_, rfl⟩
      rw [hQ] at KSL
      go_wp2_with (first
        | (go_at_call 16; (with_reducible refine KSL.out.mono ?_); rintro e w5 ⟨p5, d5, rfl, hb5⟩; have HB5 := hidM hb5; clear hb5)
        | (go_at_call 10; refine (KSU.out _).mono ?_; rintro e w6 ⟨rfl, hb6⟩; have HB6 := hidM hb6; clear hb6))
      go_ret
      have hS := HRN.out.bS
      have hs2 := HB2.out.size
      have hs3 := HB3.out.size
      have hs4 := HBW2.out.size
      have hA : Below w.heap.size w W3 := bel HBW2.out (bel HB2.out HB3.out)
      have hC : Below w.heap.size W3 wr := HUN.out.below (by omega) (fun b e => by omega)
      exact ⟨rfl, (hA.trans hC).trans ((bel HB5.out HB6.out).mono (by have := hC.size; omega))⟩

end Go.Proofs.YtholhpmnicibgaaGreat
