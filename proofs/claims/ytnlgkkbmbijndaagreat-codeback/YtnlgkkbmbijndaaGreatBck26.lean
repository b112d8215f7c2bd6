import Derived.Test.YtnlgkkbmbijndaaGreatBck25
/- The reference of layer 16: fits. -/
namespace Go.Proofs.YtnlgkkbmbijndaaGreat
open Go.RowKit
set_option linter.unusedVariables false
set_option linter.unusedSimpArgs false

/-- The letters of a row, as Row tells them. -/
theorem rrow_lt (op : Int) (hk : knownP op = true) : ∃ a b c d e : UInt8, ((a.toNat : Int) = (ltR op).a ∧ (b.toNat : Int) = (ltR op).b ∧ (c.toNat : Int) = (ltR op).c ∧ (d.toNat : Int) = (ltR op).d ∧ (e.toNat : Int) = (ltR op).e) ∧ ∀ w, Calls Tryz.prog 48 #[.int .i64 op] w fun x w' => x = .returned (.tuple #[.string ⟨#[a, b, c, d, e]⟩, .bool true]) ∧ w' = w := by
  have hh : 1 ≤ op ∧ op ≤ 37 := by unfold knownP at hk; simp at hk; omega
  clear hk
  have : op = 1 ∨ op = 2 ∨ op = 3 ∨ op = 4 ∨ op = 5 ∨ op = 6 ∨ op = 7 ∨ op = 8 ∨ op = 9 ∨ op = 10 ∨ op = 11 ∨ op = 12 ∨ op = 13 ∨ op = 14 ∨ op = 15 ∨ op = 16 ∨ op = 17 ∨ op = 18 ∨ op = 19 ∨ op = 20 ∨ op = 21 ∨ op = 22 ∨ op = 23 ∨ op = 24 ∨ op = 25 ∨ op = 26 ∨ op = 27 ∨ op = 28 ∨ op = 29 ∨ op = 30 ∨ op = 31 ∨ op = 32 ∨ op = 33 ∨ op = 34 ∨ op = 35 ∨ op = 36 ∨ op = 37 := by omega
  rcases this with rfl | rfl | rfl | rfl | rfl | rfl | rfl | rfl | rfl | rfl | rfl | rfl | rfl | rfl | rfl | rfl | rfl | rfl | rfl | rfl | rfl | rfl | rfl | rfl | rfl | rfl | rfl | rfl | rfl | rfl | rfl | rfl | rfl | rfl | rfl | rfl | rfl
  · exact ⟨_, _, _, _, _, ⟨rfl, rfl, rfl, rfl, rfl⟩, fun w => rrow_1 w⟩
  · exact ⟨_, _, _, _, _, ⟨rfl, rfl, rfl, rfl, rfl⟩, fun w => rrow_2 w⟩
  · exact ⟨_, _, _, _, _, ⟨rfl, rfl, rfl, rfl, rfl⟩, fun w => rrow_3 w⟩
  · exact ⟨_, _, _, _, _, ⟨rfl, rfl, rfl, rfl, rfl⟩, fun w => rrow_4 w⟩
  · exact ⟨_, _, _, _, _, ⟨rfl, rfl, rfl, rfl, rfl⟩, fun w => rrow_5 w⟩
  · exact ⟨_, _, _, _, _, ⟨rfl, rfl, rfl, rfl, rfl⟩, fun w => rrow_6 w⟩
  · exact ⟨_, _, _, _, _, ⟨rfl, rfl, rfl, rfl, rfl⟩, fun w => rrow_7 w⟩
  · exact ⟨_, _, _, _, _, ⟨rfl, rfl, rfl, rfl, rfl⟩, fun w => rrow_8 w⟩
  · exact ⟨_, _, _, _, _, ⟨rfl, rfl, rfl, rfl, rfl⟩, fun w => rrow_9 w⟩
  · exact ⟨_, _, _, _, _, ⟨rfl, rfl, rfl, rfl, rfl⟩, fun w => rrow_10 w⟩
  · exact ⟨_, _, _, _, _, ⟨rfl, rfl, rfl, rfl, rfl⟩, fun w => rrow_11 w⟩
  · exact ⟨_, _, _, _, _, ⟨rfl, rfl, rfl, rfl, rfl⟩, fun w => rrow_12 w⟩
  · exact ⟨_, _, _, _, _, ⟨rfl, rfl, rfl, rfl, rfl⟩, fun w => rrow_13 w⟩
  · exact ⟨_, _, _, _, _, ⟨rfl, rfl, rfl, rfl, rfl⟩, fun w => rrow_14 w⟩
  · exact ⟨_, _, _, _, _, ⟨rfl, rfl, rfl, rfl, rfl⟩, fun w => rrow_15 w⟩
  · exact ⟨_, _, _, _, _, ⟨rfl, rfl, rfl, rfl, rfl⟩, fun w => rrow_16 w⟩
  · exact ⟨_, _, _, _, _, ⟨rfl, rfl, rfl, rfl, rfl⟩, fun w => rrow_17 w⟩
  · exact ⟨_, _, _, _, _, ⟨rfl, rfl, rfl, rfl, rfl⟩, fun w => rrow_18 w⟩
  · exact ⟨_, _, _, _, _, ⟨rfl, rfl, rfl, rfl, rfl⟩, fun w => rrow_19 w⟩
  · exact ⟨_, _, _, _, _, ⟨rfl, rfl, rfl, rfl, rfl⟩, fun w => rrow_20 w⟩
  · exact ⟨_, _, _, _, _, ⟨rfl, rfl, rfl, rfl, rfl⟩, fun w => rrow_21 w⟩
  · exact ⟨_, _, _, _, _, ⟨rfl, rfl, rfl, rfl, rfl⟩, fun w => rrow_22 w⟩
  · exact ⟨_, _, _, _, _, ⟨rfl, rfl, rfl, rfl, rfl⟩, fun w => rrow_23 w⟩
  · exact ⟨_, _, _, _, _, ⟨rfl, rfl, rfl, rfl, rfl⟩, fun w => rrow_24 w⟩
  · exact ⟨_, _, _, _, _, ⟨rfl, rfl, rfl, rfl, rfl⟩, fun w => rrow_25 w⟩
  · exact ⟨_, _, _, _, _, ⟨rfl, rfl, rfl, rfl, rfl⟩, fun w => rrow_26 w⟩
  · exact ⟨_, _, _, _, _, ⟨rfl, rfl, rfl, rfl, rfl⟩, fun w => rrow_27 w⟩
  · exact ⟨_, _, _, _, _, ⟨rfl, rfl, rfl, rfl, rfl⟩, fun w => rrow_28 w⟩
  · exact ⟨_, _, _, _, _, ⟨rfl, rfl, rfl, rfl, rfl⟩, fun w => rrow_29 w⟩
  · exact ⟨_, _, _, _, _, ⟨rfl, rfl, rfl, rfl, rfl⟩, fun w => rrow_30 w⟩
  · exact ⟨_, _, _, _, _, ⟨rfl, rfl, rfl, rfl, rfl⟩, fun w => rrow_31 w⟩
  · exact ⟨_, _, _, _, _, ⟨rfl, rfl, rfl, rfl, rfl⟩, fun w => rrow_32 w⟩
  · exact ⟨_, _, _, _, _, ⟨rfl, rfl, rfl, rfl, rfl⟩, fun w => rrow_33 w⟩
  · exact ⟨_, _, _, _, _, ⟨rfl, rfl, rfl, rfl, rfl⟩, fun w => rrow_34 w⟩
  · exact ⟨_, _, _, _, _, ⟨rfl, rfl, rfl, rfl, rfl⟩, fun w => rrow_35 w⟩
  · exact ⟨_, _, _, _, _, ⟨rfl, rfl, rfl, rfl, rfl⟩, fun w => rrow_36 w⟩
  · exact ⟨_, _, _, _, _, ⟨rfl, rfl, rfl, rfl, rfl⟩, fun w => rrow_37 w⟩
/-- Which letters there are. -/
def letOK (b : Int) : Prop := b = 45 ∨ b = 110 ∨ b = 119 ∨ b = 118 ∨ b = 100 ∨ b = 120 ∨ b = 99 ∨ b = 97
instance (b : Int) : Decidable (letOK b) := by unfold letOK; infer_instance
def okL (L : Lt) : Bool := decide (letOK L.a) && (decide (letOK L.b) && (decide (letOK L.c) && (decide (letOK L.d) && (decide (L.e = 45 ∨ L.e = 105 ∨ L.e = 112 ∨ L.e = 115 ∨ L.e = 113) && decide (L.e = 112 → L.a = 118 ∨ (L.a = 45 ∧ L.b = 118))))))
theorem okL_ite {p : Prop} [Decidable p] {x y : Lt} (h : okL x = true) (k : okL y = true) : okL (if p then x else y) = true := by
  split
  · exact h
  · exact k
theorem ltR_okL (op : Int) : okL (ltR op) = true := by
  unfold ltR
  iterate 19 refine okL_ite (by decide) ?_
  decide
theorem ltR_ok (op : Int) : letOK (ltR op).a ∧ letOK (ltR op).b ∧ letOK (ltR op).c ∧ letOK (ltR op).d ∧ ((ltR op).e = 45 ∨ (ltR op).e = 105 ∨ (ltR op).e = 112 ∨ (ltR op).e = 115 ∨ (ltR op).e = 113) ∧ ((ltR op).e = 112 → (ltR op).a = 118 ∨ ((ltR op).a = 45 ∧ (ltR op).b = 118)) := by
  have := ltR_okL op
  unfold okL at this
  simp only [Bool.and_eq_true, decide_eq_true_eq] at this
  exact this

set_option maxRecDepth 100000 in
set_option maxHeartbeats 2000000 in
theorem rfits_no (v0 v1 v2 v3 : Value) (i : Ins) (h0 : 0 ≤ i.bits) (h1 : i.bits < 4294967296) (h : (knownP i.op && ((i.op == 1 || i.bits == 0) && toldB i.bits)) = false) (w : World) :
    Calls Tryz.prog 68 #[.agg #[v0, v1, v2, v3], insV i] w fun e w' => e = .returned (.bool false) ∧ Below w.heap.size w w' := by
  have HCAN : Hid (∀ w, Calls Tryz.prog 67 #[.int .u32 i.bits] w fun e w' => e = .returned (.bool (toldB i.bits)) ∧ Below w.heap.size w w') := rcanonical_any i.bits h0 h1
  cases hk : knownP i.op
  · have HROW : Hid (∀ w, Calls Tryz.prog 48 #[.int .i64 i.op] w fun e w' => e = .returned (.tuple #[.string ⟨#[]⟩, .bool false]) ∧ w' = w) := rrow_none i.op hk
    obtain ⟨op, D, A, B, E, n, bt⟩ := i
    unfold insV
    simp only at HROW HCAN ⊢
    clear h hk
    go_enter Tryz.func68, Tryz.ntmps68
    go_wp2_with (go_at_call 48; refine (HROW.out _).mono ?_; rintro e w1 ⟨rfl, rfl⟩)
    go_ret
    exact ⟨rfl, bel (bel_alloc _ _) (bel_alloc _ _)⟩
  · obtain ⟨a, b, c, d, e, -, hc⟩ := rrow_lt i.op hk
    have HROW : Hid (∀ w, Calls Tryz.prog 48 #[.int .i64 i.op] w fun x w' => x = .returned (.tuple #[.string ⟨#[a, b, c, d, e]⟩, .bool true]) ∧ w' = w) := hc
    rw [hk, Bool.true_and] at h
    clear hc hk
    obtain ⟨op, D, A, B, E, n, bt⟩ := i
    unfold insV
    simp only at HROW HCAN h ⊢
    cases ho : (op == 1)
    · have ho' : (op != 1) = true := by simpa using ho
      cases hz : (bt == 0)
      · have hz' : (bt != 0) = true := by simpa using hz
        clear h
        go_enter Tryz.func68, Tryz.ntmps68
        go_wp2_with (go_at_call 48; refine (HROW.out _).mono ?_; rintro e w1 ⟨rfl, rfl⟩)
        go_ret
        exact ⟨rfl, bel (bel_alloc _ _) (bel_alloc _ _)⟩
      · rw [ho, hz, Bool.false_or, Bool.true_and] at h
        rw [h] at HCAN
        have hz' : (bt != 0) = false := by simpa using hz
        clear h
        go_enter Tryz.func68, Tryz.ntmps68
        go_wp2_with (first
          | (go_at_call 48; refine (HROW.out _).mono ?_; rintro e w1 ⟨rfl, rfl⟩)
          | (go_at_call 67; refine (HCAN.out _).mono ?_; rintro e w2 ⟨rfl, hb2⟩; have HB2 : Hid _ := hb2; clear hb2))
        go_ret
        exact ⟨rfl, bel (bel (bel_alloc _ _) (bel_alloc _ _)) HB2.out⟩
    · rw [ho, Bool.true_or, Bool.true_and] at h
      rw [h] at HCAN
      have ho' : (op != 1) = false := by simpa using ho
      clear h
      go_enter Tryz.func68, Tryz.ntmps68
      go_wp2_with (first
        | (go_at_call 48; refine (HROW.out _).mono ?_; rintro e w1 ⟨rfl, rfl⟩)
        | (go_at_call 67; refine (HCAN.out _).mono ?_; rintro e w2 ⟨rfl, hb2⟩; have HB2 : Hid _ := hb2; clear hb2))
      go_ret
      exact ⟨rfl, bel (bel (bel_alloc _ _) (bel_alloc _ _)) HB2.out⟩

/-- The worlds behind the boxes: the code's at the beginning, the instruction's at J. -/
structure TW (w : World) (v0 v1 v2 v3 : Value) (J : Nat) (op D A B E n bt : Int) (v : World) : Prop where
  bel : Below w.heap.size w v
  c0 : v.cell? ⟨w.heap.size, 0, none⟩ = some v0
  c1 : v.cell? ⟨w.heap.size, 1, none⟩ = some v1
  c2 : v.cell? ⟨w.heap.size, 2, none⟩ = some v2
  c3 : v.cell? ⟨w.heap.size, 3, none⟩ = some v3
  i0 : v.cell? ⟨J, 0, none⟩ = some (.int .i64 op)
  i1 : v.cell? ⟨J, 1, none⟩ = some (.int .i64 D)
  i2 : v.cell? ⟨J, 2, none⟩ = some (.int .i64 A)
  i3 : v.cell? ⟨J, 3, none⟩ = some (.int .i64 B)
  i4 : v.cell? ⟨J, 4, none⟩ = some (.int .i64 E)
  i5 : v.cell? ⟨J, 5, none⟩ = some (.int .i64 n)
  i6 : v.cell? ⟨J, 6, none⟩ = some (.int .u32 bt)
theorem TW.next {w : World} {v0 v1 v2 v3 : Value} {J : Nat} {op D A B E n bt : Int} {v v' : World} (h : TW w v0 v1 v2 v3 J op D A B E n bt v) (k : Below v.heap.size v v') : TW w v0 v1 v2 v3 J op D A B E n bt v' :=
  ⟨Go.Proofs.YtnlgkkbmbijndaaGreat.bel h.bel k, kc k h.c0, kc k h.c1, kc k h.c2, kc k h.c3, kc k h.i0, kc k h.i1, kc k h.i2, kc k h.i3, kc k h.i4, kc k h.i5, kc k h.i6⟩
theorem TW.keep {w : World} {v0 v1 v2 v3 : Value} {J : Nat} {op D A B E n bt : Int} {v : World} (h : TW w v0 v1 v2 v3 J op D A B E n bt v) {g o : Nat} (x : Value) (h1 : w.heap.size < g) (h2 : g ≠ J) : TW w v0 v1 v2 v3 J op D A B E n bt (v.setCell ⟨g, o, none⟩ x) := by
  have f1 : ∀ j, (v.setCell ⟨g, o, none⟩ x).cell? ⟨w.heap.size, j, none⟩ = v.cell? ⟨w.heap.size, j, none⟩ := fun j => World.cell?_of_block (Below.heap_setCell _ _ _ _ (by show w.heap.size ≠ g; omega))
  have f2 : ∀ j, (v.setCell ⟨g, o, none⟩ x).cell? ⟨J, j, none⟩ = v.cell? ⟨J, j, none⟩ := fun j => World.cell?_of_block (Below.heap_setCell _ _ _ _ (by show J ≠ g; omega))
  exact ⟨h.bel.setCell (by show w.heap.size ≤ g; omega) _, (f1 0).trans h.c0, (f1 1).trans h.c1, (f1 2).trans h.c2, (f1 3).trans h.c3, (f2 0).trans h.i0, (f2 1).trans h.i1, (f2 2).trans h.i2, (f2 3).trans h.i3, (f2 4).trans h.i4, (f2 5).trans h.i5, (f2 6).trans h.i6⟩
theorem TW.start (w : World) (v0 v1 v2 v3 : Value) (op D A B E n bt : Int) : TW w v0 v1 v2 v3 (w.heap.size + 1) op D A B E n bt ((w.alloc (.cells #[v0, v1, v2, v3] 27)).alloc (.cells #[.int .i64 op, .int .i64 D, .int .i64 A, .int .i64 B, .int .i64 E, .int .i64 n, .int .u32 bt] 70)) := by
  have k := bel_alloc (w.alloc (.cells #[v0, v1, v2, v3] 27)) (.cells #[.int .i64 op, .int .i64 D, .int .i64 A, .int .i64 B, .int .i64 E, .int .i64 n, .int .u32 bt] 70)
  exact ⟨Go.Proofs.YtnlgkkbmbijndaaGreat.bel (bel_alloc _ _) k, kc k (by simp [go_sem]), kc k (by simp [go_sem]), kc k (by simp [go_sem]), kc k (by simp [go_sem]), by simp [go_sem], by simp [go_sem], by simp [go_sem], by simp [go_sem], by simp [go_sem], by simp [go_sem], by simp [go_sem]⟩

theorem bel_drewR {n : Nat} {w v : World} (h : Below n w v) : Below n w v.drew := h.drew

end Go.Proofs.YtnlgkkbmbijndaaGreat
