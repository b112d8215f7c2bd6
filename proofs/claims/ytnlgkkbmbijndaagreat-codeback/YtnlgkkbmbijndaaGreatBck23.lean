import Derived.Test.YtnlgkkbmbijndaaGreatBck20
import Derived.Test.YtnlgkkbmbijndaaGreatBck21
import Derived.Test.YtnlgkkbmbijndaaGreatBck22
import Derived.Deep.DeepCutAuto
import Derived.Defers
import Derived.Recover
import Derived.Laws.Pointers
import Derived.Test.YtnlgkkbmbijndaaGreatBck14
/- Package code: the reader: code. By program (tool/layer25/gencode.py). -/
namespace Go.Proofs.YtnlgkkbmbijndaaGreat
open Go.RowKit
set_option linter.unusedVariables false
set_option linter.unusedSimpArgs false

/-- What the reading of a code tells. -/
def RdC (E RB : Nat) (s : ByteArray) (w : World) (q : Except (Int × Nat) (Cd × List Nat × Nat)) (e : Ending) (w' : World) : Prop :=
  match q with
  | .error (er, at_) => e = flt er at_ ∧ Below E w w' ∧ RdO RB w w'
  | .ok (c, l', A') => ∃ p0 q0 p1 q1 p2 q2 p3 q3, e = .returned (.agg #[.slice p0 c.sign.length q0, .slice p1 c.regs.length q1, .slice p2 c.slots.length q2, .slice p3 c.list.length q3]) ∧ Own4 w.heap.size w' (.slice p0 c.sign.length q0) (.slice p1 c.regs.length q1) (.slice p2 c.slots.length q2) (.slice p3 c.list.length q3) c ∧ Below E w w' ∧ RdO RB w w' ∧ RdM E RB s A' w' ∧ A' ≤ s.size ∧ l' = (bytN s).drop A'
theorem Rds.badC {E RB : Nat} {s : ByteArray} {A : Nat} {w v v' : World} (h : Rds E RB s A w v) (er : Int) (at_ : Nat) (a : Below E v v') (b : RdO RB v v') : RdC E RB s w (.error (er, at_)) (flt er at_) v' := ⟨rfl, h.1.trans a, h.2.1.trans b⟩
theorem own_to {B B' : Nat} {w : World} {t : TypeId} {k n : Nat} {u : Value} {xs : List Value} (h : w.ownsRow B t k u n xs) (hB : B' ≤ B) : w.ownsRow B' t k u n xs := ⟨h.1, h.2.imp id fun ⟨g, cap, cur, e, hb, r⟩ => ⟨g, cap, cur, e, Nat.le_trans hB hb, r⟩⟩
theorem own_rdo {B RB : Nat} {w w' : World} {t : TypeId} {k n : Nat} {u : Value} {xs : List Value} (h : w.ownsRow B t k u n xs) (hR : RB < B) (r : RdO RB w w') : w'.ownsRow B t k u n xs := own_keep h fun b hb => r.2 b (h.lt b hb).2 (by have := (h.lt b hb).1; omega)
theorem own_setb {B Y o : Nat} {w : World} {x : Value} {t : TypeId} {k n : Nat} {u : Value} {xs : List Value} (h : w.ownsRow B t k u n xs) (hY : Y < B) : (w.setCell ⟨Y, o, none⟩ x).ownsRow B t k u n xs := own_keep h fun b hb => Below.heap_setCell _ _ _ _ (by show b ≠ Y; have := (h.lt b hb).1; omega)

set_option maxRecDepth 100000 in
set_option maxHeartbeats 16000000 in
theorem rcode_any (E RB : Nat) (s : ByteArray) (w : World) (h : RdM E RB s 0 w) (hs : s.size ≤ 140737488355328) (hE : E ≤ w.heap.size) :
    Calls Tryz.prog 26 #[.pointer (some ⟨RB, 0, none⟩)] w (RdC E RB s w (pAll (bytN s) 0)) := by
  have hmf : ∀ (fn : Fn) (first cap : Array Value) (w : World), (Instr.makeFunc fn first cap).run Tryz.prog w = .ok (.func fn first cap) w := fun _ _ _ _ => rfl
  obtain ⟨W0, hW0⟩ : ∃ W, w.alloc (.cells #[.slice none 0 0, .slice none 0 0, .slice none 0 0, .slice none 0 0] 27) = W := ⟨_, rfl⟩
  have hb0 : Below w.heap.size w W0 := by rw [← hW0]; exact bel_alloc _ _
  have h0 := h.below hb0
  have hE0 : E ≤ W0.heap.size := Nat.le_trans hE hb0.size
  obtain ⟨X, hX⟩ : ∃ X, w.heap.size = X := ⟨_, rfl⟩
  have hXR : X ≠ RB := by have := h.b.lt; omega
  have hr0 : W0.rowIs X 27 4 (f4 (.slice none 0 0) (.slice none 0 0) (.slice none 0 0) (.slice none 0 0)) := by
    rw [← hW0, ← hX]
    exact World.rowIs_alloc w #[.slice none 0 0, .slice none 0 0, .slice none 0 0, .slice none 0 0] 27 _ (fun i hi => by
      rcases (show i = 0 ∨ i = 1 ∨ i = 2 ∨ i = 3 by have : i < 4 := hi; omega) with rfl | rfl | rfl | rfl <;> rfl)
  have KS := mark_any E RB s W0 h0 hs hE0
  obtain ⟨R, hR⟩ : ∃ R, pAll (bytN s) 0 = R := ⟨_, rfl⟩
  rw [hR]
  unfold pAll at hR
  have HRS := hidC ((Rds.start h).below hE hb0)
  cases hq : pMark (bytN s) 0 with
  | error er =>
    obtain ⟨er, at_⟩ := er
    have HP : R = .error (er, at_) := by rw [← hR]; exact pBind_err hq
    rw [hq] at KS
    have KS' := hidC KS
    have HG : Hid (∀ w', Below E W0 w' → RdO RB W0 w' → RdC E RB s w R (flt er at_) w') := fun w' a b => by rw [HP]; exact HRS.out.badC er at_ a b
    unfold RdT flt at KS'
    unfold flt at HG
    simp only at KS'
    clear h h0 hb0 hr0 KS hq HP hR hX hXR hE0
    go_enter Tryz.func26, Tryz.ntmps26
    go_upto_region 1 with fail
    try rw [hW0]
    clear hW0
    go_wp2_with (go_at_call 49; (with_reducible refine KS'.out.mono ?_); rintro e9 w4 ⟨rfl, hb4, ho4⟩; have HR5 := hidC (HG.out _ hb4 ho4); clear hb4 ho4)
    exact ⟨rfl, HR5.out⟩
  | ok r =>
    obtain ⟨u9, l', A0⟩ := r
    rw [pBind_at hq] at hR
    unfold pCode at hR
    rw [hq] at KS
    have KS' := hidC KS
    unfold RdT at KS'
    simp only at KS'
    have HR0 := hidC hr0
    have HRB := hidC h.b.lt
    have HX : Hid (w.heap.size ≤ X) := Nat.le_of_eq hX
    have HRR := hidC hR
    clear h h0 hb0 hr0 KS hE0 hR hq
    go_enter Tryz.func26, Tryz.ntmps26
    go_upto_region 1 with fail
    try rw [hW0]
    try rw [hX]
    clear hW0 hX
    go_upto_region 3 with (go_at_call 49; (with_reducible refine KS'.out.mono ?_); rintro e9 w4 ⟨rfl, hb4, ho4, hm4, hl4, hd4⟩; have HB4 := hidC hb4; have HO4 := hidC ho4; have HM4 := hidC hm4; have HD4 := hidC hd4; have HL0 := hidC hl4; clear hb4 ho4 hm4 hl4 hd4)
    obtain ⟨Y, hY⟩ : ∃ Y, w4.heap.size = Y := ⟨_, rfl⟩
    obtain ⟨V0, hV⟩ : ∃ V, w4.alloc (.cells #[.slice none 0 0, .slice none 0 0, .slice none 0 0, .slice none 0 0] 27) = V := ⟨_, rfl⟩
    have hbV : Below w4.heap.size w4 V0 := by rw [← hV]; exact bel_alloc _ _
    have r4 := rdo_row HO4.out HR0.out hXR
    have rx0 := r4.of_block (hbV.block _ r4.lt)
    have ry0 : V0.rowIs Y 27 4 (f4 (.slice none 0 0) (.slice none 0 0) (.slice none 0 0) (.slice none 0 0)) := by
      rw [← hV, ← hY]
      exact World.rowIs_alloc w4 #[.slice none 0 0, .slice none 0 0, .slice none 0 0, .slice none 0 0] 27 _ (fun i hi => by
        rcases (show i = 0 ∨ i = 1 ∨ i = 2 ∨ i = 3 by have : i < 4 := hi; omega) with rfl | rfl | rfl | rfl <;> rfl)
    have hXY : X ≠ Y := by have := r4.lt; omega
    have hXl : X < Y + 1 := by have := r4.lt; omega
    have hYR : Y ≠ RB := by have := HM4.out.b.lt; omega
    have hRY : RB < Y + 1 := by have := HM4.out.b.lt; omega
    have hwY : w.heap.size ≤ Y := by have := r4.lt; have := HX.out; omega
    have D0 : Rds E RB s A0 w V0 := ((HRS.out.next HB4.out HO4.out HM4.out).below hE hbV)
    have hR := HRR.out
    rw [HD4.out] at hR
    try rw [hV]
    try rw [hY]
    clear hV hY hbV HRR KS' HB4 HO4 HM4 HD4 HR0 HRS r4

    have KN := rlistP_any E RB s A0 V0 D0.2.2 HL0.out hs (Nat.le_trans hE D0.2.1.1)
    cases hq0 : pLst 64 pPar ((bytN s).drop A0) A0 with
    | error er =>
      obtain ⟨er, at_⟩ := er
      rw [pBind_err hq0] at hR
      rw [hq0] at KN
      have KN' := hidC KN
      unfold RdL flt at KN'
      simp only at KN'
      have HG : Hid (∀ w', Below E V0 w' → RdO RB V0 w' → RdC E RB s w R (flt er at_) w') := fun w' a b => by rw [← hR]; exact D0.badC er at_ a b
      unfold flt at HG
      clear D0 KN hq0 hR rx0 ry0
      go_wp2_with (go_at_call 50; (with_reducible refine KN'.out.mono ?_); rintro e9 w7 ⟨rfl, hb7, ho7⟩; have HR7 := hidC (HG.out _ hb7 ho7); clear hb7 ho7)
      exact ⟨rfl, HR7.out⟩
    | ok r =>
      obtain ⟨s0, l0, A1⟩ := r
      rw [pBind_at hq0] at hR
      rw [hq0] at KN
      have KN' := hidC KN
      unfold RdL at KN'
      simp only at KN'
      have HYV : Hid (Y + 1 ≤ V0.heap.size) := ry0.lt
      have HG : Hid (∀ w', Below E V0 w' → RdO RB V0 w' → RdM E RB s A1 w' → Rds E RB s A1 w w' ∧ w'.rowIs X 27 4 (f4 (.slice none 0 0) (.slice none 0 0) (.slice none 0 0) (.slice none 0 0)) ∧ w'.rowIs Y 27 4 (f4 (.slice none 0 0) (.slice none 0 0) (.slice none 0 0) (.slice none 0 0))) := fun w' a b c => ⟨D0.next a b c, rdo_row b rx0 hXR, rdo_row b ry0 hYR⟩
      have HRR := hidC hR
      clear D0 KN hq0 hR rx0 ry0
      go_upto_region 4 with (go_at_call 50; (with_reducible refine KN'.out.mono ?_); rintro e9 w7 ⟨v7, rfl, hw7, hb7, ho7, hm7, hl7, hd7⟩; obtain ⟨p0, q0, rfl⟩ := own_len hw7; obtain ⟨D7, x7, z7⟩ := HG.out _ hb7 ho7 hm7; have HL1 := hidC hl7; have HD7 := hidC hd7; have HW7 := hidC (own_to hw7 HYV.out); have y7 : w7.cell? ⟨Y, 0, none⟩ = some (.slice none 0 0) := z7.cell (i := 0) (by decide); have f7 := z7.frozen 0; clear hb7 ho7 hm7 hl7 hd7 hw7)
      obtain ⟨V1, hV3⟩ : ∃ V3, w7.setCell ⟨Y, 0, none⟩ (.slice p0 s0.length q0) = V3 := ⟨_, rfl⟩
      have rx1 := x7.of_block (w' := V1) (by rw [← hV3]; exact Below.heap_setCell _ _ _ _ hXY)
      have ry1 : V1.rowIs Y 27 4 (f4 (.slice p0 s0.length q0) (.slice none 0 0) (.slice none 0 0) (.slice none 0 0)) := by
        rw [← hV3]
        exact (z7.set 0 (.slice p0 s0.length q0)).congr fun j hj => by
          rcases (show j = 0 ∨ j = 1 ∨ j = 2 ∨ j = 3 by omega) with rfl | rfl | rfl | rfl <;> rfl
      have D1 : Rds E RB s A1 w V1 := by rw [← hV3]; exact D7.set hE HRB.out hwY 0 _
      have o0 : V1.ownsRow (Y + 1) 59 3 (.slice p0 s0.length q0) s0.length (flat parCells s0) := by rw [← hV3]; exact own_setb HW7.out (by omega)
      have hR := HRR.out
      rw [HD7.out] at hR
      try rw [hV3]
      clear hV3 D7 x7 z7 y7 f7 KN' HG HRR HD7 HYV HW7
      have KN := rlistT_any E RB s A1 V1 D1.2.2 HL1.out hs (Nat.le_trans hE D1.2.1.1)
      cases hq1 : pLst 16384 pTy ((bytN s).drop A1) A1 with
      | error er =>
        obtain ⟨er, at_⟩ := er
        rw [pBind_err hq1] at hR
        rw [hq1] at KN
        have KN' := hidC KN
        unfold RdL flt at KN'
        simp only at KN'
        have HG : Hid (∀ w', Below E V1 w' → RdO RB V1 w' → RdC E RB s w R (flt er at_) w') := fun w' a b => by rw [← hR]; exact D1.badC er at_ a b
        unfold flt at HG
        clear D1 KN hq1 hR rx1 ry1 o0
        go_wp2_with (go_at_call 52; (with_reducible refine KN'.out.mono ?_); rintro e9 w7 ⟨rfl, hb7, ho7⟩; have HR7 := hidC (HG.out _ hb7 ho7); clear hb7 ho7)
        exact ⟨rfl, HR7.out⟩
      | ok r =>
        obtain ⟨s1, l1, A2⟩ := r
        rw [pBind_at hq1] at hR
        rw [hq1] at KN
        have KN' := hidC KN
        unfold RdL at KN'
        simp only at KN'
        have HYV : Hid (Y + 1 ≤ V1.heap.size) := ry1.lt
        have HG : Hid (∀ w', Below E V1 w' → RdO RB V1 w' → RdM E RB s A2 w' → Rds E RB s A2 w w' ∧ w'.rowIs X 27 4 (f4 (.slice none 0 0) (.slice none 0 0) (.slice none 0 0) (.slice none 0 0)) ∧ w'.rowIs Y 27 4 (f4 (.slice p0 s0.length q0) (.slice none 0 0) (.slice none 0 0) (.slice none 0 0)) ∧ w'.ownsRow (Y + 1) 59 3 (.slice p0 s0.length q0) s0.length (flat parCells s0)) := fun w' a b c => ⟨D1.next a b c, rdo_row b rx1 hXR, rdo_row b ry1 hYR, own_rdo o0 hRY b⟩
        have HRR := hidC hR
        clear D1 KN hq1 hR rx1 ry1 o0
        go_upto_region 5 with (go_at_call 52; (with_reducible refine KN'.out.mono ?_); rintro e9 w7 ⟨v7, rfl, hw7, hb7, ho7, hm7, hl7, hd7⟩; obtain ⟨p1, q1, rfl⟩ := own_len hw7; obtain ⟨D7, x7, z7, k0⟩ := HG.out _ hb7 ho7 hm7; have HL2 := hidC hl7; have HD7 := hidC hd7; have HW7 := hidC (own_to hw7 HYV.out); have y7 : w7.cell? ⟨Y, 1, none⟩ = some (.slice none 0 0) := z7.cell (i := 1) (by decide); have f7 := z7.frozen 1; clear hb7 ho7 hm7 hl7 hd7 hw7)
        obtain ⟨V2, hV3⟩ : ∃ V3, w7.setCell ⟨Y, 1, none⟩ (.slice p1 s1.length q1) = V3 := ⟨_, rfl⟩
        have rx2 := x7.of_block (w' := V2) (by rw [← hV3]; exact Below.heap_setCell _ _ _ _ hXY)
        have ry2 : V2.rowIs Y 27 4 (f4 (.slice p0 s0.length q0) (.slice p1 s1.length q1) (.slice none 0 0) (.slice none 0 0)) := by
          rw [← hV3]
          exact (z7.set 1 (.slice p1 s1.length q1)).congr fun j hj => by
            rcases (show j = 0 ∨ j = 1 ∨ j = 2 ∨ j = 3 by omega) with rfl | rfl | rfl | rfl <;> rfl
        have D2 : Rds E RB s A2 w V2 := by rw [← hV3]; exact D7.set hE HRB.out hwY 1 _
        have o0 : V2.ownsRow (Y + 1) 59 3 (.slice p0 s0.length q0) s0.length (flat parCells s0) := by rw [← hV3]; exact own_setb k0 (by omega)
        have o1 : V2.ownsRow (Y + 1) 62 2 (.slice p1 s1.length q1) s1.length (flat tyC s1) := by rw [← hV3]; exact own_setb HW7.out (by omega)
        have hR := HRR.out
        rw [HD7.out] at hR
        try rw [hV3]
        clear hV3 D7 x7 z7 y7 f7 KN' HG HRR HD7 HYV HW7 k0
        have KN := rlistS_any E RB s A2 V2 D2.2.2 HL2.out hs (Nat.le_trans hE D2.2.1.1)
        cases hq2 : pLst 4096 pSl ((bytN s).drop A2) A2 with
        | error er =>
          obtain ⟨er, at_⟩ := er
          rw [pBind_err hq2] at hR
          rw [hq2] at KN
          have KN' := hidC KN
          unfold RdL flt at KN'
          simp only at KN'
          have HG : Hid (∀ w', Below E V2 w' → RdO RB V2 w' → RdC E RB s w R (flt er at_) w') := fun w' a b => by rw [← hR]; exact D2.badC er at_ a b
          unfold flt at HG
          clear D2 KN hq2 hR rx2 ry2 o0 o1
          go_wp2_with (go_at_call 54; (with_reducible refine KN'.out.mono ?_); rintro e9 w7 ⟨rfl, hb7, ho7⟩; have HR7 := hidC (HG.out _ hb7 ho7); clear hb7 ho7)
          exact ⟨rfl, HR7.out⟩
        | ok r =>
          obtain ⟨s2, l2, A3⟩ := r
          rw [pBind_at hq2] at hR
          rw [hq2] at KN
          have KN' := hidC KN
          unfold RdL at KN'
          simp only at KN'
          have HYV : Hid (Y + 1 ≤ V2.heap.size) := ry2.lt
          have HG : Hid (∀ w', Below E V2 w' → RdO RB V2 w' → RdM E RB s A3 w' → Rds E RB s A3 w w' ∧ w'.rowIs X 27 4 (f4 (.slice none 0 0) (.slice none 0 0) (.slice none 0 0) (.slice none 0 0)) ∧ w'.rowIs Y 27 4 (f4 (.slice p0 s0.length q0) (.slice p1 s1.length q1) (.slice none 0 0) (.slice none 0 0)) ∧ w'.ownsRow (Y + 1) 59 3 (.slice p0 s0.length q0) s0.length (flat parCells s0) ∧ w'.ownsRow (Y + 1) 62 2 (.slice p1 s1.length q1) s1.length (flat tyC s1)) := fun w' a b c => ⟨D2.next a b c, rdo_row b rx2 hXR, rdo_row b ry2 hYR, own_rdo o0 hRY b, own_rdo o1 hRY b⟩
          have HRR := hidC hR
          clear D2 KN hq2 hR rx2 ry2 o0 o1
          go_upto_region 6 with (go_at_call 54; (with_reducible refine KN'.out.mono ?_); rintro e9 w7 ⟨v7, rfl, hw7, hb7, ho7, hm7, hl7, hd7⟩; obtain ⟨p2, q2, rfl⟩ := own_len hw7; obtain ⟨D7, x7, z7, k0, k1⟩ := HG.out _ hb7 ho7 hm7; have HL3 := hidC hl7; have HD7 := hidC hd7; have HW7 := hidC (own_to hw7 HYV.out); have y7 : w7.cell? ⟨Y, 2, none⟩ = some (.slice none 0 0) := z7.cell (i := 2) (by decide); have f7 := z7.frozen 2; clear hb7 ho7 hm7 hl7 hd7 hw7)
          obtain ⟨V3, hV3⟩ : ∃ V3, w7.setCell ⟨Y, 2, none⟩ (.slice p2 s2.length q2) = V3 := ⟨_, rfl⟩
          have rx3 := x7.of_block (w' := V3) (by rw [← hV3]; exact Below.heap_setCell _ _ _ _ hXY)
          have ry3 : V3.rowIs Y 27 4 (f4 (.slice p0 s0.length q0) (.slice p1 s1.length q1) (.slice p2 s2.length q2) (.slice none 0 0)) := by
            rw [← hV3]
            exact (z7.set 2 (.slice p2 s2.length q2)).congr fun j hj => by
              rcases (show j = 0 ∨ j = 1 ∨ j = 2 ∨ j = 3 by omega) with rfl | rfl | rfl | rfl <;> rfl
          have D3 : Rds E RB s A3 w V3 := by rw [← hV3]; exact D7.set hE HRB.out hwY 2 _
          have o0 : V3.ownsRow (Y + 1) 59 3 (.slice p0 s0.length q0) s0.length (flat parCells s0) := by rw [← hV3]; exact own_setb k0 (by omega)
          have o1 : V3.ownsRow (Y + 1) 62 2 (.slice p1 s1.length q1) s1.length (flat tyC s1) := by rw [← hV3]; exact own_setb k1 (by omega)
          have o2 : V3.ownsRow (Y + 1) 66 5 (.slice p2 s2.length q2) s2.length (flat slC s2) := by rw [← hV3]; exact own_setb HW7.out (by omega)
          have hR := HRR.out
          rw [HD7.out] at hR
          try rw [hV3]
          clear hV3 D7 x7 z7 y7 f7 KN' HG HRR HD7 HYV HW7 k0 k1
          have KN := rlistI_any E RB s A3 V3 D3.2.2 HL3.out hs (Nat.le_trans hE D3.2.1.1)
          cases hq3 : pLst 32768 pIns ((bytN s).drop A3) A3 with
          | error er =>
            obtain ⟨er, at_⟩ := er
            rw [pBind_err hq3] at hR
            rw [hq3] at KN
            have KN' := hidC KN
            unfold RdL flt at KN'
            simp only at KN'
            have HG : Hid (∀ w', Below E V3 w' → RdO RB V3 w' → RdC E RB s w R (flt er at_) w') := fun w' a b => by rw [← hR]; exact D3.badC er at_ a b
            unfold flt at HG
            clear D3 KN hq3 hR rx3 ry3 o0 o1 o2
            go_wp2_with (go_at_call 56; (with_reducible refine KN'.out.mono ?_); rintro e9 w7 ⟨rfl, hb7, ho7⟩; have HR7 := hidC (HG.out _ hb7 ho7); clear hb7 ho7)
            exact ⟨rfl, HR7.out⟩
          | ok r =>
            obtain ⟨s3, l3, A4⟩ := r
            rw [pBind_at hq3] at hR
            rw [hq3] at KN
            have KN' := hidC KN
            unfold RdL at KN'
            simp only at KN'
            have HYV : Hid (Y + 1 ≤ V3.heap.size) := ry3.lt
            have HG : Hid (∀ w', Below E V3 w' → RdO RB V3 w' → RdM E RB s A4 w' → Rds E RB s A4 w w' ∧ w'.rowIs X 27 4 (f4 (.slice none 0 0) (.slice none 0 0) (.slice none 0 0) (.slice none 0 0)) ∧ w'.rowIs Y 27 4 (f4 (.slice p0 s0.length q0) (.slice p1 s1.length q1) (.slice p2 s2.length q2) (.slice none 0 0)) ∧ w'.ownsRow (Y + 1) 59 3 (.slice p0 s0.length q0) s0.length (flat parCells s0) ∧ w'.ownsRow (Y + 1) 62 2 (.slice p1 s1.length q1) s1.length (flat tyC s1) ∧ w'.ownsRow (Y + 1) 66 5 (.slice p2 s2.length q2) s2.length (flat slC s2)) := fun w' a b c => ⟨D3.next a b c, rdo_row b rx3 hXR, rdo_row b ry3 hYR, own_rdo o0 hRY b, own_rdo o1 hRY b, own_rdo o2 hRY b⟩
            have HRR := hidC hR
            clear D3 KN hq3 hR rx3 ry3 o0 o1 o2
            go_upto_region 7 with (go_at_call 56; (with_reducible refine KN'.out.mono ?_); rintro e9 w7 ⟨v7, rfl, hw7, hb7, ho7, hm7, hl7, hd7⟩; obtain ⟨p3, q3, rfl⟩ := own_len hw7; obtain ⟨D7, x7, z7, k0, k1, k2⟩ := HG.out _ hb7 ho7 hm7; have HL4 := hidC hl7; have HD7 := hidC hd7; have HW7 := hidC (own_to hw7 HYV.out); have y7 : w7.cell? ⟨Y, 3, none⟩ = some (.slice none 0 0) := z7.cell (i := 3) (by decide); have f7 := z7.frozen 3; clear hb7 ho7 hm7 hl7 hd7 hw7)
            obtain ⟨V4, hV3⟩ : ∃ V3, w7.setCell ⟨Y, 3, none⟩ (.slice p3 s3.length q3) = V3 := ⟨_, rfl⟩
            have rx4 := x7.of_block (w' := V4) (by rw [← hV3]; exact Below.heap_setCell _ _ _ _ hXY)
            have ry4 : V4.rowIs Y 27 4 (f4 (.slice p0 s0.length q0) (.slice p1 s1.length q1) (.slice p2 s2.length q2) (.slice p3 s3.length q3)) := by
              rw [← hV3]
              exact (z7.set 3 (.slice p3 s3.length q3)).congr fun j hj => by
                rcases (show j = 0 ∨ j = 1 ∨ j = 2 ∨ j = 3 by omega) with rfl | rfl | rfl | rfl <;> rfl
            have D4 : Rds E RB s A4 w V4 := by rw [← hV3]; exact D7.set hE HRB.out hwY 3 _
            have o0 : V4.ownsRow (Y + 1) 59 3 (.slice p0 s0.length q0) s0.length (flat parCells s0) := by rw [← hV3]; exact own_setb k0 (by omega)
            have o1 : V4.ownsRow (Y + 1) 62 2 (.slice p1 s1.length q1) s1.length (flat tyC s1) := by rw [← hV3]; exact own_setb k1 (by omega)
            have o2 : V4.ownsRow (Y + 1) 66 5 (.slice p2 s2.length q2) s2.length (flat slC s2) := by rw [← hV3]; exact own_setb k2 (by omega)
            have o3 : V4.ownsRow (Y + 1) 70 7 (.slice p3 s3.length q3) s3.length (flat inC s3) := by rw [← hV3]; exact own_setb HW7.out (by omega)
            have hR := HRR.out
            rw [HD7.out] at hR
            try rw [hV3]
            clear hV3 D7 x7 z7 y7 f7 KN' HG HRR HD7 HYV HW7 k0 k1 k2
            have b0 : V4.cell? ⟨Y, 0, none⟩ = some (.slice p0 s0.length q0) := ry4.cell (i := 0) (by decide)
            have x0 : V4.cell? ⟨X, 0, none⟩ = some (.slice none 0 0) := rx4.cell (i := 0) (by decide)
            have f0 := rx4.frozen 0
            have b1 : V4.cell? ⟨Y, 1, none⟩ = some (.slice p1 s1.length q1) := ry4.cell (i := 1) (by decide)
            have x1 : V4.cell? ⟨X, 1, none⟩ = some (.slice none 0 0) := rx4.cell (i := 1) (by decide)
            have f1 := rx4.frozen 1
            have b2 : V4.cell? ⟨Y, 2, none⟩ = some (.slice p2 s2.length q2) := ry4.cell (i := 2) (by decide)
            have x2 : V4.cell? ⟨X, 2, none⟩ = some (.slice none 0 0) := rx4.cell (i := 2) (by decide)
            have f2 := rx4.frozen 2
            have b3 : V4.cell? ⟨Y, 3, none⟩ = some (.slice p3 s3.length q3) := ry4.cell (i := 3) (by decide)
            have x3 : V4.cell? ⟨X, 3, none⟩ = some (.slice none 0 0) := rx4.cell (i := 3) (by decide)
            have f3 := rx4.frozen 3
            have HD := hidC ((((D4.set hE HRB.out HX.out 0 (.slice p0 s0.length q0)).set hE HRB.out HX.out 1 (.slice p1 s1.length q1)).set hE HRB.out HX.out 2 (.slice p2 s2.length q2)).set hE HRB.out HX.out 3 (.slice p3 s3.length q3))
            obtain ⟨W9, hW9⟩ : ∃ W, (((V4.setCell ⟨X, 0, none⟩ (.slice p0 s0.length q0)).setCell ⟨X, 1, none⟩ (.slice p1 s1.length q1)).setCell ⟨X, 2, none⟩ (.slice p2 s2.length q2)).setCell ⟨X, 3, none⟩ (.slice p3 s3.length q3) = W := ⟨_, rfl⟩
            have HO9 : Hid (Own4 w.heap.size ((((V4.setCell ⟨X, 0, none⟩ (.slice p0 s0.length q0)).setCell ⟨X, 1, none⟩ (.slice p1 s1.length q1)).setCell ⟨X, 2, none⟩ (.slice p2 s2.length q2)).setCell ⟨X, 3, none⟩ (.slice p3 s3.length q3)) (.slice p0 s0.length q0) (.slice p1 s1.length q1) (.slice p2 s2.length q2) (.slice p3 s3.length q3) ⟨s0, s1, s2, s3⟩) := ⟨own_to (own_setb (own_setb (own_setb (own_setb o0 hXl) hXl) hXl) hXl) (Nat.le_trans hwY (Nat.le_succ _)), own_to (own_setb (own_setb (own_setb (own_setb o1 hXl) hXl) hXl) hXl) (Nat.le_trans hwY (Nat.le_succ _)), own_to (own_setb (own_setb (own_setb (own_setb o2 hXl) hXl) hXl) hXl) (Nat.le_trans hwY (Nat.le_succ _)), own_to (own_setb (own_setb (own_setb (own_setb o3 hXl) hXl) hXl) hXl) (Nat.le_trans hwY (Nat.le_succ _))⟩
            have HRR : Hid (R = .ok (⟨s0, s1, s2, s3⟩, (bytN s).drop A4, A4)) := hR.symm
            clear hW9 D4 rx4 ry4 hR o0 o1 o2 o3
            go_wp2
            refine bodyPost_ret (by simp [results, Tryz.results26, go_sem, *]; try rfl) rfl ?_
            rw [HRR.out]
            exact ⟨p0, q0, p1, q1, p2, q2, p3, q3, rfl, HO9.out, HD.out.1, HD.out.2.1, HD.out.2.2, HL4.out, rfl⟩

end Go.Proofs.YtnlgkkbmbijndaaGreat
/- Package code: what Decode defers. By program (tool/layer25/gencatch.py). -/
namespace Go.Proofs.YtnlgkkbmbijndaaGreat
open Go.RowKit
set_option linter.unusedVariables false
set_option linter.unusedSimpArgs false

theorem run_assert24 (x : Value) (w : World) : (Instr.typeAssert (.iface 72 x) 20 72 true).run Tryz.prog w = .ok (.tuple #[x, .bool true]) w := by
  simp [Instr.typeAssert, run_underlying Tryz.underlying72, go_sem, Result.andThen]
theorem catch_idle (p q r : Addr) (w : World) :
    CallsD Tryz.prog 25 #[.pointer (some p), .pointer (some q), .pointer (some r)] .returning w fun e u' w' => e = .returned (.tuple #[]) ∧ u' = .returning ∧ w' = w := by
  refine callsD_of_wpS Tryz.func25 rfl fun c₀ cs hu => ?_
  apply wpS_seq
  apply wpS_region
  simp [wpOpsS, go_sem, recoverD, hu, Tryz.ntmps25, Exit.thenS]
  apply wpS_seq
  apply wpS_seq
  apply wpS_region
  simp [wpOpsS, go_sem, Exit.thenS]
  refine wpS_cond (t := true) (by simp [Act.eval, Array.replicate]) ?_
  simp only [if_true]
  refine wpS_of_wp (wp_ret ?_)
  cases c₀
  simp_all [bodyPostS, results, Tryz.results25, Exit.thenS]

theorem catch_cells0 (C : Nat) (er at_ : Int) {w V : World} {f g k : Nat → Value} (hb : Below C w V) (rc : V.rowIs C 27 4 f) (re : V.rowIs (C + 1) 29 1 g) (ra : V.rowIs (C + 2) 3 1 k) :
    Below C w ((((((V.setCell ⟨C, 0, none⟩ (.slice none 0 0)).setCell ⟨C, 1, none⟩ (.slice none 0 0)).setCell ⟨C, 2, none⟩ (.slice none 0 0)).setCell ⟨C, 3, none⟩ (.slice none 0 0)).setCell ⟨C + 1, 0, none⟩ (.int .i64 er)).setCell ⟨C + 2, 0, none⟩ (.int .i64 at_)) ∧ ((((((V.setCell ⟨C, 0, none⟩ (.slice none 0 0)).setCell ⟨C, 1, none⟩ (.slice none 0 0)).setCell ⟨C, 2, none⟩ (.slice none 0 0)).setCell ⟨C, 3, none⟩ (.slice none 0 0)).setCell ⟨C + 1, 0, none⟩ (.int .i64 er)).setCell ⟨C + 2, 0, none⟩ (.int .i64 at_)).rowIs C 27 4 (fun _ => .slice none 0 0) ∧ ((((((V.setCell ⟨C, 0, none⟩ (.slice none 0 0)).setCell ⟨C, 1, none⟩ (.slice none 0 0)).setCell ⟨C, 2, none⟩ (.slice none 0 0)).setCell ⟨C, 3, none⟩ (.slice none 0 0)).setCell ⟨C + 1, 0, none⟩ (.int .i64 er)).setCell ⟨C + 2, 0, none⟩ (.int .i64 at_)).rowIs (C + 1) 29 1 (fun _ => .int .i64 er) ∧ ((((((V.setCell ⟨C, 0, none⟩ (.slice none 0 0)).setCell ⟨C, 1, none⟩ (.slice none 0 0)).setCell ⟨C, 2, none⟩ (.slice none 0 0)).setCell ⟨C, 3, none⟩ (.slice none 0 0)).setCell ⟨C + 1, 0, none⟩ (.int .i64 er)).setCell ⟨C + 2, 0, none⟩ (.int .i64 at_)).rowIs (C + 2) 3 1 (fun _ => .int .i64 at_) := by
  obtain ⟨V1, h0⟩ : ∃ V', V.setCell ⟨C, 0, none⟩ (.slice none 0 0) = V' := ⟨_, rfl⟩
  have b0 : Below C w V1 := by rw [← h0]; exact hb.setCell (by show C ≤ C; omega) _
  have rc0 := rc.set 0 (.slice none 0 0)
  rw [h0] at rc0
  have re0 := re.of_block (w' := V1) (by rw [← h0]; exact Below.heap_setCell _ _ _ _ (by show C + 1 ≠ C; omega))
  have ra0 := ra.of_block (w' := V1) (by rw [← h0]; exact Below.heap_setCell _ _ _ _ (by show C + 2 ≠ C; omega))
  rw [h0]
  obtain ⟨V2, h1⟩ : ∃ V', V1.setCell ⟨C, 1, none⟩ (.slice none 0 0) = V' := ⟨_, rfl⟩
  have b1 : Below C w V2 := by rw [← h1]; exact b0.setCell (by show C ≤ C; omega) _
  have rc1 := rc0.set 1 (.slice none 0 0)
  rw [h1] at rc1
  have re1 := re0.of_block (w' := V2) (by rw [← h1]; exact Below.heap_setCell _ _ _ _ (by show C + 1 ≠ C; omega))
  have ra1 := ra0.of_block (w' := V2) (by rw [← h1]; exact Below.heap_setCell _ _ _ _ (by show C + 2 ≠ C; omega))
  rw [h1]
  obtain ⟨V3, h2⟩ : ∃ V', V2.setCell ⟨C, 2, none⟩ (.slice none 0 0) = V' := ⟨_, rfl⟩
  have b2 : Below C w V3 := by rw [← h2]; exact b1.setCell (by show C ≤ C; omega) _
  have rc2 := rc1.set 2 (.slice none 0 0)
  rw [h2] at rc2
  have re2 := re1.of_block (w' := V3) (by rw [← h2]; exact Below.heap_setCell _ _ _ _ (by show C + 1 ≠ C; omega))
  have ra2 := ra1.of_block (w' := V3) (by rw [← h2]; exact Below.heap_setCell _ _ _ _ (by show C + 2 ≠ C; omega))
  rw [h2]
  obtain ⟨V4, h3⟩ : ∃ V', V3.setCell ⟨C, 3, none⟩ (.slice none 0 0) = V' := ⟨_, rfl⟩
  have b3 : Below C w V4 := by rw [← h3]; exact b2.setCell (by show C ≤ C; omega) _
  have rc3 := rc2.set 3 (.slice none 0 0)
  rw [h3] at rc3
  have re3 := re2.of_block (w' := V4) (by rw [← h3]; exact Below.heap_setCell _ _ _ _ (by show C + 1 ≠ C; omega))
  have ra3 := ra2.of_block (w' := V4) (by rw [← h3]; exact Below.heap_setCell _ _ _ _ (by show C + 2 ≠ C; omega))
  rw [h3]
  obtain ⟨V5, h4⟩ : ∃ V', V4.setCell ⟨C + 1, 0, none⟩ (.int .i64 er) = V' := ⟨_, rfl⟩
  have b4 : Below C w V5 := by rw [← h4]; exact b3.setCell (by show C ≤ C + 1; omega) _
  have rc4 := rc3.of_block (w' := V5) (by rw [← h4]; exact Below.heap_setCell _ _ _ _ (by show C ≠ C + 1; omega))
  have re4 := re3.set 0 (.int .i64 er)
  rw [h4] at re4
  have ra4 := ra3.of_block (w' := V5) (by rw [← h4]; exact Below.heap_setCell _ _ _ _ (by show C + 2 ≠ C + 1; omega))
  rw [h4]
  obtain ⟨V6, h5⟩ : ∃ V', V5.setCell ⟨C + 2, 0, none⟩ (.int .i64 at_) = V' := ⟨_, rfl⟩
  have b5 : Below C w V6 := by rw [← h5]; exact b4.setCell (by show C ≤ C + 2; omega) _
  have rc5 := rc4.of_block (w' := V6) (by rw [← h5]; exact Below.heap_setCell _ _ _ _ (by show C ≠ C + 2; omega))
  have re5 := re4.of_block (w' := V6) (by rw [← h5]; exact Below.heap_setCell _ _ _ _ (by show C + 1 ≠ C + 2; omega))
  have ra5 := ra4.set 0 (.int .i64 at_)
  rw [h5] at ra5
  rw [h5]
  refine ⟨b5, rc5.congr fun j hj => ?_, re5.congr fun j hj => ?_, ra5.congr fun j hj => ?_⟩
  · rcases (show j = 0 ∨ j = 1 ∨ j = 2 ∨ j = 3 by omega) with rfl | rfl | rfl | rfl <;> rfl
  · have : j = 0 := by omega
    subst this
    rfl
  · have : j = 0 := by omega
    subst this
    rfl
theorem rows_drew {C : Nat} {w V : World} {a b c : Nat → Value} (h : Below C w V ∧ V.rowIs C 27 4 a ∧ V.rowIs (C + 1) 29 1 b ∧ V.rowIs (C + 2) 3 1 c) : Below C w V.drew ∧ V.drew.rowIs C 27 4 a ∧ V.drew.rowIs (C + 1) 29 1 b ∧ V.drew.rowIs (C + 2) 3 1 c := ⟨h.1.drew, h.2.1.of_block rfl, h.2.2.1.of_block rfl, h.2.2.2.of_block rfl⟩
theorem catch_cells (C : Nat) (er : Int) (at_ : Nat) {w V : World} {f g k : Nat → Value} (hb : Below C w V) (rc : V.rowIs C 27 4 f) (re : V.rowIs (C + 1) 29 1 g) (ra : V.rowIs (C + 2) 3 1 k) :
    Below C w ((((((V.setCell ⟨C, 0, none⟩ (.slice none 0 0)).setCell ⟨C, 1, none⟩ (.slice none 0 0)).setCell ⟨C, 2, none⟩ (.slice none 0 0)).setCell ⟨C, 3, none⟩ (.slice none 0 0)).setCell ⟨C + 1, 0, none⟩ (.int .i64 er)).setCell ⟨C + 2, 0, none⟩ (.int .i64 (at_ : Int))).drew ∧ ((((((V.setCell ⟨C, 0, none⟩ (.slice none 0 0)).setCell ⟨C, 1, none⟩ (.slice none 0 0)).setCell ⟨C, 2, none⟩ (.slice none 0 0)).setCell ⟨C, 3, none⟩ (.slice none 0 0)).setCell ⟨C + 1, 0, none⟩ (.int .i64 er)).setCell ⟨C + 2, 0, none⟩ (.int .i64 (at_ : Int))).drew.rowIs C 27 4 (fun _ => .slice none 0 0) ∧ ((((((V.setCell ⟨C, 0, none⟩ (.slice none 0 0)).setCell ⟨C, 1, none⟩ (.slice none 0 0)).setCell ⟨C, 2, none⟩ (.slice none 0 0)).setCell ⟨C, 3, none⟩ (.slice none 0 0)).setCell ⟨C + 1, 0, none⟩ (.int .i64 er)).setCell ⟨C + 2, 0, none⟩ (.int .i64 (at_ : Int))).drew.rowIs (C + 1) 29 1 (fun _ => .int .i64 er) ∧ ((((((V.setCell ⟨C, 0, none⟩ (.slice none 0 0)).setCell ⟨C, 1, none⟩ (.slice none 0 0)).setCell ⟨C, 2, none⟩ (.slice none 0 0)).setCell ⟨C, 3, none⟩ (.slice none 0 0)).setCell ⟨C + 1, 0, none⟩ (.int .i64 er)).setCell ⟨C + 2, 0, none⟩ (.int .i64 (at_ : Int))).drew.rowIs (C + 2) 3 1 (fun _ => .int .i64 (at_ : Int)) :=
  rows_drew (catch_cells0 C er (at_ : Int) hb rc re ra)

set_option maxRecDepth 100000 in
set_option maxHeartbeats 8000000 in
theorem catch_fault (C : Nat) (er : Int) (at_ : Nat) (older : List PanicEntry) (w : World) (f g k : Nat → Value) (hc : w.rowIs C 27 4 f) (he : w.rowIs (C + 1) 29 1 g) (ha : w.rowIs (C + 2) 3 1 k) :
    CallsD Tryz.prog 25 #[.pointer (some ⟨C, 0, none⟩), .pointer (some ⟨C + 1, 0, none⟩), .pointer (some ⟨C + 2, 0, none⟩)] (.panicking ({ v := .iface 72 (.agg #[.int .i64 er, .int .i64 (at_ : Int)]), recovered := false } :: older)) w fun e u' w' =>
      e = .returned (.tuple #[]) ∧ u' = .panicking ({ v := .iface 72 (.agg #[.int .i64 er, .int .i64 (at_ : Int)]), recovered := true } :: older) ∧ Below C w w' ∧ w'.rowIs C 27 4 (fun _ => .slice none 0 0) ∧ w'.rowIs (C + 1) 29 1 (fun _ => .int .i64 er) ∧ w'.rowIs (C + 2) 3 1 (fun _ => .int .i64 (at_ : Int)) := by
  refine callsD_of_wpS Tryz.func25 rfl fun c₀ cs hu => ?_
  apply wpS_seq
  apply wpS_region
  simp [wpOpsS, go_sem, recoverD, hu, Tryz.ntmps25, Exit.thenS]
  apply wpS_seq
  apply wpS_seq
  apply wpS_region
  simp [wpOpsS, go_sem, Exit.thenS]
  refine wpS_cond (t := false) (by simp [Act.eval, Array.replicate]) ?_
  simp only [Bool.false_eq_true, if_false]
  refine wpS_of_wp (wp_skip ?_)
  simp only [Exit.thenS]
  obtain ⟨G, hG⟩ : ∃ G, w.heap.size = G := ⟨_, rfl⟩
  obtain ⟨W, hW⟩ : ∃ W, w.alloc (.cells #[.int .i64 er, .int .i64 (at_ : Int)] 72) = W := ⟨_, rfl⟩
  have hb : Below w.heap.size w W := by rw [← hW]; exact bel_alloc _ _
  have g0 : W.cell? ⟨G, 0, none⟩ = some (.int .i64 er) := by rw [← hW, ← hG]; simp [go_sem]
  have g1 : W.cell? ⟨G, 1, none⟩ = some (.int .i64 (at_ : Int)) := by rw [← hW, ← hG]; simp [go_sem]
  have n0 : ¬ C = G := by have := hc.lt; omega
  have n1 : ¬ C + 1 = G := by have := he.lt; omega
  have n2 : ¬ C + 2 = G := by have := ha.lt; omega
  have hbd := hb
  obtain ⟨V, hV⟩ : ∃ V, W = V := ⟨_, rfl⟩
  rw [hV] at hbd
  have rc := hc.of_block (hbd.block _ hc.lt)
  have re := he.of_block (hbd.block _ he.lt)
  have ra := ha.of_block (hbd.block _ ha.lt)
  have v0 : V.cell? ⟨G, 0, none⟩ = some (.int .i64 er) := by rw [← hV]; exact g0
  have v1 : V.cell? ⟨G, 1, none⟩ = some (.int .i64 (at_ : Int)) := by rw [← hV]; exact g1
  have c0 : V.cell? ⟨C, 0, none⟩ = some (f 0) := rc.cell (by decide)
  have c1 : V.cell? ⟨C, 1, none⟩ = some (f 1) := rc.cell (by decide)
  have c2 : V.cell? ⟨C, 2, none⟩ = some (f 2) := rc.cell (by decide)
  have c3 : V.cell? ⟨C, 3, none⟩ = some (f 3) := rc.cell (by decide)
  have f0 := rc.frozen 0
  have f1 := rc.frozen 1
  have f2 := rc.frozen 2
  have f3 := rc.frozen 3
  have d0 : V.cell? ⟨C + 1, 0, none⟩ = some (g 0) := re.cell (by decide)
  have d1 := re.frozen 0
  have a0 : V.cell? ⟨C + 2, 0, none⟩ = some (k 0) := ra.cell (by decide)
  have a1 := ra.frozen 0
  have HFIN := hidC (catch_cells C er at_ (hbd.mono (Nat.le_of_lt hc.lt)) rc re ra)
  have HU := hidC hu
  subst hV
  clear hc he ha hb hbd rc re ra hu
  have hta : ∀ (x : Value) (w : World), (Instr.typeAssert (.iface 72 x) 20 72 true).run Tryz.prog w = .ok (.tuple #[x, .bool true]) w := fun x w => run_assert24 x w
  refine wpS_of_wp ?_
  generalize hT : (#[Value.pointer (some { block := C, off := 0 }), Value.pointer (some { block := C + 1, off := 0 }), Value.pointer (some { block := C + 2, off := 0 })] ++ _ : Array Value) = TT
  simp only [Array.replicate, List.replicate, List.setIfInBounds_toArray, List.set_cons_zero, List.set_cons_succ, List.append_toArray, List.cons_append, List.nil_append] at hT
  subst hT
  go_upto_region 5 with fail
  try rw [hW]
  try rw [hG]
  clear hW hG hta
  refine wp_region_held_drew (S := (fun v => v.cell? ⟨G, 0, none⟩ = some (.int .i64 er) ∧ v.cell? ⟨G, 1, none⟩ = some (.int .i64 (at_ : Int)))) (by kernel_rfl) ?_ (fun hHeld => ?_)
  · ((try dsimp only); go_keep)
  refine wpAnyH_take (i := 0) (v := ?_) (by simp only [List.getElem?_toArray, List.getElem?_cons_succ, List.getElem?_cons_zero]; rfl) (by kernel_rfl) (by kernel_rfl) (by kernel_rfl) (by exact fun _ _ _ h => h) (Or.inl ⟨by rfl, ?_⟩) (by assumption) ?_
  rotate_left 1
  · (intro wS hSw; (try dsimp only at hSw); go_simp; try (with_reducible rfl))
  try simp only [Act.put, List.setIfInBounds_toArray, List.set_cons_zero, List.set_cons_succ]
  refine wpAnyH_take (i := 1) (v := ?_) (by simp only [List.getElem?_toArray, List.getElem?_cons_succ, List.getElem?_cons_zero]; rfl) (by kernel_rfl) (by kernel_rfl) (by kernel_rfl) (by exact fun _ _ _ h => h) (Or.inl ⟨by rfl, ?_⟩) (by assumption) ?_
  rotate_left 1
  · (intro wS hSw; (try dsimp only at hSw); go_simp; try (with_reducible rfl))
  try simp only [Act.put, List.setIfInBounds_toArray, List.set_cons_zero, List.set_cons_succ]
  refine wpAnyH_take (i := 2) (v := ?_) (by simp only [List.getElem?_toArray, List.getElem?_cons_succ, List.getElem?_cons_zero]; rfl) (by kernel_rfl) (by kernel_rfl) (by kernel_rfl) (by exact fun _ _ _ h => h) (Or.inl ⟨by rfl, ?_⟩) (by assumption) ?_
  rotate_left 1
  · (intro wS hSw; (try dsimp only at hSw); go_simp; try (with_reducible rfl))
  try simp only [Act.put, List.setIfInBounds_toArray, List.set_cons_zero, List.set_cons_succ]
  refine wpAnyH_take (i := 3) (v := ?_) (by simp only [List.getElem?_toArray, List.getElem?_cons_succ, List.getElem?_cons_zero]; rfl) (by kernel_rfl) (by kernel_rfl) (by kernel_rfl) (by exact fun _ _ _ h => h) (Or.inl ⟨by rfl, ?_⟩) (by assumption) ?_
  rotate_left 1
  · (intro wS hSw; (try dsimp only at hSw); go_simp; try (with_reducible rfl))
  try simp only [Act.put, List.setIfInBounds_toArray, List.set_cons_zero, List.set_cons_succ]
  refine wpAnyH_take (i := 4) (v := ?_) (by simp only [List.getElem?_toArray, List.getElem?_cons_succ, List.getElem?_cons_zero]; rfl) (by kernel_rfl) (by kernel_rfl) (by kernel_rfl) (by exact fun _ _ _ h => h) (Or.inl ⟨by rfl, ?_⟩) (by assumption) ?_
  rotate_left 1
  · (intro wS hSw; (try dsimp only at hSw); go_simp; try (with_reducible rfl))
  try simp only [Act.put, List.setIfInBounds_toArray, List.set_cons_zero, List.set_cons_succ]
  clear hHeld
  refine wpAnyH_ready (rs := [5]) (by kernel_rfl) (by simp) ?_
  refine AllReadyH.cons (i := 5) (by simp only [List.getElem?_toArray, List.getElem?_cons_succ, List.getElem?_cons_zero]; rfl) (fun K hK => ?_) AllReadyH.nil
  go_simp
  refine hK.out _ _ ?_ (fun hHeld => ?_)
  · ((try dsimp only); go_keep)
  clear hK K
  try simp only [Act.put, List.setIfInBounds_toArray, List.set_cons_zero, List.set_cons_succ]
  clear hHeld
  refine wpAnyH_ready (rs := [6]) (by kernel_rfl) (by simp) ?_
  refine AllReadyH.cons (i := 6) (by simp only [List.getElem?_toArray, List.getElem?_cons_succ, List.getElem?_cons_zero]; rfl) (fun K hK => ?_) AllReadyH.nil
  go_simp
  refine hK.out _ _ ?_ (fun hHeld => ?_)
  · ((try dsimp only); go_keep)
  clear hK K
  try simp only [Act.put, List.setIfInBounds_toArray, List.set_cons_zero, List.set_cons_succ]
  clear hHeld
  refine wpAnyH_ready (rs := [7]) (by kernel_rfl) (by simp) ?_
  refine AllReadyH.cons (i := 7) (by simp only [List.getElem?_toArray, List.getElem?_cons_succ, List.getElem?_cons_zero]; rfl) (fun K hK => ?_) AllReadyH.nil
  go_simp
  refine hK.out _ _ ?_ (fun hHeld => ?_)
  · ((try dsimp only); go_keep)
  clear hK K
  try simp only [Act.put, List.setIfInBounds_toArray, List.set_cons_zero, List.set_cons_succ]
  refine wpAnyH_done (by kernel_rfl) ?_ _
  exact ⟨rfl, _, rfl, .tuple #[], by simp [results, Tryz.results25], rfl, rfl, HFIN.out⟩

end Go.Proofs.YtnlgkkbmbijndaaGreat
/- Package code: Decode. -/
namespace Go.Proofs.YtnlgkkbmbijndaaGreat
open Go.RowKit
set_option linter.unusedVariables false
set_option linter.unusedSimpArgs false

theorem cd_own {B : Nat} {w : World} {u0 u1 u2 u3 : Value} {c : Cd} (h : Own4 B w u0 u1 u2 u3 c) : CdV w u0 u1 u2 u3 c := ⟨own_row parC_len h.sign, own_row tyC_len h.regs, own_row slC_len h.slots, own_row inC_len h.list⟩
theorem ok_cd {c : Cd} (h : okCode c) : CdOk c := by
  obtain ⟨⟨a1, a2⟩, ⟨b1, b2⟩, ⟨c1, c2⟩, d1, d2⟩ := h
  refine ⟨by omega, fun p hp => ?_, by omega, by omega, by omega, fun s hs => ?_, fun i hi => ?_⟩
  · have := (a2 p hp).2.2.1
    omega
  · have := c2 s hs
    exact ⟨this.2.2.2.1, this.2.2.2.2.1⟩
  · have := d2 i hi
    obtain ⟨-, -, -, -, -, -, -, z1, z2, -⟩ := this
    exact ⟨z1, z2⟩
theorem all_ok {s : ByteArray} {c : Cd} {l : List Nat} {p : Nat} (h : pAll (bytN s) 0 = .ok (c, l, p)) : okCode c := by
  obtain ⟨u, l', p', h1, h2⟩ := pBind_ok h
  refine (rt_code.bw l' p' c l p (fun b hb => ?_) h2).2.2
  unfold pMark at h1
  split at h1
  · cases h1
  · split at h1
    · cases h1
    · simp only [Except.ok.injEq, Prod.mk.injEq] at h1
      rw [← h1.2.1] at hb
      exact bytN_lt s b (List.mem_of_mem_drop hb)
/-- What Decode tells. -/
def DecP (w : World) (q : Except (Int × Nat) Cd) (e : Ending) (w' : World) : Prop :=
  match q with
  | .error (er, at_) => e = .returned (.tuple #[.agg #[.slice none 0 0, .slice none 0 0, .slice none 0 0, .slice none 0 0], .int .i64 er, .int .i64 (at_ : Int)]) ∧ Below w.heap.size w w'
  | .ok c => ∃ p0 q0 p1 q1 p2 q2 p3 q3, e = .returned (.tuple #[.agg #[.slice p0 c.sign.length q0, .slice p1 c.regs.length q1, .slice p2 c.slots.length q2, .slice p3 c.list.length q3], .int .i64 0, .int .i64 0]) ∧ Own4 w.heap.size w' (.slice p0 c.sign.length q0) (.slice p1 c.regs.length q1) (.slice p2 c.slots.length q2) (.slice p3 c.list.length q3) c ∧ Below w.heap.size w w'
/-- Where the panic goes through the door. -/
theorem dec_door (C : Nat) {w w4 : World} (hC : w.heap.size = C) (q : Except (Int × Nat) Cd) (er : Int) (at_ : Nat) (hq : q = .error (er, at_)) {f g k : Nat → Value} (hb : Below C w w4) (rc : w4.rowIs C 27 4 f) (re : w4.rowIs (C + 1) 29 1 g) (ra : w4.rowIs (C + 2) 3 1 k) (tmps : Array Value) (t2 : tmps[2]? = some (.pointer (some ⟨C, 0, none⟩))) (t3 : tmps[3]? = some (.pointer (some ⟨C + 1, 0, none⟩))) (t4 : tmps[4]? = some (.pointer (some ⟨C + 2, 0, none⟩))) :
    Leaves Tryz.prog Tryz.f12 tmps (DecP w q) [{ target := .fn (.func 25) #[.pointer (some ⟨C, 0, none⟩), .pointer (some ⟨C + 1, 0, none⟩), .pointer (some ⟨C + 2, 0, none⟩)], args := #[] }] (.panicking [{ v := .iface 72 (.agg #[.int .i64 er, .int .i64 (at_ : Int)]), recovered := false }]) w4 := by
  refine leaves_cons (f := 25) (args := #[.pointer (some ⟨C, 0, none⟩), .pointer (some ⟨C + 1, 0, none⟩), .pointer (some ⟨C + 2, 0, none⟩)]) (by simp) (by simp [go_sem]) ?_
  refine (catch_fault C er at_ [] w4 f g k rc re ra).mono ?_
  rintro e u' w' ⟨rfl, rfl, h1, h2, h3, h4⟩
  have c0 : w'.cell? ⟨C, 0, none⟩ = some (.slice none 0 0) := h2.cell (by decide)
  have c1 : w'.cell? ⟨C, 1, none⟩ = some (.slice none 0 0) := h2.cell (by decide)
  have c2 : w'.cell? ⟨C, 2, none⟩ = some (.slice none 0 0) := h2.cell (by decide)
  have c3 : w'.cell? ⟨C, 3, none⟩ = some (.slice none 0 0) := h2.cell (by decide)
  have d0 : w'.cell? ⟨C + 1, 0, none⟩ = some (.int .i64 er) := h3.cell (by decide)
  have a0 : w'.cell? ⟨C + 2, 0, none⟩ = some (.int .i64 (at_ : Int)) := h4.cell (by decide)
  simp only [settle, List.dropWhile]
  refine ⟨_, (by simp [results, Tryz.results12, go_sem, *]; try rfl), ?_⟩
  rw [hq]
  exact ⟨rfl, by rw [hC]; exact hb.trans h1⟩
theorem cells_V (C : Nat) (v0 v1 v2 v3 ve va : Value) {w V : World} {f g k : Nat → Value} (hb : Below C w V) (rc : V.rowIs C 27 4 f) (re : V.rowIs (C + 1) 29 1 g) (ra : V.rowIs (C + 2) 3 1 k) :
    Below C w ((((((V.setCell ⟨C, 0, none⟩ v0).setCell ⟨C, 1, none⟩ v1).setCell ⟨C, 2, none⟩ v2).setCell ⟨C, 3, none⟩ v3).setCell ⟨C + 1, 0, none⟩ ve).setCell ⟨C + 2, 0, none⟩ va) ∧ ((((((V.setCell ⟨C, 0, none⟩ v0).setCell ⟨C, 1, none⟩ v1).setCell ⟨C, 2, none⟩ v2).setCell ⟨C, 3, none⟩ v3).setCell ⟨C + 1, 0, none⟩ ve).setCell ⟨C + 2, 0, none⟩ va).rowIs C 27 4 (f4 v0 v1 v2 v3) ∧ ((((((V.setCell ⟨C, 0, none⟩ v0).setCell ⟨C, 1, none⟩ v1).setCell ⟨C, 2, none⟩ v2).setCell ⟨C, 3, none⟩ v3).setCell ⟨C + 1, 0, none⟩ ve).setCell ⟨C + 2, 0, none⟩ va).rowIs (C + 1) 29 1 (fun _ => ve) ∧ ((((((V.setCell ⟨C, 0, none⟩ v0).setCell ⟨C, 1, none⟩ v1).setCell ⟨C, 2, none⟩ v2).setCell ⟨C, 3, none⟩ v3).setCell ⟨C + 1, 0, none⟩ ve).setCell ⟨C + 2, 0, none⟩ va).rowIs (C + 2) 3 1 (fun _ => va) ∧ (∀ b, C + 3 ≤ b → ((((((V.setCell ⟨C, 0, none⟩ v0).setCell ⟨C, 1, none⟩ v1).setCell ⟨C, 2, none⟩ v2).setCell ⟨C, 3, none⟩ v3).setCell ⟨C + 1, 0, none⟩ ve).setCell ⟨C + 2, 0, none⟩ va).heap[b]? = V.heap[b]?) := by
  obtain ⟨V1, h0⟩ : ∃ V', V.setCell ⟨C, 0, none⟩ v0 = V' := ⟨_, rfl⟩
  have b0 : Below C w V1 := by rw [← h0]; exact hb.setCell (by show C ≤ C; omega) _
  have k0 : ∀ b, C + 3 ≤ b → V1.heap[b]? = V.heap[b]? := fun b h => by rw [← h0, Below.heap_setCell _ _ _ _ (by show b ≠ C; omega)]
  have rc0 := rc.set 0 v0
  rw [h0] at rc0
  have re0 := re.of_block (w' := V1) (by rw [← h0]; exact Below.heap_setCell _ _ _ _ (by show C + 1 ≠ C; omega))
  have ra0 := ra.of_block (w' := V1) (by rw [← h0]; exact Below.heap_setCell _ _ _ _ (by show C + 2 ≠ C; omega))
  rw [h0]
  obtain ⟨V2, h1⟩ : ∃ V', V1.setCell ⟨C, 1, none⟩ v1 = V' := ⟨_, rfl⟩
  have b1 : Below C w V2 := by rw [← h1]; exact b0.setCell (by show C ≤ C; omega) _
  have k1 : ∀ b, C + 3 ≤ b → V2.heap[b]? = V.heap[b]? := fun b h => by rw [← h1, Below.heap_setCell _ _ _ _ (by show b ≠ C; omega)]; exact k0 b h
  have rc1 := rc0.set 1 v1
  rw [h1] at rc1
  have re1 := re0.of_block (w' := V2) (by rw [← h1]; exact Below.heap_setCell _ _ _ _ (by show C + 1 ≠ C; omega))
  have ra1 := ra0.of_block (w' := V2) (by rw [← h1]; exact Below.heap_setCell _ _ _ _ (by show C + 2 ≠ C; omega))
  rw [h1]
  obtain ⟨V3, h2⟩ : ∃ V', V2.setCell ⟨C, 2, none⟩ v2 = V' := ⟨_, rfl⟩
  have b2 : Below C w V3 := by rw [← h2]; exact b1.setCell (by show C ≤ C; omega) _
  have k2 : ∀ b, C + 3 ≤ b → V3.heap[b]? = V.heap[b]? := fun b h => by rw [← h2, Below.heap_setCell _ _ _ _ (by show b ≠ C; omega)]; exact k1 b h
  have rc2 := rc1.set 2 v2
  rw [h2] at rc2
  have re2 := re1.of_block (w' := V3) (by rw [← h2]; exact Below.heap_setCell _ _ _ _ (by show C + 1 ≠ C; omega))
  have ra2 := ra1.of_block (w' := V3) (by rw [← h2]; exact Below.heap_setCell _ _ _ _ (by show C + 2 ≠ C; omega))
  rw [h2]
  obtain ⟨V4, h3⟩ : ∃ V', V3.setCell ⟨C, 3, none⟩ v3 = V' := ⟨_, rfl⟩
  have b3 : Below C w V4 := by rw [← h3]; exact b2.setCell (by show C ≤ C; omega) _
  have k3 : ∀ b, C + 3 ≤ b → V4.heap[b]? = V.heap[b]? := fun b h => by rw [← h3, Below.heap_setCell _ _ _ _ (by show b ≠ C; omega)]; exact k2 b h
  have rc3 := rc2.set 3 v3
  rw [h3] at rc3
  have re3 := re2.of_block (w' := V4) (by rw [← h3]; exact Below.heap_setCell _ _ _ _ (by show C + 1 ≠ C; omega))
  have ra3 := ra2.of_block (w' := V4) (by rw [← h3]; exact Below.heap_setCell _ _ _ _ (by show C + 2 ≠ C; omega))
  rw [h3]
  obtain ⟨V5, h4⟩ : ∃ V', V4.setCell ⟨C + 1, 0, none⟩ ve = V' := ⟨_, rfl⟩
  have b4 : Below C w V5 := by rw [← h4]; exact b3.setCell (by show C ≤ C + 1; omega) _
  have k4 : ∀ b, C + 3 ≤ b → V5.heap[b]? = V.heap[b]? := fun b h => by rw [← h4, Below.heap_setCell _ _ _ _ (by show b ≠ C + 1; omega)]; exact k3 b h
  have rc4 := rc3.of_block (w' := V5) (by rw [← h4]; exact Below.heap_setCell _ _ _ _ (by show C ≠ C + 1; omega))
  have re4 := re3.set 0 ve
  rw [h4] at re4
  have ra4 := ra3.of_block (w' := V5) (by rw [← h4]; exact Below.heap_setCell _ _ _ _ (by show C + 2 ≠ C + 1; omega))
  rw [h4]
  obtain ⟨V6, h5⟩ : ∃ V', V5.setCell ⟨C + 2, 0, none⟩ va = V' := ⟨_, rfl⟩
  have b5 : Below C w V6 := by rw [← h5]; exact b4.setCell (by show C ≤ C + 2; omega) _
  have k5 : ∀ b, C + 3 ≤ b → V6.heap[b]? = V.heap[b]? := fun b h => by rw [← h5, Below.heap_setCell _ _ _ _ (by show b ≠ C + 2; omega)]; exact k4 b h
  have rc5 := rc4.of_block (w' := V6) (by rw [← h5]; exact Below.heap_setCell _ _ _ _ (by show C ≠ C + 2; omega))
  have re5 := re4.of_block (w' := V6) (by rw [← h5]; exact Below.heap_setCell _ _ _ _ (by show C + 1 ≠ C + 2; omega))
  have ra5 := ra4.set 0 va
  rw [h5] at ra5
  rw [h5]
  refine ⟨b5, rc5.congr fun j hj => ?_, re5.congr fun j hj => ?_, ra5.congr fun j hj => ?_, k5⟩
  · rcases (show j = 0 ∨ j = 1 ∨ j = 2 ∨ j = 3 by omega) with rfl | rfl | rfl | rfl <;> rfl
  · have : j = 0 := by omega
    subst this
    rfl
  · have : j = 0 := by omega
    subst this
    rfl
theorem own4_at {C : Nat} {w u : World} {v0 v1 v2 v3 : Value} {c : Cd} (h : Own4 (C + 4) w v0 v1 v2 v3 c) (k : ∀ b, C + 3 ≤ b → u.heap[b]? = w.heap[b]?) : Own4 C u v0 v1 v2 v3 c := by
  have kp : ∀ {t : TypeId} {k n : Nat} {v : Value} {xs : List Value}, w.ownsRow (C + 4) t k v n xs → u.ownsRow C t k v n xs := fun h => own_to (own_keep h fun b hb => k b (by have := (h.lt b hb).1; omega)) (by omega)
  exact ⟨kp h.sign, kp h.regs, kp h.slots, kp h.list⟩
/-- Where it returns. -/
theorem dec_ret (C : Nat) {w4 : World} (R : Ending → World → Prop) {p0 p1 p2 p3 : Option Addr} {n0 n1 n2 n3 q0 q1 q2 q3 : Nat} {er at_ : Int} (rc : w4.rowIs C 27 4 (f4 (.slice p0 n0 q0) (.slice p1 n1 q1) (.slice p2 n2 q2) (.slice p3 n3 q3))) (re : w4.rowIs (C + 1) 29 1 (fun _ => .int .i64 er)) (ra : w4.rowIs (C + 2) 3 1 (fun _ => .int .i64 at_)) (hR : R (.returned (.tuple #[.agg #[.slice p0 n0 q0, .slice p1 n1 q1, .slice p2 n2 q2, .slice p3 n3 q3], .int .i64 er, .int .i64 at_])) w4) (tmps : Array Value) (t2 : tmps[2]? = some (.pointer (some ⟨C, 0, none⟩))) (t3 : tmps[3]? = some (.pointer (some ⟨C + 1, 0, none⟩))) (t4 : tmps[4]? = some (.pointer (some ⟨C + 2, 0, none⟩))) :
    Leaves Tryz.prog Tryz.f12 tmps R [{ target := .fn (.func 25) #[.pointer (some ⟨C, 0, none⟩), .pointer (some ⟨C + 1, 0, none⟩), .pointer (some ⟨C + 2, 0, none⟩)], args := #[] }] .returning w4 := by
  refine leaves_cons (f := 25) (args := #[.pointer (some ⟨C, 0, none⟩), .pointer (some ⟨C + 1, 0, none⟩), .pointer (some ⟨C + 2, 0, none⟩)]) (by simp) (by simp [go_sem]) ?_
  refine (catch_idle ⟨C, 0, none⟩ ⟨C + 1, 0, none⟩ ⟨C + 2, 0, none⟩ w4).mono ?_
  rintro e u' w' ⟨rfl, rfl, rfl⟩
  have c0 : w'.cell? ⟨C, 0, none⟩ = some (.slice p0 n0 q0) := rc.cell (i := 0) (by decide)
  have c1 : w'.cell? ⟨C, 1, none⟩ = some (.slice p1 n1 q1) := rc.cell (i := 1) (by decide)
  have c2 : w'.cell? ⟨C, 2, none⟩ = some (.slice p2 n2 q2) := rc.cell (i := 2) (by decide)
  have c3 : w'.cell? ⟨C, 3, none⟩ = some (.slice p3 n3 q3) := rc.cell (i := 3) (by decide)
  have d0 : w'.cell? ⟨C + 1, 0, none⟩ = some (.int .i64 er) := re.cell (by decide)
  have a0 : w'.cell? ⟨C + 2, 0, none⟩ = some (.int .i64 at_) := ra.cell (by decide)
  simp only [settle]
  exact ⟨_, (by simp [results, Tryz.results12, go_sem, c0, c1, c2, c3, d0, a0, t2, t3, t4]; try rfl), hR⟩

end Go.Proofs.YtnlgkkbmbijndaaGreat
