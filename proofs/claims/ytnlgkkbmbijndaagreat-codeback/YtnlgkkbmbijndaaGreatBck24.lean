import Derived.Test.YtnlgkkbmbijndaaGreatBck23
import Derived.Deep.DeepCutAuto
import Derived.Test.YtnlgkkbmbijndaaGreatBck21
import Derived.Test.YtnlgkkbmbijndaaGreatBck2
import Derived.Test.YtnlgkkbmbijndaaGreatBck14
import Derived.Laws.IdiomStrings
import Derived.Test.YtnlgkkbmbijndaaGreatBck19
import Derived.Test.YtnlgkkbmbijndaaGreatBck20
import Derived.Test.YtnlgkkbmbijndaaGreatBck16
/- Package code: Decode. -/
namespace Go.Proofs.YtnlgkkbmbijndaaGreat
open Go.RowKit
set_option linter.unusedVariables false
set_option linter.unusedSimpArgs false

set_option maxRecDepth 100000 in
set_option maxHeartbeats 16000000 in
theorem decode_any (s : ByteArray) (hs : s.size ≤ 140737488355328) (w : World) :
    Calls Tryz.prog 12 #[.string s] w (DecP w (decN (bytN s))) := by
  have hmf : ∀ (fn : Fn) (first cap : Array Value) (w : World), (Instr.makeFunc fn first cap).run Tryz.prog w = .ok (.func fn first cap) w := fun _ _ _ _ => rfl
  obtain ⟨C, hC⟩ : ∃ C, w.heap.size = C := ⟨_, rfl⟩
  obtain ⟨W0, hW0⟩ : ∃ W, ((w.alloc (.cells #[.slice none 0 0, .slice none 0 0, .slice none 0 0, .slice none 0 0] 27)).alloc (.cells #[.int .i64 0] 29)).alloc (.cells #[.int .i64 0] 3) = W := ⟨_, rfl⟩
  obtain ⟨W1, hW1⟩ : ∃ W, W0.alloc (.cells #[.string s, .int .i64 0] 75) = W := ⟨_, rfl⟩
  have s0 : W0.heap.size = C + 3 := by rw [← hW0, ← hC]; simp
  have bW0 : Below C w W0 := by
    rw [← hC, ← hW0]
    exact bel (bel (bel_alloc _ _) (bel_alloc _ _)) (bel_alloc _ _)
  have bW1 : Below W0.heap.size W0 W1 := by rw [← hW1]; exact bel_alloc _ _
  have r1 : (w.alloc (.cells #[.slice none 0 0, .slice none 0 0, .slice none 0 0, .slice none 0 0] 27)).rowIs C 27 4 (fun _ => .slice none 0 0) := by
    rw [← hC]
    exact World.rowIs_alloc w #[.slice none 0 0, .slice none 0 0, .slice none 0 0, .slice none 0 0] 27 _ (fun i hi => by
      rcases (show i = 0 ∨ i = 1 ∨ i = 2 ∨ i = 3 by have : i < 4 := hi; omega) with rfl | rfl | rfl | rfl <;> rfl)
  have one : ∀ (u : World) (v : Value) (t : TypeId), (u.alloc (.cells #[v] t)).rowIs u.heap.size t 1 (fun _ => v) := fun u v t => World.rowIs_alloc u #[v] t _ (fun i hi => by
    have : i = 0 := by have : i < 1 := hi; omega
    subst this
    rfl)
  have rc0 : W0.rowIs C 27 4 (fun _ => .slice none 0 0) := by rw [← hW0]; exact (r1.alloc _).alloc _
  have re0 : W0.rowIs (C + 1) 29 1 (fun _ => .int .i64 0) := by
    rw [← hW0]
    have h9 := one (w.alloc (.cells #[.slice none 0 0, .slice none 0 0, .slice none 0 0, .slice none 0 0] 27)) (.int .i64 0) 29
    rw [show (w.alloc (.cells #[.slice none 0 0, .slice none 0 0, .slice none 0 0, .slice none 0 0] 27)).heap.size = C + 1 by rw [← hC]; simp] at h9
    exact h9.alloc _
  have ra0 : W0.rowIs (C + 2) 3 1 (fun _ => .int .i64 0) := by
    rw [← hW0]
    have h9 := one ((w.alloc (.cells #[.slice none 0 0, .slice none 0 0, .slice none 0 0, .slice none 0 0] 27)).alloc (.cells #[.int .i64 0] 29)) (.int .i64 0) 3
    rw [show ((w.alloc (.cells #[.slice none 0 0, .slice none 0 0, .slice none 0 0, .slice none 0 0] 27)).alloc (.cells #[.int .i64 0] 29)).heap.size = C + 2 by rw [← hC]; simp] at h9
    exact h9
  have rr : W1.rowIs (C + 3) 75 2 (fun k => if k = 0 then .string s else .int .i64 ((0 : Nat) : Int)) := by
    rw [← hW1, ← s0]
    exact World.rowIs_alloc W0 #[.string s, .int .i64 0] 75 _ (fun i hi => by
      rcases (show i = 0 ∨ i = 1 by have : i < 2 := hi; omega) with rfl | rfl <;> rfl)
  have rc1 := rc0.of_block (bW1.block _ rc0.lt)
  have re1 := re0.of_block (bW1.block _ re0.lt)
  have ra1 := ra0.of_block (bW1.block _ ra0.lt)
  have b1 : Below C w W1 := bW0.trans (bW1.mono (by omega))
  have hm1 : RdM (C + 3) (C + 3) s 0 W1 := ⟨rr, Nat.le_refl _⟩
  have KC := rcode_any (C + 3) (C + 3) s W1 hm1 hs (by have := rr.lt; omega)
  obtain ⟨R, hR⟩ : ∃ R, decN (bytN s) = R := ⟨_, rfl⟩
  rw [hR]
  rw [decN_eq] at hR
  have HC := hidC hC
  have HB1 := hidC b1
  have HRC := hidC rc1
  have HRE := hidC re1
  have HRA := hidC ra1
  have HS0 := hidC s0
  have HKEEP : Hid (∀ u, Below (C + 3) W1 u → Below C w u ∧ u.rowIs (C + 1) 29 1 (fun _ => .int .i64 0) ∧ u.rowIs (C + 2) 3 1 (fun _ => .int .i64 0) ∧ u.rowIs C 27 4 (fun _ => .slice none 0 0)) := fun u hu => ⟨b1.trans (hu.mono (by omega)), re1.of_block (hu.block _ (by omega)), ra1.of_block (hu.block _ (by omega)), rc1.of_block (hu.block _ (by omega))⟩
  have HW1 := hidC hW1
  clear one r1 rc0 re0 ra0 rr bW0 bW1 b1 rc1 re1 ra1 hm1 hW1
  cases hq : pAll (bytN s) 0 with
  | error er =>
    obtain ⟨er, at_⟩ := er
    rw [pBind_err hq] at hR
    simp only at hR
    rw [hq] at KC
    have KC' := hidC KC
    unfold RdC flt at KC'
    simp only at KC'
    have HRR := hidC hR.symm
    clear KC hq hR
    go_enter_defers Tryz.func12, Tryz.ntmps12
    go_upto_region 2 with fail
    try rw [hW0]
    try rw [hC]
    go_upto_region 3 with fail
    rw [HW1.out]
    try rw [s0]
    rw [show C + 1 + 1 = C + 2 from rfl]
    clear hW0 hC s0
    go_wp2_with (go_at_call 26; (with_reducible refine KC'.out.mono ?_); rintro e9 w4 ⟨rfl, hb4, ho4⟩; have HB4 := hidC hb4; clear hb4 ho4)
    obtain ⟨k1, k2, k3, k4⟩ := HKEEP.out w4 HB4.out
    exact dec_door C HC.out R er at_ HRR.out k1 k4 k2 k3 _ rfl rfl rfl
  | ok r =>
    obtain ⟨c, l, A⟩ := r
    have HOK := hidC (all_ok hq)
    rw [pBind_at hq] at hR
    rw [hq] at KC
    have KC' := hidC KC
    unfold RdC at KC'
    simp only at KC'
    have HRR := hidC hR
    have HSW : Hid (C + 4 ≤ W1.heap.size) := by
      show _ ≤ _
      rw [← HW1.out]
      simp [s0]
    clear KC hq hR
    go_enter_defers Tryz.func12, Tryz.ntmps12
    go_upto_region 2 with fail
    try rw [hW0]
    try rw [hC]
    go_upto_region 3 with fail
    rw [HW1.out]
    try rw [s0]
    rw [show C + 1 + 1 = C + 2 from rfl]
    clear hW0 hC s0
    go_upto_region 4 with (go_at_call 26; (with_reducible refine KC'.out.mono ?_); rintro e9 w4 ⟨p0, q0, p1, q1, p2, q2, p3, q3, rfl, hw4, hb4, ho4, hm4, hl4, hd4⟩; obtain ⟨k1, k2, k3, k4⟩ := HKEEP.out w4 hb4; have HK := hidC (And.intro k1 (And.intro k2 (And.intro k3 k4))); have HW4 := hidC hw4; have HM4 := hidC hm4; have HL4 := hidC hl4; have HD4 := hidC hd4; have HS4 := hidC ho4.1; have y0 : w4.cell? ⟨C, 0, none⟩ = some (.slice none 0 0) := k4.cell (by decide); have y1 : w4.cell? ⟨C, 1, none⟩ = some (.slice none 0 0) := k4.cell (by decide); have y2 : w4.cell? ⟨C, 2, none⟩ = some (.slice none 0 0) := k4.cell (by decide); have y3 : w4.cell? ⟨C, 3, none⟩ = some (.slice none 0 0) := k4.cell (by decide); have f0 := k4.frozen 0; have f1 := k4.frozen 1; have f2 := k4.frozen 2; have f3 := k4.frozen 3; clear k1 k2 k3 k4 hw4 hb4 ho4 hm4 hl4 hd4)
    obtain ⟨V2, hV2⟩ : ∃ V, (((w4.setCell ⟨C, 0, none⟩ (.slice p0 c.sign.length q0)).setCell ⟨C, 1, none⟩ (.slice p1 c.regs.length q1)).setCell ⟨C, 2, none⟩ (.slice p2 c.slots.length q2)).setCell ⟨C, 3, none⟩ (.slice p3 c.list.length q3) = V := ⟨_, rfl⟩
    have hbl : ∀ b, b ≠ C → V2.heap[b]? = w4.heap[b]? := fun b hb => by
      rw [← hV2, Below.heap_setCell _ _ _ _ hb, Below.heap_setCell _ _ _ _ hb, Below.heap_setCell _ _ _ _ hb, Below.heap_setCell _ _ _ _ hb]
    obtain ⟨k1, k2, k3, k4⟩ := HK.out
    have re2 := k2.of_block (hbl (C + 1) (by omega))
    have ra2 := k3.of_block (hbl (C + 2) (by omega))
    have rc2 : V2.rowIs C 27 4 (f4 (.slice p0 c.sign.length q0) (.slice p1 c.regs.length q1) (.slice p2 c.slots.length q2) (.slice p3 c.list.length q3)) := by
      rw [← hV2]
      exact ((((k4.set 0 (.slice p0 c.sign.length q0)).set 1 (.slice p1 c.regs.length q1)).set 2 (.slice p2 c.slots.length q2)).set 3 (.slice p3 c.list.length q3)).congr fun j hj => by
        rcases (show j = 0 ∨ j = 1 ∨ j = 2 ∨ j = 3 by omega) with rfl | rfl | rfl | rfl <;> rfl
    have hm2 : RdM (C + 3) (C + 3) s A V2 := ⟨HM4.out.b.of_block (hbl (C + 3) (by omega)), Nat.le_refl _⟩
    have bb2 : Below C w V2 := by rw [← hV2]; exact (((k1.setCell (Nat.le_refl _) _).setCell (Nat.le_refl _) _).setCell (Nat.le_refl _) _).setCell (Nat.le_refl _) _
    have hS := HSW.out
    have ow2 : Own4 (C + 4) V2 (.slice p0 c.sign.length q0) (.slice p1 c.regs.length q1) (.slice p2 c.slots.length q2) (.slice p3 c.list.length q3) c := by
      have hw := HW4.out
      have kp : ∀ {t : TypeId} {k n : Nat} {u : Value} {xs : List Value}, w4.ownsRow W1.heap.size t k u n xs → V2.ownsRow (C + 4) t k u n xs := fun h => own_to (own_keep h fun b hb => hbl b (by have := (h.lt b hb).1; omega)) hS
      exact ⟨kp hw.sign, kp hw.regs, kp hw.slots, kp hw.list⟩
    have KE := rend_any (C + 3) (C + 3) s A V2 hm2 HL4.out hs (by have := hm2.b.lt; omega)
    have hR := HRR.out
    rw [HD4.out] at hR
    rw [hV2]
    have HR2 := hidC (And.intro bb2 (And.intro rc2 (And.intro re2 (And.intro ra2 ow2))))
    clear y0 y1 y2 y3 f0 f1 f2 f3 hV2 hbl k1 k2 k3 k4 re2 ra2 rc2 hm2 bb2 ow2 HW4 HM4 HL4 HD4 HS4 HK HRR KC' HKEEP HRC HRE HRA HB1 hS
    cases hq2 : pEnd (bytN s) ((bytN s).drop A) A with
    | error er =>
      obtain ⟨er, at_⟩ := er
      rw [pBind_err hq2] at hR
      simp only at hR
      rw [hq2] at KE
      have KE' := hidC KE
      unfold RdT flt at KE'
      simp only at KE'
      have HRR := hidC hR.symm
      clear KE hq2 hR
      go_wp2_with (go_at_call 27; (with_reducible refine KE'.out.mono ?_); rintro e9 w5 ⟨rfl, hb5, ho5⟩; have HB5 := hidC hb5; clear hb5 ho5)
      obtain ⟨k1, k2, k3, k4, -⟩ := HR2.out
      have h5 := HB5.out
      exact dec_door C HC.out R er at_ HRR.out (k1.trans (h5.mono (by omega))) (k2.of_block (h5.block _ (by omega))) (k3.of_block (h5.block _ (by omega))) (k4.of_block (h5.block _ (by omega))) _ rfl rfl rfl
    | ok r2 =>
      obtain ⟨u9, l2, A2⟩ := r2
      rw [pBind_at hq2] at hR
      unfold pPure at hR
      simp only at hR
      rw [hq2] at KE
      have KE' := hidC KE
      unfold RdT at KE'
      simp only at KE'
      have HRR := hidC hR
      clear KE hq2 hR
      go_upto_region 5 with (go_at_call 27; (with_reducible refine KE'.out.mono ?_); rintro e9 w5 ⟨rfl, hb5, ho5, hm5, hl5, hd5⟩; have HB5 := hidC hb5; have HO5 := hidC ho5; clear hb5 ho5 hm5 hl5 hd5)
      obtain ⟨k1, k2, k3, k4, k5⟩ := HR2.out
      have h5 := HB5.out
      have b5 := k1.trans (h5.mono (show C ≤ C + 3 by omega))
      have rc5 := k2.of_block (h5.block _ (show C < C + 3 by omega))
      have re5 := k3.of_block (h5.block _ (show C + 1 < C + 3 by omega))
      have ra5 := k4.of_block (h5.block _ (show C + 2 < C + 3 by omega))
      have hr4 : C + 3 < C + 4 := by omega
      have ow5 : Own4 (C + 4) w5 (.slice p0 c.sign.length q0) (.slice p1 c.regs.length q1) (.slice p2 c.slots.length q2) (.slice p3 c.list.length q3) c := ⟨own_rdo k5.sign hr4 HO5.out, own_rdo k5.regs hr4 HO5.out, own_rdo k5.slots hr4 HO5.out, own_rdo k5.list hr4 HO5.out⟩
      have KH := hidC (check_any _ _ _ _ c (ok_cd HOK.out) w5 (cd_own ow5))
      have z0 : w5.cell? ⟨C, 0, none⟩ = some (.slice p0 c.sign.length q0) := rc5.cell (i := 0) (by decide)
      have z1 : w5.cell? ⟨C, 1, none⟩ = some (.slice p1 c.regs.length q1) := rc5.cell (i := 1) (by decide)
      have z2 : w5.cell? ⟨C, 2, none⟩ = some (.slice p2 c.slots.length q2) := rc5.cell (i := 2) (by decide)
      have z3 : w5.cell? ⟨C, 3, none⟩ = some (.slice p3 c.list.length q3) := rc5.cell (i := 3) (by decide)
      have HKP : Hid (∀ u, Below w5.heap.size w5 u → Below C w u ∧ u.rowIs C 27 4 (f4 (.slice p0 c.sign.length q0) (.slice p1 c.regs.length q1) (.slice p2 c.slots.length q2) (.slice p3 c.list.length q3)) ∧ u.rowIs (C + 1) 29 1 (fun _ => .int .i64 0) ∧ u.rowIs (C + 2) 3 1 (fun _ => .int .i64 0) ∧ Own4 (C + 4) u (.slice p0 c.sign.length q0) (.slice p1 c.regs.length q1) (.slice p2 c.slots.length q2) (.slice p3 c.list.length q3) c) := fun u hu => by
        have hc5 := rc5.lt
        have kp : ∀ {t : TypeId} {k n : Nat} {v : Value} {xs : List Value}, w5.ownsRow (C + 4) t k v n xs → u.ownsRow (C + 4) t k v n xs := fun h => own_keep h fun b hb => hu.block b (h.lt b hb).2
        exact ⟨b5.trans (hu.mono (by omega)), rc5.of_block (hu.block _ rc5.lt), re5.of_block (hu.block _ re5.lt), ra5.of_block (hu.block _ ra5.lt), ⟨kp ow5.sign, kp ow5.regs, kp ow5.slots, kp ow5.list⟩⟩
      obtain ⟨e1, he1⟩ : ∃ e, (checkC c).1 = e := ⟨_, rfl⟩
      obtain ⟨e2, he2⟩ : ∃ e, (checkC c).2 = e := ⟨_, rfl⟩
      rw [he1, he2] at KH
      rw [he1] at HRR
      clear k1 k2 k3 k4 k5 h5 b5 rc5 re5 ra5 ow5 he1 he2 HB5 HO5 KE' HR2
      by_cases hc : e1 = 0
      · subst hc
        have HRE : Hid (R = .ok c) := by show R = _; rw [← HRR.out]; simp
        clear HRR
        go_upto_region 8 with (go_at_call 16; (with_reducible refine KH.out.mono ?_); rintro e9 w6 ⟨rfl, hb6⟩; have HB6 := hidC hb6; clear hb6)
        obtain ⟨j1, j2, j3, j4, j5⟩ := HKP.out w6 HB6.out
        have y0 : w6.cell? ⟨C, 0, none⟩ = some (.slice p0 c.sign.length q0) := j2.cell (i := 0) (by decide)
        have y1 : w6.cell? ⟨C, 1, none⟩ = some (.slice p1 c.regs.length q1) := j2.cell (i := 1) (by decide)
        have y2 : w6.cell? ⟨C, 2, none⟩ = some (.slice p2 c.slots.length q2) := j2.cell (i := 2) (by decide)
        have y3 : w6.cell? ⟨C, 3, none⟩ = some (.slice p3 c.list.length q3) := j2.cell (i := 3) (by decide)
        have f0 := j2.frozen 0
        have f1 := j2.frozen 1
        have f2 := j2.frozen 2
        have f3 := j2.frozen 3
        have d0 : w6.cell? ⟨C + 1, 0, none⟩ = some (.int .i64 0) := j3.cell (by decide)
        have d1 := j3.frozen 0
        have a0 : w6.cell? ⟨C + 2, 0, none⟩ = some (.int .i64 0) := j4.cell (by decide)
        have a1 := j4.frozen 0
        have HCC := hidC (cells_V C (.slice p0 c.sign.length q0) (.slice p1 c.regs.length q1) (.slice p2 c.slots.length q2) (.slice p3 c.list.length q3) (.int .i64 0) (.int .i64 0) j1 j2 j3 j4)
        have HJ5 := hidC j5
        clear z0 z1 z2 z3 j1 j2 j3 j4 j5
        go_wp2
        obtain ⟨m1, m2, m3, m4, m5⟩ := HCC.out
        refine dec_ret C (DecP w R) m2 m3 m4 ?_ _ rfl rfl rfl
        rw [HRE.out]
        have hw := HJ5.out
        refine ⟨p0, q0, p1, q1, p2, q2, p3, q3, rfl, ?_, by rw [HC.out]; exact m1⟩
        rw [HC.out]
        clear m1 m2 m3 m4
        exact own4_at hw m5
      · have q1' : (e1 == 0) = false := by simpa using hc
        have q2' : (e1 != 0) = true := by simpa using hc
        have HRE : Hid (R = .error (e1, 0)) := by show R = _; rw [← HRR.out, if_pos hc]
        clear HRR
        go_upto_region 7 with (go_at_call 16; (with_reducible refine KH.out.mono ?_); rintro e9 w6 ⟨rfl, hb6⟩; have HB6 := hidC hb6; clear hb6)
        obtain ⟨j1, j2, j3, j4, j5⟩ := HKP.out w6 HB6.out
        have y0 : w6.cell? ⟨C, 0, none⟩ = some (.slice p0 c.sign.length q0) := j2.cell (i := 0) (by decide)
        have y1 : w6.cell? ⟨C, 1, none⟩ = some (.slice p1 c.regs.length q1) := j2.cell (i := 1) (by decide)
        have y2 : w6.cell? ⟨C, 2, none⟩ = some (.slice p2 c.slots.length q2) := j2.cell (i := 2) (by decide)
        have y3 : w6.cell? ⟨C, 3, none⟩ = some (.slice p3 c.list.length q3) := j2.cell (i := 3) (by decide)
        have f0 := j2.frozen 0
        have f1 := j2.frozen 1
        have f2 := j2.frozen 2
        have f3 := j2.frozen 3
        have d0 : w6.cell? ⟨C + 1, 0, none⟩ = some (.int .i64 0) := j3.cell (by decide)
        have d1 := j3.frozen 0
        have a0 : w6.cell? ⟨C + 2, 0, none⟩ = some (.int .i64 0) := j4.cell (by decide)
        have a1 := j4.frozen 0
        have HCC := hidC (catch_cells0 C e1 0 j1 j2 j3 j4)
        clear z0 z1 z2 z3
        go_wp2
        obtain ⟨m1, m2, m3, m4⟩ := HCC.out
        have m2' := m2.congr (g := f4 (.slice none 0 0) (.slice none 0 0) (.slice none 0 0) (.slice none 0 0)) (fun j hj => by
          rcases (show j = 0 ∨ j = 1 ∨ j = 2 ∨ j = 3 by omega) with rfl | rfl | rfl | rfl <;> rfl)
        refine dec_ret C (DecP w R) m2' m3 m4 ?_ _ rfl rfl rfl
        rw [HRE.out]
        exact ⟨rfl, by rw [HC.out]; exact m1⟩

end Go.Proofs.YtnlgkkbmbijndaaGreat
/- Package code: Encode. -/
namespace Go.Proofs.YtnlgkkbmbijndaaGreat
open Go.RowKit
set_option linter.unusedVariables false
set_option linter.unusedSimpArgs false

/-- What a writer holds, as a string. -/
theorem WrM.str {E WB : Nat} {l : List Nat} {v : Value} {w : World} (h : WrM E WB l v w) (hb : ∀ b ∈ l, b < 256) (hn : 0 < l.length) :
    ∃ p q, v = .slice p l.length q ∧ (convert 49 9 (.slice p l.length q)).run Tryz.prog w = .ok (.string (ofN l)) w := by
  rcases h.o.2 with ⟨-, e2⟩ | ⟨g, cap, cur, e1, -⟩
  · omega
  · refine ⟨some ⟨g, 0, none⟩, cap, e1, ?_⟩
    have hob : v.ownBlock = some g := by rw [e1]; rfl
    have hl : (l.map UInt8.ofNat).length = l.length := List.length_map _
    have := run_convert_bytes_back (P := Tryz.prog) w 49 9 5 ⟨g, 0, none⟩ cap (l.map UInt8.ofNat) Tryz.underlying49 Tryz.underlying5 Tryz.underlying9 (fun j hj => by
      have hj' : j < l.length := by rw [← hl]; exact hj
      have hlt := hb l[j] (List.getElem_mem hj')
      have h9 := h.o.cells hob j (.int .u8 ((l[j] : Nat) : Int)) (by unfold u8s; simp [hj'])
      rw [h9, List.getElem_map, UInt8.toNat_ofNat', Nat.mod_eq_of_lt hlt])
    rw [hl] at this
    exact this

theorem row0_nil (j : Nat) (hj : j < (#[Value.slice none 0 0] : Array Value).size) : (#[Value.slice none 0 0] : Array Value)[j]! = Value.slice none 0 0 := by
  have h0 : j = 0 := by simpa using hj
  subst h0
  rfl

set_option maxRecDepth 100000 in
set_option maxHeartbeats 16000000 in
theorem encode_bad (v0 v1 v2 v3 : Value) (c : Cd) (hk : CdOk c) (w : World) (hv : CdV w v0 v1 v2 v3 c) (hc : (checkC c).1 ≠ 0) :
    Calls Tryz.prog 8 #[.agg #[v0, v1, v2, v3]] w fun e w' => e = .returned (.tuple #[.string ⟨#[]⟩, .int .i64 (checkC c).1]) ∧ Below w.heap.size w w' := by
  obtain ⟨W0, hW0⟩ : ∃ W, w.alloc (.cells #[v0, v1, v2, v3] 27) = W := ⟨_, rfl⟩
  have hb0 : Below w.heap.size w W0 := by rw [← hW0]; exact bel_alloc _ _
  have KC := hidC (check_any v0 v1 v2 v3 c hk W0 (hv.below hb0))
  obtain ⟨p0, q0, rfl⟩ : ∃ p q, v0 = .slice p c.sign.length q := by obtain ⟨p, q, e, _⟩ := hv.sign; exact ⟨p, q, e⟩
  obtain ⟨p1, q1, rfl⟩ : ∃ p q, v1 = .slice p c.regs.length q := by obtain ⟨p, q, e, _⟩ := hv.regs; exact ⟨p, q, e⟩
  obtain ⟨p2, q2, rfl⟩ : ∃ p q, v2 = .slice p c.slots.length q := by obtain ⟨p, q, e, _⟩ := hv.slots; exact ⟨p, q, e⟩
  obtain ⟨p3, q3, rfl⟩ : ∃ p q, v3 = .slice p c.list.length q := by obtain ⟨p, q, e, _⟩ := hv.list; exact ⟨p, q, e⟩
  have x0 : W0.cell? ⟨w.heap.size, 0, none⟩ = some (.slice p0 c.sign.length q0) := by rw [← hW0]; simp [go_sem]
  have x1 : W0.cell? ⟨w.heap.size, 1, none⟩ = some (.slice p1 c.regs.length q1) := by rw [← hW0]; simp [go_sem]
  have x2 : W0.cell? ⟨w.heap.size, 2, none⟩ = some (.slice p2 c.slots.length q2) := by rw [← hW0]; simp [go_sem]
  have x3 : W0.cell? ⟨w.heap.size, 3, none⟩ = some (.slice p3 c.list.length q3) := by rw [← hW0]; simp [go_sem]
  obtain ⟨e1, he1⟩ : ∃ e, (checkC c).1 = e := ⟨_, rfl⟩
  obtain ⟨e2, he2⟩ : ∃ e, (checkC c).2 = e := ⟨_, rfl⟩
  rw [he1, he2] at KC
  rw [he1] at hc ⊢
  have q1' : (e1 == 0) = false := by simpa using hc
  have q2' : (e1 != 0) = true := by simpa using hc
  have HB0 := hidC hb0
  clear hk hv he1 he2 hb0
  go_enter Tryz.func8, Tryz.ntmps8
  go_upto_region 1 with fail
  try rw [hW0]
  clear hW0
  go_wp2_with (go_at_call 16; (with_reducible refine KC.out.mono ?_); rintro e9 w4 ⟨rfl, hb4⟩; have HB4 := hidC hb4; clear hb4)
  refine bodyPost_ret (by simp [results, Tryz.results8, go_sem, *]; try rfl) rfl ?_
  exact ⟨rfl, bel HB0.out HB4.out⟩

set_option maxRecDepth 100000 in
set_option maxHeartbeats 16000000 in
theorem encode_good (v0 v1 v2 v3 : Value) (c : Cd) (hk : CdOk c) (w : World) (hv : CdV w v0 v1 v2 v3 c) (hc : (checkC c).1 = 0) :
    Calls Tryz.prog 8 #[.agg #[v0, v1, v2, v3]] w fun e w' => e = .returned (.tuple #[.string (ofN (encN c)), .int .i64 0]) ∧ Below w.heap.size w w' := by
  have hok := check_code hk.sbits hk.ibits hc
  have hlb := body_lt hok
  have hmk : bytN mkB = mkN := by decide
  have hbl : (bodyN c).length = 4 + (eCode c).length := by unfold bodyN; rw [List.length_append]; rfl
  have hcl : (eCode c).length ≤ 3000000 := by
    obtain ⟨⟨s1, s2⟩, ⟨r1, r2⟩, ⟨t1, t2⟩, ⟨i1, i2⟩⟩ := hok
    have l0 := eLst_len (e := ePar) (m := 90) c.sign (fun x hx => ePar_len (s2 x hx)) (by omega)
    have l1 := eLst_len (e := eTy) (m := 10) c.regs (fun x hx => eTy_len (r2 x hx)) (by omega)
    have l2 := eLst_len (e := eSl) (m := 20) c.slots (fun x hx => eSl_len (t2 x hx)) (by omega)
    have l3 := eLst_len (e := eIns) (m := 55) c.list (fun x hx => eIns_len (i2 x hx)) (by omega)
    unfold eCode
    rw [List.length_append, List.length_append, List.length_append]
    omega
  have hle : ∀ b ∈ encN c, b < 256 := fun b hb => by
    unfold encN at hb
    rcases List.mem_append.1 hb with hb | hb
    · exact hlb b hb
    · exact lowB_lt 8 _ b hb
  have hel : 0 < (encN c).length := by unfold encN; rw [List.length_append]; omega
  obtain ⟨W0, hW0⟩ : ∃ W, w.alloc (.cells #[v0, v1, v2, v3] 27) = W := ⟨_, rfl⟩
  have hb0 : Below w.heap.size w W0 := by rw [← hW0]; exact bel_alloc _ _
  have hs0 : W0.heap.size = w.heap.size + 1 := by rw [← hW0]; simp
  have KC := hidC (check_any v0 v1 v2 v3 c hk W0 (hv.below hb0))
  have HV := hidC hv
  obtain ⟨p0, q0, rfl⟩ : ∃ p q, v0 = .slice p c.sign.length q := by obtain ⟨p, q, e, _⟩ := hv.sign; exact ⟨p, q, e⟩
  obtain ⟨p1, q1, rfl⟩ : ∃ p q, v1 = .slice p c.regs.length q := by obtain ⟨p, q, e, _⟩ := hv.regs; exact ⟨p, q, e⟩
  obtain ⟨p2, q2, rfl⟩ : ∃ p q, v2 = .slice p c.slots.length q := by obtain ⟨p, q, e, _⟩ := hv.slots; exact ⟨p, q, e⟩
  obtain ⟨p3, q3, rfl⟩ : ∃ p q, v3 = .slice p c.list.length q := by obtain ⟨p, q, e, _⟩ := hv.list; exact ⟨p, q, e⟩
  have x0 : W0.cell? ⟨w.heap.size, 0, none⟩ = some (.slice p0 c.sign.length q0) := by rw [← hW0]; simp [go_sem]
  have x1 : W0.cell? ⟨w.heap.size, 1, none⟩ = some (.slice p1 c.regs.length q1) := by rw [← hW0]; simp [go_sem]
  have x2 : W0.cell? ⟨w.heap.size, 2, none⟩ = some (.slice p2 c.slots.length q2) := by rw [← hW0]; simp [go_sem]
  have x3 : W0.cell? ⟨w.heap.size, 3, none⟩ = some (.slice p3 c.list.length q3) := by rw [← hW0]; simp [go_sem]
  have KW : Hid (∀ (u : World), Below W0.heap.size W0 u → Calls Tryz.prog 17 #[.pointer (some ⟨u.heap.size, 0, none⟩), .pointer (some ⟨w.heap.size, 0, none⟩)] (u.alloc (.cells #[.slice none 0 0] 51)) fun e w' => e = .returned (.tuple #[]) ∧ Below u.heap.size (u.alloc (.cells #[.slice none 0 0] 51)) w' ∧ ∃ v', WrM u.heap.size u.heap.size (bodyN c) v' w' ∧ WrO u.heap.size (.slice none 0 0) (u.alloc (.cells #[.slice none 0 0] 51)) v' w') := fun u hu => by
    have hbu : Below u.heap.size u (u.alloc (.cells #[.slice none 0 0] 51)) := bel_alloc _ _
    have hm : WrM u.heap.size u.heap.size [] (.slice none 0 0) (u.alloc (.cells #[.slice none 0 0] 51)) := ⟨(rowA u #[.slice none 0 0] 51).congr (fun j hj => row0_nil j hj), World.ownsRow_nil _ _ _ 1, Nat.le_refl _, hbu.size⟩
    have hx : ∀ x, Below u.heap.size (u.alloc (.cells #[.slice none 0 0] 51)) x → Below W0.heap.size W0 x := fun x hx => hu.trans ((hbu.trans hx).mono hu.size)
    have h9 := wcode_any u.heap.size u.heap.size [] (.slice none 0 0) _ hm c hok (by simp) w.heap.size p0 p1 p2 p3 q0 q1 q2 q3 (fun x hxx => ⟨kc (hx x hxx) x0, kc (hx x hxx) x1, kc (hx x hxx) x2, kc (hx x hxx) x3⟩) (fun x hxx => by
      have := hv.below (bel hb0 (hx x hxx))
      exact ⟨this.sign, this.regs, this.slots, this.list⟩)
    rw [List.nil_append, hmk] at h9
    exact h9
  have KP := hidC (fun u => cprint_any (ofN (bodyN c)) (by rw [ofN_size]; omega) u)
  rw [bytN_ofN hlb] at KP
  obtain ⟨CR, hCR⟩ : ∃ n, crP (bodyN c) = n := ⟨_, rfl⟩
  have hEN : encN c = bodyN c ++ lowB 8 CR := by unfold encN; rw [hCR]
  rw [hCR] at KP
  have hcr : CR < 18446744073709551616 := by rw [← hCR]; exact crP_lt hlb
  have KF : Hid (∀ (E WB : Nat) (v : Value) (u : World), WrM E WB (bodyN c) v u → Calls Tryz.prog 18 #[.pointer (some ⟨WB, 0, none⟩), .int .u64 (CR : Int), .int .i64 8] u fun e w' => e = .returned (.tuple #[]) ∧ Below E u w' ∧ ∃ v', WrM E WB (bodyN c ++ lowB 8 CR) v' w' ∧ WrO WB v u v' w') := fun E WB v u a => wfixed_any E WB (bodyN c) v u a CR hcr 8 (by omega) (by omega)
  have HEN := hidC hEN
  obtain ⟨BD, hBD⟩ : ∃ l, bodyN c = l := ⟨_, rfl⟩
  obtain ⟨EN, hENc⟩ : ∃ l, encN c = l := ⟨_, rfl⟩
  simp only [hBD, hENc] at KW KP KF HEN hle hel hlb ⊢
  have HBP : Hid (0 < BD.length) := by rw [← hBD]; show 0 < (bodyN c).length; omega
  have HLB := hidC hlb
  have HLE := hidC hle
  have HEL := hidC hel
  obtain ⟨e2, he2⟩ : ∃ e, (checkC c).2 = e := ⟨_, rfl⟩
  rw [hc, he2] at KC
  have HB0 := hidC hb0
  have HS0 := hidC hs0
  clear hk hv he2 hb0 hs0 hok hlb hmk hbl hcl hle hel hCR hEN hcr hBD hENc hc
  go_enter Tryz.func8, Tryz.ntmps8
  go_upto_region 1 with fail
  try rw [hW0]
  clear hW0
  go_upto_region 4 with (go_at_call 16; (with_reducible refine KC.out.mono ?_); rintro e9 w4 ⟨rfl, hb4⟩; have HB4 := hidC hb4; clear hb4)
  have KW4 := hidC (KW.out w4 HB4.out)
  go_upto_region 6 with (go_at_call 17; (with_reducible refine KW4.out.mono ?_); rintro e9 w5 ⟨rfl, hb5, v5, hm5, ho5⟩; have HB5 := hidC hb5; have HM5 := hidC hm5; clear hb5 hm5 ho5)
  obtain ⟨p5, q5, hv5, hcv⟩ := HM5.out.str HLB.out HBP.out
  subst hv5
  have b5 : w5.cell? ⟨w4.heap.size, 0, none⟩ = some (.slice p5 BD.length q5) := HM5.out.b.cell (i := 0) (by decide)
  have KF5 := hidC (KF.out _ _ _ _ HM5.out)
  go_upto_region 7 with (first
    | (go_at_call 19; (with_reducible refine (KP.out _).mono ?_); rintro e9 w6 ⟨rfl, rfl⟩)
    | (go_at_call 18; (with_reducible refine KF5.out.mono ?_); rintro e9 w7 ⟨rfl, hb7, v7, hm7, ho7⟩; have HB7 := hidC hb7; have HM7 := hidC hm7; clear hb7 hm7 ho7))
  have HM8 := HM7.out
  rw [← HEN.out] at HM8
  obtain ⟨p7, q7, hv7, hcw⟩ := HM8.str HLE.out HEL.out
  subst hv7
  have b7 : w7.cell? ⟨w4.heap.size, 0, none⟩ = some (.slice p7 EN.length q7) := HM8.b.cell (i := 0) (by decide)
  have HBZ : Hid (Below w.heap.size w w7) := by
    have h1 : Below W0.heap.size W0 (w4.alloc (.cells #[.slice none 0 0] 51)) := bel HB4.out (bel_alloc _ _)
    have h2 : Below w4.heap.size (w4.alloc (.cells #[.slice none 0 0] 51)) w7 := HB5.out.trans HB7.out
    exact bel HB0.out (h1.trans (h2.mono HB4.out.size))
  clear HM5 HM7 HM8 HB5 HB7 HB4 hcv b5
  go_wp2
  refine bodyPost_ret (by simp [results, Tryz.results8, go_sem, *]; try rfl) rfl ?_
  exact ⟨rfl, HBZ.out⟩

end Go.Proofs.YtnlgkkbmbijndaaGreat
/- The statements of layer 24: works(). -/
namespace Go.Proofs.YtnlgkkbmbijndaaGreat
open Go.RowKit
set_option linter.unusedVariables false
set_option linter.unusedSimpArgs false

def cd0 : Cd := ⟨[], [], [], []⟩
theorem cd0_ok : okCode cd0 := ⟨⟨by decide, fun _ h => by cases h⟩, ⟨by decide, fun _ h => by cases h⟩, ⟨by decide, fun _ h => by cases h⟩, by decide, fun _ h => by cases h⟩
theorem cd0_check : (checkC cd0).1 = 0 := by decide +kernel
theorem cd0_V (w : World) : CdV w (.slice none 0 0) (.slice none 0 0) (.slice none 0 0) (.slice none 0 0) cd0 := ⟨⟨none, 0, rfl, .inl rfl⟩, ⟨none, 0, rfl, .inl rfl⟩, ⟨none, 0, rfl, .inl rfl⟩, ⟨none, 0, rfl, .inl rfl⟩⟩
theorem enc_len {c : Cd} : (encN c).length = (eCode c).length + 12 := by
  unfold encN bodyN
  simp only [List.length_append, lowB_len]
  show 4 + (eCode c).length + 8 = _
  omega
theorem cd0_e : eCode cd0 = [0, 0, 0, 0] := by
  show (numB 0 ++ []) ++ ((numB 0 ++ []) ++ ((numB 0 ++ []) ++ (numB 0 ++ []))) = _
  rw [numB_low (by decide)]
  rfl
theorem cd0_T : ∃ T : ByteArray, ofN (encN cd0) = T ∧ T.size = 16 ∧ T.extract 0 8 = ⟨#[108, 116, 104, 49, 0, 0, 0, 0]⟩ ∧ decN (bytN T) = .ok cd0 := by
  refine ⟨_, rfl, by rw [ofN_size, enc_len, cd0_e]; rfl, ?_, by rw [bytN_ofN (enc_lt cd0_ok), dec_fw cd0_ok cd0_check]⟩
  apply bytN_inj
  have h9 := bytN_ext (ofN (encN cd0)) 0 8
  rw [Nat.zero_add, List.drop_zero, bytN_ofN (enc_lt cd0_ok)] at h9
  rw [h9]
  unfold encN bodyN
  rw [cd0_e, List.take_append_of_le_length (by decide)]
  rfl
theorem cut0 : decN (bytN ⟨#[108, 116, 104, 49, 0, 0]⟩) = .error (242, 6) := by rfl
theorem print9 : crP (bytN ⟨#[49, 50, 51, 52, 53, 54, 55, 56, 57]⟩) = 11051210869376104954 := by decide +kernel

set_option maxRecDepth 100000 in
set_option maxHeartbeats 8000000 in
theorem works24_any (w : World) :
    Calls Tryz.prog 11 #[] w fun e w' => e = .returned (.bool true) ∧ Below w.heap.size w w' := by
  obtain ⟨T, hT, hTs, hT8, hTd⟩ := cd0_T
  have KE := encode_good (.slice none 0 0) (.slice none 0 0) (.slice none 0 0) (.slice none 0 0) cd0 (ok_cd cd0_ok) w (cd0_V w) cd0_check
  rw [hT] at KE
  have KE' := hidC KE
  have KD := hidC (fun v => decode_any T (by omega) v)
  rw [hTd] at KD
  have KC := hidC (fun v => decode_any ⟨#[108, 116, 104, 49, 0, 0]⟩ (by decide) v)
  rw [cut0] at KC
  unfold DecP at KD KC
  simp only [cd0, List.length_nil] at KD KC
  have KP := hidC (fun v => cprint_any ⟨#[49, 50, 51, 52, 53, 54, 55, 56, 57]⟩ (by decide) v)
  rw [print9] at KP
  have KQ := hidC (fun (v : World) (a0 a1 a2 a3 : Value) (ha : CdV v a0 a1 a2 a3 cd0) => rEqual_any a0 a1 a2 a3 (.slice none 0 0) (.slice none 0 0) (.slice none 0 0) (.slice none 0 0) cd0 cd0 (ok_cd cd0_ok) (ok_cd cd0_ok) v ha (cd0_V v))
  rw [eqC_self] at KQ
  have i1 : (0 : Int) ≤ 8 := by decide
  clear KE hT hTd
  go_enter Tryz.func11, Tryz.ntmps11
  go_upto_region 2 with (go_at_call 8; (with_reducible refine KE'.out.mono ?_); rintro e9 w4 ⟨rfl, hb4⟩; have HB4 := hidC hb4; clear hb4)
  go_upto_region 3 with (go_at_call 12; (with_reducible refine (KD.out _).mono ?_); rintro e9 w5 ⟨p0, q0, p1, q1, p2, q2, p3, q3, rfl, ho5, hb5⟩; have HO5 := hidC ho5; have HB5 := hidC hb5; clear ho5 hb5)
  obtain ⟨X, hX⟩ : ∃ X, w5.heap.size = X := ⟨_, rfl⟩
  obtain ⟨V, hV⟩ : ∃ V, w5.alloc (.cells #[.slice p0 0 q0, .slice p1 0 q1, .slice p2 0 q2, .slice p3 0 q3] 27) = V := ⟨_, rfl⟩
  have hbV : Below w5.heap.size w5 V := by rw [← hV]; exact bel_alloc _ _
  have x0 : V.cell? ⟨X, 0, none⟩ = some (.slice p0 0 q0) := by rw [← hV, ← hX]; simp [go_sem]
  have x1 : V.cell? ⟨X, 1, none⟩ = some (.slice p1 0 q1) := by rw [← hV, ← hX]; simp [go_sem]
  have x2 : V.cell? ⟨X, 2, none⟩ = some (.slice p2 0 q2) := by rw [← hV, ← hX]; simp [go_sem]
  have x3 : V.cell? ⟨X, 3, none⟩ = some (.slice p3 0 q3) := by rw [← hV, ← hX]; simp [go_sem]
  have HX := hidC (And.intro x0 (And.intro x1 (And.intro x2 x3)))
  have HBV : Hid (Below w.heap.size w V) := bel (bel HB4.out HB5.out) hbV
  have HCV := hidC ((cd_own HO5.out).below hbV)
  try rw [hV]
  try rw [hX]
  clear hV hX hbV x0 x1 x2 x3 HO5 HB4 HB5 KE' KD
  go_upto_region 4 with (go_at_call 12; (with_reducible refine (KC.out _).mono ?_); rintro e9 w6 ⟨rfl, hb6⟩; have HB6 := hidC hb6; clear hb6)
  obtain ⟨V2, hV2⟩ : ∃ V, w6.alloc (.cells #[.slice none 0 0, .slice none 0 0, .slice none 0 0, .slice none 0 0] 27) = V := ⟨_, rfl⟩
  have hb2 : Below V.heap.size V V2 := by rw [← hV2]; exact bel HB6.out (bel_alloc _ _)
  obtain ⟨x0, x1, x2, x3⟩ := HX.out
  have y0 := kc hb2 x0
  have y1 := kc hb2 x1
  have y2 := kc hb2 x2
  have y3 := kc hb2 x3
  have KQ2 := hidC (KQ.out V2 _ _ _ _ (HCV.out.below hb2))
  have HB2 : Hid (Below w.heap.size w V2) := bel HBV.out hb2
  try rw [hV2]
  clear hV2 hb2 x0 x1 x2 x3 HX KQ HCV HBV KC
  go_wp2_with (first | (go_at_call 10; (with_reducible refine KQ2.out.mono ?_); rintro e9 w7 ⟨rfl, hb7⟩; have HB7 := hidC (bel HB2.out hb7); clear hb7) | (go_at_call 19; (with_reducible refine (KP.out _).mono ?_); rintro e9 w8 ⟨rfl, rfl⟩))
  refine bodyPost_ret (by simp [results, Tryz.results11, go_sem, *]; try rfl) rfl ?_
  exact ⟨by first | rfl | simp, HB7.out⟩

end Go.Proofs.YtnlgkkbmbijndaaGreat
/- latheref20.Twin: code of its own (as lathelaw17.twin). -/
namespace Go.Proofs.YtnlgkkbmbijndaaGreat
open Go.RowKit
set_option linter.unusedVariables false
set_option linter.unusedSimpArgs false

set_option maxRecDepth 100000 in
set_option maxHeartbeats 4000000 in
theorem twin20_any (v0 v1 v2 v3 : Value) (c : Cd) (hz : CdSz c) (w : World) (hv : CdV w v0 v1 v2 v3 c) :
    Calls Tryz.prog 7 #[.agg #[v0, v1, v2, v3]] w fun e w' => ∃ u0 u1 u2 u3, e = .returned (.agg #[u0, u1, u2, u3]) ∧ CdV w' u0 u1 u2 u3 c ∧ Own4 w.heap.size w' u0 u1 u2 u3 c ∧ Below w.heap.size w w' := by
  have s0 := hz.s
  have s1 := hz.r
  have s2 := hz.l
  have s3 := hz.i
  have C0 := CW.start w v0 v1 v2 v3
  obtain ⟨W0, hW0⟩ : ∃ W, ((w.alloc (.cells #[v0, v1, v2, v3] 27)).alloc (.cells #[.slice none 0 0, .slice none 0 0, .slice none 0 0, .slice none 0 0] 27)).alloc (.cells #[.slice none 0 0, .slice none 0 0, .slice none 0 0, .slice none 0 0] 27) = W := ⟨_, rfl⟩
  have hE : W0.heap.size = w.heap.size + 1 + 1 + 1 := by rw [← hW0]; simp
  rw [hW0] at C0
  have U0 : Up (w.heap.size + 1 + 1 + 1) W0 W0 := ⟨Nat.le_refl _, fun _ _ _ => rfl⟩
  obtain ⟨z0, w1, r0, b0, o0⟩ := app_Par (hv.sign.below C0.bel) (by omega) 22
  obtain ⟨p0, q0, rfl⟩ := own_len o0
  have D0 := C0.app b0
  have c00 := C0.c.at 0 rfl
  have c01 : W0.cell? ⟨w.heap.size + 1 + 1, 0, none⟩ = some (.slice none 0 0) := C0.d.cell (i := 0) (by decide)
  have c02 : w1.cell? ⟨w.heap.size + 1 + 1, 0, none⟩ = some (.slice none 0 0) := D0.d.cell (i := 0) (by decide)
  have c03 := D0.d.frozen 0
  rw [Nat.zero_add] at c00
  have C1 := D0.put (y0 := (.slice p0 c.sign.length q0)) (y1 := (.slice none 0 0)) (y2 := (.slice none 0 0)) (y3 := (.slice none 0 0)) 0 (.slice p0 c.sign.length q0) (by intro j hj; rcases (show j = 0 ∨ j = 1 ∨ j = 2 ∨ j = 3 by omega) with rfl | rfl | rfl | rfl <;> rfl)
  obtain ⟨V1, hV1⟩ : ∃ V, w1.setCell ⟨w.heap.size + 1 + 1, 0, none⟩ (.slice p0 c.sign.length q0) = V := ⟨_, rfl⟩
  have U1 : Up (w.heap.size + 1 + 1 + 1) W0 V1 := by rw [← hV1]; exact (Up.of b0).trans (Up.set _ (by omega) _ _)
  have T1 : Up (w.heap.size + 1 + 1 + 1) w1 V1 := by rw [← hV1]; exact Up.set _ (by omega) _ _
  have HV0 : Hid (w1.setCell ⟨w.heap.size + 1 + 1, 0, none⟩ (.slice p0 c.sign.length q0) = V1) := hV1
  rw [hV1] at C1
  have HR0 : Hid ((Builtin.append_ #[22, 22] 22 #[.slice none 0 0, v0]).run Tryz.prog W0 = .ok (.slice p0 c.sign.length q0) w1) := r0
  have e0 : w.heap.size + 1 + 1 + 1 ≤ W0.heap.size := by have := U0.1; omega
  obtain ⟨z1, w2, r1, b1, o1⟩ := app_Ty (hv.regs.below C1.bel) (by omega) 23
  obtain ⟨p1, q1, rfl⟩ := own_len o1
  have D1 := C1.app b1
  have c10 := C1.c.at 1 rfl
  have c11 : V1.cell? ⟨w.heap.size + 1 + 1, 1, none⟩ = some (.slice none 0 0) := C1.d.cell (i := 1) (by decide)
  have c12 : w2.cell? ⟨w.heap.size + 1 + 1, 1, none⟩ = some (.slice none 0 0) := D1.d.cell (i := 1) (by decide)
  have c13 := D1.d.frozen 1
  rw [Nat.zero_add] at c10
  have C2 := D1.put (y0 := (.slice p0 c.sign.length q0)) (y1 := (.slice p1 c.regs.length q1)) (y2 := (.slice none 0 0)) (y3 := (.slice none 0 0)) 1 (.slice p1 c.regs.length q1) (by intro j hj; rcases (show j = 0 ∨ j = 1 ∨ j = 2 ∨ j = 3 by omega) with rfl | rfl | rfl | rfl <;> rfl)
  obtain ⟨V2, hV2⟩ : ∃ V, w2.setCell ⟨w.heap.size + 1 + 1, 1, none⟩ (.slice p1 c.regs.length q1) = V := ⟨_, rfl⟩
  have U2 : Up (w.heap.size + 1 + 1 + 1) V1 V2 := by rw [← hV2]; exact (Up.of b1).trans (Up.set _ (by omega) _ _)
  have T2 : Up (w.heap.size + 1 + 1 + 1) w2 V2 := by rw [← hV2]; exact Up.set _ (by omega) _ _
  have HV1 : Hid (w2.setCell ⟨w.heap.size + 1 + 1, 1, none⟩ (.slice p1 c.regs.length q1) = V2) := hV2
  rw [hV2] at C2
  have HR1 : Hid ((Builtin.append_ #[23, 23] 23 #[.slice none 0 0, v1]).run Tryz.prog V1 = .ok (.slice p1 c.regs.length q1) w2) := r1
  have e1 : w.heap.size + 1 + 1 + 1 ≤ V1.heap.size := by have := U1.1; omega
  obtain ⟨z2, w3, r2, b2, o2⟩ := app_Sl (hv.slots.below C2.bel) (by omega) 24
  obtain ⟨p2, q2, rfl⟩ := own_len o2
  have D2 := C2.app b2
  have c20 := C2.c.at 2 rfl
  have c21 : V2.cell? ⟨w.heap.size + 1 + 1, 2, none⟩ = some (.slice none 0 0) := C2.d.cell (i := 2) (by decide)
  have c22 : w3.cell? ⟨w.heap.size + 1 + 1, 2, none⟩ = some (.slice none 0 0) := D2.d.cell (i := 2) (by decide)
  have c23 := D2.d.frozen 2
  rw [Nat.zero_add] at c20
  have C3 := D2.put (y0 := (.slice p0 c.sign.length q0)) (y1 := (.slice p1 c.regs.length q1)) (y2 := (.slice p2 c.slots.length q2)) (y3 := (.slice none 0 0)) 2 (.slice p2 c.slots.length q2) (by intro j hj; rcases (show j = 0 ∨ j = 1 ∨ j = 2 ∨ j = 3 by omega) with rfl | rfl | rfl | rfl <;> rfl)
  obtain ⟨V3, hV3⟩ : ∃ V, w3.setCell ⟨w.heap.size + 1 + 1, 2, none⟩ (.slice p2 c.slots.length q2) = V := ⟨_, rfl⟩
  have U3 : Up (w.heap.size + 1 + 1 + 1) V2 V3 := by rw [← hV3]; exact (Up.of b2).trans (Up.set _ (by omega) _ _)
  have T3 : Up (w.heap.size + 1 + 1 + 1) w3 V3 := by rw [← hV3]; exact Up.set _ (by omega) _ _
  have HV2 : Hid (w3.setCell ⟨w.heap.size + 1 + 1, 2, none⟩ (.slice p2 c.slots.length q2) = V3) := hV3
  rw [hV3] at C3
  have HR2 : Hid ((Builtin.append_ #[24, 24] 24 #[.slice none 0 0, v2]).run Tryz.prog V2 = .ok (.slice p2 c.slots.length q2) w3) := r2
  have e2 : w.heap.size + 1 + 1 + 1 ≤ V2.heap.size := by have := U2.1; omega
  obtain ⟨z3, w4, r3, b3, o3⟩ := app_ins (hv.list.below C3.bel) (by omega) 25
  obtain ⟨p3, q3, rfl⟩ := own_len o3
  have D3 := C3.app b3
  have c30 := C3.c.at 3 rfl
  have c31 : V3.cell? ⟨w.heap.size + 1 + 1, 3, none⟩ = some (.slice none 0 0) := C3.d.cell (i := 3) (by decide)
  have c32 : w4.cell? ⟨w.heap.size + 1 + 1, 3, none⟩ = some (.slice none 0 0) := D3.d.cell (i := 3) (by decide)
  have c33 := D3.d.frozen 3
  rw [Nat.zero_add] at c30
  have C4 := D3.put (y0 := (.slice p0 c.sign.length q0)) (y1 := (.slice p1 c.regs.length q1)) (y2 := (.slice p2 c.slots.length q2)) (y3 := (.slice p3 c.list.length q3)) 3 (.slice p3 c.list.length q3) (by intro j hj; rcases (show j = 0 ∨ j = 1 ∨ j = 2 ∨ j = 3 by omega) with rfl | rfl | rfl | rfl <;> rfl)
  obtain ⟨V4, hV4⟩ : ∃ V, w4.setCell ⟨w.heap.size + 1 + 1, 3, none⟩ (.slice p3 c.list.length q3) = V := ⟨_, rfl⟩
  have U4 : Up (w.heap.size + 1 + 1 + 1) V3 V4 := by rw [← hV4]; exact (Up.of b3).trans (Up.set _ (by omega) _ _)
  have T4 : Up (w.heap.size + 1 + 1 + 1) w4 V4 := by rw [← hV4]; exact Up.set _ (by omega) _ _
  have HV3 : Hid (w4.setCell ⟨w.heap.size + 1 + 1, 3, none⟩ (.slice p3 c.list.length q3) = V4) := hV4
  rw [hV4] at C4
  have HR3 : Hid ((Builtin.append_ #[25, 25] 25 #[.slice none 0 0, v3]).run Tryz.prog V3 = .ok (.slice p3 c.list.length q3) w4) := r3
  have e3 : w.heap.size + 1 + 1 + 1 ≤ V3.heap.size := by have := U3.1; omega
  have U5 : Up (w.heap.size + 1 + 1 + 1) V4 ((((V4.setCell ⟨w.heap.size + 1, 0, none⟩ (.slice p0 c.sign.length q0)).setCell ⟨w.heap.size + 1, 1, none⟩ (.slice p1 c.regs.length q1)).setCell ⟨w.heap.size + 1, 2, none⟩ (.slice p2 c.slots.length q2)).setCell ⟨w.heap.size + 1, 3, none⟩ (.slice p3 c.list.length q3)) := (((Up.set _ (by omega) _ _).trans (Up.set _ (by omega) _ _)).trans (Up.set _ (by omega) _ _)).trans (Up.set _ (by omega) _ _)
  have HF : Hid (CdV ((((V4.setCell ⟨w.heap.size + 1, 0, none⟩ (.slice p0 c.sign.length q0)).setCell ⟨w.heap.size + 1, 1, none⟩ (.slice p1 c.regs.length q1)).setCell ⟨w.heap.size + 1, 2, none⟩ (.slice p2 c.slots.length q2)).setCell ⟨w.heap.size + 1, 3, none⟩ (.slice p3 c.list.length q3)) (.slice p0 c.sign.length q0) (.slice p1 c.regs.length q1) (.slice p2 c.slots.length q2) (.slice p3 c.list.length q3) c ∧ Own4 w.heap.size (((((V4.setCell ⟨w.heap.size + 1, 0, none⟩ (.slice p0 c.sign.length q0)).setCell ⟨w.heap.size + 1, 1, none⟩ (.slice p1 c.regs.length q1)).setCell ⟨w.heap.size + 1, 2, none⟩ (.slice p2 c.slots.length q2)).setCell ⟨w.heap.size + 1, 3, none⟩ (.slice p3 c.list.length q3))) (.slice p0 c.sign.length q0) (.slice p1 c.regs.length q1) (.slice p2 c.slots.length q2) (.slice p3 c.list.length q3) c ∧ Below w.heap.size w ((((V4.setCell ⟨w.heap.size + 1, 0, none⟩ (.slice p0 c.sign.length q0)).setCell ⟨w.heap.size + 1, 1, none⟩ (.slice p1 c.regs.length q1)).setCell ⟨w.heap.size + 1, 2, none⟩ (.slice p2 c.slots.length q2)).setCell ⟨w.heap.size + 1, 3, none⟩ (.slice p3 c.list.length q3))) := by
    have g0 := ((((T1.trans U2).trans U3).trans U4).trans U5).own o0 e0
    have g1 := (((T2.trans U3).trans U4).trans U5).own o1 e1
    have g2 := ((T3.trans U4).trans U5).own o2 e2
    have g3 := (T4.trans U5).own o3 e3
    refine ⟨⟨own_row parC_len g0, own_row tyC_len g1, own_row slC_len g2, own_row inC_len g3⟩, ⟨own_mono g0 (by omega), own_mono g1 (by omega), own_mono g2 (by omega), own_mono g3 (by omega)⟩, ?_⟩
    exact (((C4.bel.setCell (by show w.heap.size ≤ w.heap.size + 1; omega) _).setCell (by show w.heap.size ≤ w.heap.size + 1; omega) _).setCell (by show w.heap.size ≤ w.heap.size + 1; omega) _).setCell (by show w.heap.size ≤ w.heap.size + 1; omega) _
  have m0 : V4.cell? ⟨w.heap.size + 1 + 1, 0, none⟩ = some (.slice p0 c.sign.length q0) := C4.d.cell (i := 0) (by decide)
  have m1 : V4.cell? ⟨w.heap.size + 1 + 1, 1, none⟩ = some (.slice p1 c.regs.length q1) := C4.d.cell (i := 1) (by decide)
  have m2 : V4.cell? ⟨w.heap.size + 1 + 1, 2, none⟩ = some (.slice p2 c.slots.length q2) := C4.d.cell (i := 2) (by decide)
  have m3 : V4.cell? ⟨w.heap.size + 1 + 1, 3, none⟩ = some (.slice p3 c.list.length q3) := C4.d.cell (i := 3) (by decide)
  have k0 : V4.cell? ⟨w.heap.size + 1, 0, none⟩ = some (.slice none 0 0) := C4.r.cell (i := 0) (by decide)
  have k1 : V4.cell? ⟨w.heap.size + 1, 1, none⟩ = some (.slice none 0 0) := C4.r.cell (i := 1) (by decide)
  have k2 : V4.cell? ⟨w.heap.size + 1, 2, none⟩ = some (.slice none 0 0) := C4.r.cell (i := 2) (by decide)
  have k3 : V4.cell? ⟨w.heap.size + 1, 3, none⟩ = some (.slice none 0 0) := C4.r.cell (i := 3) (by decide)
  have y0 := C4.r.frozen 0
  have y1 := C4.r.frozen 1
  have y2 := C4.r.frozen 2
  have y3 := C4.r.frozen 3
  have HW : Hid (((w.alloc (.cells #[v0, v1, v2, v3] 27)).alloc (.cells #[.slice none 0 0, .slice none 0 0, .slice none 0 0, .slice none 0 0] 27)).alloc (.cells #[.slice none 0 0, .slice none 0 0, .slice none 0 0, .slice none 0 0] 27) = W0) := hW0
  clear C0 C1 C2 C3 C4 D0 D1 D2 D3 U0 U1 U2 U3 U4 U5 T1 T2 T3 T4 o0 o1 o2 o3 b0 b1 b2 b3 r0 r1 r2 r3 hv hz hV1 hV2 hV3 hV4 hW0 e0 e1 e2 e3 hE
  go_enter Tryz.func7, Tryz.ntmps7
  go_upto_region 2 with fail
  rw [HW.out]
  go_upto_region 3 with (at_builtin; refine wpList_app (by rfl) _ _ _ (by rfl) _ _ _ (by rfl) (by rfl) HR0.out ?_)
  rw [HV0.out]
  go_upto_region 4 with (at_builtin; refine wpList_app (by rfl) _ _ _ (by rfl) _ _ _ (by rfl) (by rfl) HR1.out ?_)
  rw [HV1.out]
  go_upto_region 5 with (at_builtin; refine wpList_app (by rfl) _ _ _ (by rfl) _ _ _ (by rfl) (by rfl) HR2.out ?_)
  rw [HV2.out]
  go_upto_region 6 with (at_builtin; refine wpList_app (by rfl) _ _ _ (by rfl) _ _ _ (by rfl) (by rfl) HR3.out ?_)
  rw [HV3.out]
  go_wp2
  refine bodyPost_ret (by simp [results, Tryz.results7, go_sem, *]; try rfl) rfl ?_
  exact ⟨_, _, _, _, rfl, HF.out.1, HF.out.2.1, HF.out.2.2⟩

end Go.Proofs.YtnlgkkbmbijndaaGreat
/- Bytecode's length. -/
namespace Go.Proofs.YtnlgkkbmbijndaaGreat
set_option linter.unusedVariables false
set_option linter.unusedSimpArgs false

theorem eLst_lenC {α : Type} {e : α → List Nat} {m n : Nat} {l : List α} (h : ∀ x ∈ l, (e x).length ≤ m) (hn : l.length ≤ n) (h9 : n < 9223372036854775808) : (eLst e l).length ≤ 9 + m * n := by
  have h1 := flat_len_le (e := e) (m := m) l h
  have h2 := numB_nine (n := l.length) (by omega)
  have h3 : m * l.length ≤ m * n := Nat.mul_le_mul_left m hn
  unfold eLst
  rw [List.length_append]
  omega
theorem eCode_len {c : Cd} (h : okCode c) : (eCode c).length ≤ 3000000 := by
  have h1 := eLst_lenC (e := ePar) (fun x hx => ePar_len (h.1.2 x hx)) h.1.1 (by decide)
  have h2 := eLst_lenC (e := eTy) (fun x hx => eTy_len (h.2.1.2 x hx)) h.2.1.1 (by decide)
  have h3 := eLst_lenC (e := eSl) (fun x hx => eSl_len (h.2.2.1.2 x hx)) h.2.2.1.1 (by decide)
  have h4 := eLst_lenC (e := eIns) (fun x hx => eIns_len (h.2.2.2.2 x hx)) h.2.2.2.1 (by decide)
  unfold eCode
  simp only [List.length_append]
  omega

end Go.Proofs.YtnlgkkbmbijndaaGreat
/- Layer 24, plainly: bits that are turned; no error is 0. No program in it. -/
namespace Go.Proofs.YtnlgkkbmbijndaaGreat
set_option linter.unusedVariables false
set_option linter.unusedSimpArgs false

/-- The bits that were turned so far. -/
def msk (B : Nat) : Nat → Nat
  | 0 => 0
  | i + 1 => if B / 2 ^ i % 2 = 1 then msk B i ^^^ 2 ^ i else msk B i
theorem msk_lt (B : Nat) : ∀ i, msk B i < 2 ^ i
  | 0 => by show 0 < 1; decide
  | i + 1 => by
    have h := msk_lt B i
    have h1 : 2 ^ i < 2 ^ (i + 1) := Nat.pow_lt_pow_right (by decide) (by omega)
    show (if B / 2 ^ i % 2 = 1 then msk B i ^^^ 2 ^ i else msk B i) < _
    split
    · exact Nat.xor_lt_two_pow (by omega) h1
    · omega
/-- No error is 0. -/
def Er {α : Type} (q : Pz α) : Prop := ∀ l p e, q l p = .error e → e.1 ≠ 0
theorem er_bind {α β : Type} {q : Pz α} {f : α → Pz β} (h : Er q) (k : ∀ x, Er (f x)) : Er (pBind q f) := fun l p e he => by
  unfold pBind at he
  split at he
  · rename_i e' h1
    simp only [Except.error.injEq] at he
    subst he
    exact h l p _ h1
  · rename_i x l' p' h1
    exact k x l' p' e he
theorem er_pure {α : Type} (x : α) : Er (pPure x) := fun l p e he => by cases he
theorem er_byte (lo hi : Nat) : Er (pByte lo hi) := fun l p e he => by
  cases l with
  | nil => simp only [pByte, Except.error.injEq] at he; rw [← he]; simp
  | cons a l =>
    unfold pByte at he
    simp only at he
    split at he
    · simp only [Except.error.injEq] at he; rw [← he]; simp
    · cases he
theorem numR_err : ∀ (l : List Nat) (k n : Nat) (e : Int), numR l k n = .error e → e ≠ 0
  | [], k, n, e, h => by simp only [numR, Except.error.injEq] at h; rw [← h]; decide
  | b :: l, k, n, e, h => by
    unfold numR at h
    split at h
    · simp only [Except.error.injEq] at h; rw [← h]; decide
    · split at h
      · cases h
      · exact numR_err l _ _ e h
theorem er_num : Er pNum := fun l p e he => by
  unfold pNum at he
  split at he
  · rename_i e' h1
    simp only [Except.error.injEq] at he
    rw [← he]
    exact numR_err _ _ _ _ h1
  · cases he
theorem er_count (m : Nat) : Er (pCount m) := fun l p e he => by
  unfold pCount at he
  split at he
  · rename_i e' h1
    simp only [Except.error.injEq] at he
    subst he
    exact er_num l p _ h1
  · split at he
    · simp only [Except.error.injEq] at he; rw [← he]; simp
    · cases he
theorem er_take (n : Nat) : Er (pTake n) := fun l p e he => by
  unfold pTake at he
  split at he
  · simp only [Except.error.injEq] at he; rw [← he]; simp
  · cases he
theorem er_fix (k : Nat) : Er (pFix k) := er_bind (er_take k) fun _ => er_pure _
theorem er_rep {α : Type} {q : Pz α} (h : Er q) : ∀ n, Er (pRep q n)
  | 0 => er_pure _
  | n + 1 => er_bind h fun x => er_bind (er_rep h n) fun xs => er_pure _
theorem er_lst {α : Type} {q : Pz α} (h : Er q) (m : Nat) : Er (pLst m q) := er_bind (er_count m) fun n => er_rep h n
theorem er_fld (b : Bool) : Er (pFld b) := by
  cases b with
  | true => exact er_bind er_num fun _ => er_pure _
  | false => exact er_pure _
theorem er_par : Er pPar := er_bind (er_bind (er_byte 1 2) fun k => er_bind (er_bind (er_bind (er_count 64) fun n => er_bind (er_take n) fun l => er_pure _) fun n => er_bind (er_fld true) fun v => er_pure _) fun z => er_pure _) fun z => er_pure _
theorem er_ty : Er pTy := er_bind (er_bind (er_byte 1 3) fun k => er_bind (er_fld _) fun v => er_pure _) fun z => er_pure _
theorem er_sl : Er pSl := er_bind (er_byte 0 1) fun k => er_bind er_ty fun t => by
  show Er (if t.kind = 2 then _ else _)
  split
  · exact er_bind er_num fun _ => er_pure _
  · exact er_bind (er_fix 4) fun _ => er_pure _
theorem er_bit (op : Nat) : Er (pBit op) := by
  unfold pBit
  split
  · exact er_bind (er_fix 4) fun _ => er_pure _
  · exact er_pure _
theorem er_ins : Er pIns := er_bind (er_byte 1 37) fun op => er_bind (er_fld _) fun d => er_bind (er_fld _) fun a => er_bind (er_fld _) fun b => er_bind (er_fld _) fun c => er_bind (er_fld _) fun n => er_bind (er_bit _) fun z => er_pure _
theorem er_code : Er pCode := er_bind (er_lst er_par 64) fun s => er_bind (er_lst er_ty 16384) fun r => er_bind (er_lst er_sl 4096) fun t => er_bind (er_lst er_ins 32768) fun l => er_pure _
theorem dec_err {s : List Nat} {er : Int} {at_ : Nat} (h : decN s = .error (er, at_)) : er ≠ 0 := by
  unfold decN at h
  split at h
  · simp only [Except.error.injEq, Prod.mk.injEq] at h; omega
  · split at h
    · simp only [Except.error.injEq, Prod.mk.injEq] at h; omega
    · split at h
      · rename_i e h1
        simp only [Except.error.injEq] at h
        have := er_code _ _ _ h1
        rw [h] at this
        exact this
      · split at h
        · simp only [Except.error.injEq, Prod.mk.injEq] at h; omega
        · split at h
          · simp only [Except.error.injEq, Prod.mk.injEq] at h; omega
          · split at h
            · simp only [Except.error.injEq, Prod.mk.injEq] at h; omega
            · split at h
              · rename_i q
                simp only [Except.error.injEq, Prod.mk.injEq] at h
                rw [← h.1]
                exact q
              · cases h
end Go.Proofs.YtnlgkkbmbijndaaGreat
/- The statements of layer 24: sealed(). -/
namespace Go.Proofs.YtnlgkkbmbijndaaGreat
open Go.RowKit
open Go.Lib (strCells run_append_own_string)
set_option linter.unusedVariables false
set_option linter.unusedSimpArgs false

theorem lowB_at : ∀ (k n i : Nat) (hi : i < (lowB k n).length), (lowB k n)[i] = n / 256 ^ i % 256
  | 0, n, i, hi => by cases hi
  | k + 1, n, 0, hi => by show n % 256 = n / 1 % 256; rw [Nat.div_one]
  | k + 1, n, i + 1, hi => by
    have hi' : i < (lowB k (n / 256)).length := by
      have h9 : i + 1 < (lowB k (n / 256)).length + 1 := hi
      omega
    show (lowB k (n / 256))[i] = _
    rw [lowB_at k (n / 256) i hi', Nat.div_div_eq_div_mul, Nat.pow_succ, Nat.mul_comm]
theorem own_str {E : Nat} {w : World} {v : Value} {l : List Nat} (h : w.ownsRow E 5 1 v l.length (u8s l)) (hb : ∀ b ∈ l, b < 256) (hn : 0 < l.length) :
    ∃ p q, v = .slice p l.length q ∧ (convert 49 9 (.slice p l.length q)).run Tryz.prog w = .ok (.string (ofN l)) w := by
  rcases h.2 with ⟨-, e2⟩ | ⟨g, cap, cur, e1, -⟩
  · omega
  · refine ⟨some ⟨g, 0, none⟩, cap, e1, ?_⟩
    have hob : v.ownBlock = some g := by rw [e1]; rfl
    have hl : (l.map UInt8.ofNat).length = l.length := List.length_map _
    have := run_convert_bytes_back (P := Tryz.prog) w 49 9 5 ⟨g, 0, none⟩ cap (l.map UInt8.ofNat) Tryz.underlying49 Tryz.underlying5 Tryz.underlying9 (fun j hj => by
      have hj' : j < l.length := by rw [← hl]; exact hj
      have hlt := hb l[j] (List.getElem_mem hj')
      have h9 := h.cells hob j (.int .u8 ((l[j] : Nat) : Int)) (by unfold u8s; simp [hj'])
      rw [h9, List.getElem_map, UInt8.toNat_ofNat', Nat.mod_eq_of_lt hlt])
    rw [hl] at this
    exact this

set_option maxRecDepth 100000 in
set_option maxHeartbeats 8000000 in
theorem sealed_any (s : ByteArray) (hs : s.size ≤ 140737488354000) (w : World) :
    Calls Tryz.prog 14 #[.string s] w fun e w' => e = .returned (.string (ofN (bytN s ++ lowB 8 (crP (bytN s))))) ∧ Below w.heap.size w w' := by
  have KR := hidC (fun v => rprint_any s (by omega) v)
  have hP := crP_lt (bytN_lt s)
  obtain ⟨P, hPe⟩ : ∃ P, crP (bytN s) = P := ⟨_, rfl⟩
  rw [hPe] at KR hP ⊢
  obtain ⟨i0, hi0, hz0, hz1, hz2⟩ := info_parts info_U8
  have ht : Tryz.prog.underlying 49 = some (.slice 5) := Tryz.underlying49
  have hu : Tryz.prog.underlying 9 = some .string := Tryz.underlying9
  obtain ⟨v1, w1, hr1, ho1, hg1, -⟩ := run_append_own_string (P := Tryz.prog) w w.heap.size _ _ 49 _ i0 ht hu hi0 hz0 hz1 hz2 (.slice none 0 0) 0 [] (World.ownsRow_nil w w.heap.size 5 1) s (by unfold maxLen; omega) (by omega) (Nat.le_refl _)
  obtain ⟨p1, q1, rfl⟩ := own_len ho1
  have hb1 : Below w.heap.size w w1 := (Below.refl _ _).grown hg1 (Nat.le_refl _) (fun b e => by cases e)
  obtain ⟨L, hL⟩ : ∃ L, bytN s = L := ⟨_, rfl⟩
  have hLl : s.size = L.length := by rw [← hL, bytN_len]
  rw [Nat.zero_add, hLl] at hr1 ho1
  rw [List.nil_append, u8s_str, hL] at ho1
  rw [hL]
  have HLB : Hid (∀ b ∈ L, b < 256) := fun b hb => bytN_lt s b (by rw [hL]; exact hb)
  have hLs : L.length ≤ 140737488354000 := by omega
  have HR1 := hidC hr1
  have HO1 := hidC ho1
  have HB1 := hidC hb1
  have HP := hidC hP
  obtain ⟨T, hT⟩ : ∃ T, ofN (L ++ lowB 8 P) = T := ⟨_, rfl⟩
  rw [hT]
  have HTT := hidC hT
  clear hr1 ho1 hb1 hg1 hL hLl hPe hP hs hT hi0 hz0 hz1 hz2 ht hu
  go_enter Tryz.func14, Tryz.ntmps14
  go_upto_block 0 with (first | (go_at_call 24; (with_reducible refine (KR.out _).mono ?_); rintro e9 w4 ⟨rfl, hw4⟩; have hw5 := hw4.symm; subst hw5) | (at_builtin; refine wpList_appS (by rfl) _ _ _ _ (by rfl) _ _ _ (by rfl) (by rfl) HR1.out ?_))
  go_wp2_with fail
  go_loopw [4, 5] (fun bv iv wx => ∃ (i n : Nat) (p : Option Addr) (q : Nat), i ≤ 8 ∧ iv = .int .i64 (i : Int) ∧ bv = .slice p n q ∧ Hid (n = L.length + i ∧ Below w.heap.size w wx ∧ wx.ownsRow w.heap.size 5 1 (.slice p n q) n (u8s (L ++ (lowB 8 P).take i)))) (fun _ iv _ => 8 - (intOf iv).toNat)
  case atStart => exact ⟨0, _, p1, q1, by decide, rfl, rfl, rfl, HB1.out, by rw [List.take_zero, List.append_nil]; exact HO1.out⟩
  case round =>
    clear HR1 HO1 HB1 KR
    obtain ⟨i, n, p, q, hi, rfl, rfl, HJ⟩ := hrel
    by_cases hlt : i < 8
    · obtain ⟨j1, j2, j3⟩ := HJ.out
      have e1 : (i : Int) < 8 := by omega
      have w8 : IntKind.i64.wrap (8 * (i : Int)) = ((8 * i : Nat) : Int) := by rw [IntKind.wrap_i64]; omega
      have wu : IntKind.u64.wrap ((8 * i : Nat) : Int) = ((8 * i : Nat) : Int) := by unfold IntKind.wrap; simp [IntKind.signed, IntKind.bits]; omega
      obtain ⟨Q, hQ⟩ : ∃ Q, P / 256 ^ i = Q := ⟨_, rfl⟩
      have hsr : (P : Int) / 2 ^ (8 * i) = (Q : Int) := by rw [← hQ, show (256 : Nat) ^ i = 2 ^ (8 * i) by rw [Nat.pow_mul], Int.natCast_ediv, Int.natCast_pow]; rfl
      obtain ⟨D, hD⟩ : ∃ D, Q % 256 = D := ⟨_, rfl⟩
      have wD : IntKind.u8.wrap (Q : Int) = (D : Int) := by rw [IntKind.wrap_u8']; omega
      obtain ⟨g, c', w2, a1, a2, a3, -⟩ := own_app2 Tryz.underlying49 info_U8 rfl (by decide) j3 j2.size #[.int .u8 (D : Int)] rfl (fun u hu => by simp at hu; rw [hu]; rfl) (by unfold maxLen; omega) (by omega) 49
      have hll : i < (lowB 8 P).length := by rw [lowB_len]; exact hlt
      have hrow : u8s (L ++ (lowB 8 P).take i) ++ [Value.int .u8 (D : Int)] = u8s (L ++ (lowB 8 P).take (i + 1)) := by
        rw [List.take_succ_eq_append_getElem hll, lowB_at 8 P i hll, hQ, hD]
        unfold u8s
        simp
      have HA1 := hidC a1
      have HN : Hid (n + 1 = L.length + (i + 1) ∧ Below w.heap.size w w2 ∧ w2.ownsRow w.heap.size 5 1 (.slice (some ⟨g, 0, none⟩) (n + 1) c') (n + 1) (u8s (L ++ (lowB 8 P).take (i + 1)))) := ⟨by omega, j2.trans a2, by rw [← hrow]; exact a3⟩
      have wi : IntKind.i64.wrap ((i : Int) + 1) = ((i + 1 : Nat) : Int) := by rw [IntKind.wrap_i64]; omega
      have s4 : (0 : Int) ≤ ((8 * i : Nat) : Int) := by omega
      clear j1 j2 j3 a1 a2 a3 hQ hD hll hrow HJ
      go_wp2_with (at_builtin; refine wpList_app (by rfl) _ _ _ (by rfl) _ _ _ (by rfl) (by rfl) HA1.out ?_)
      go_roundw
      case rel => exact ⟨i + 1, n + 1, some ⟨g, 0, none⟩, c', by omega, by go_num, rfl, HN.out⟩
      case measure => simp [intOf]; omega
    · obtain ⟨j1, j2, j3⟩ := HJ.out
      have e1 : ¬ (i : Int) < 8 := by omega
      have hti : (lowB 8 P).take i = lowB 8 P := List.take_of_length_le (by rw [lowB_len]; omega)
      rw [hti] at j3
      have hn : n = (L ++ lowB 8 P).length := by rw [List.length_append, lowB_len]; omega
      rw [hn] at j3
      obtain ⟨p', q', e2, hcv⟩ := own_str j3 (fun b hb => by
        rcases List.mem_append.1 hb with h | h
        · exact HLB.out b h
        · exact lowB_lt _ _ b h) (by rw [List.length_append, lowB_len]; omega)
      simp only [Value.slice.injEq, true_and] at e2
      obtain ⟨rfl, rfl⟩ := e2
      rw [← hn] at hcv
      have HB2 := hidC j2
      rw [HTT.out] at hcv
      clear j1 j2 j3 hti HJ hlt hn
      go_wp2
      refine bodyPost_ret (by simp [results, Tryz.results14, go_sem, *]; try rfl) rfl ?_
      exact ⟨rfl, HB2.out⟩

end Go.Proofs.YtnlgkkbmbijndaaGreat
