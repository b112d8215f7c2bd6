import Derived.Test.YtgcmnkanjcfndaaGreatDoorTxt21
import Derived.Test.YtgcmnkanjcfndaaGreatDoorTxt9
import Derived.Deep.DeepCutAuto
import Derived.Test.YtgcmnkanjcfndaaGreatDoorTxt1
import Derived.OrdersHeld
namespace Go.Proofs.YtgcmnkanjcfndaaGreatDoor
open Go.RowKit
set_option linter.unusedVariables false
set_option linter.unusedSimpArgs false
set_option maxRecDepth 100000 in
set_option maxHeartbeats 8000000 in
theorem echo_any (w : World) : Calls Tryz.prog 21 #[] w fun e w' => ∃ v0 v1 v2 v3, e = .returned (.agg #[v0, v1, v2, v3]) ∧ CdV w' v0 v1 v2 v3 echoC ∧ Below w.heap.size w w' := by
 obtain ⟨X, hXX⟩ : ∃ X, w.heap.size = X := ⟨_, rfl⟩
 obtain ⟨W0, hW0⟩ : ∃ W, w.alloc (.cells #[.slice none 0 0, .slice none 0 0, .slice none 0 0, .slice none 0 0] 27) = W := ⟨_, rfl⟩
 have b0 : Below w.heap.size w W0 := by rw [← hW0]; exact bel_alloc _ _
 have r0 : W0.rowIs X 27 4 (f4 (.slice none 0 0) (.slice none 0 0) (.slice none 0 0) (.slice none 0 0)) := by rw [← hW0, ← hXX]; exact q4_new _ _ _ _ _ _
 obtain ⟨W1, hW1⟩ : ∃ W, W0.alloc (.cells #[.int .i64 3, .int .i64 0] 50) = W := ⟨_, rfl⟩
 obtain ⟨T, hT⟩ : ∃ T, W0.heap.size = T := ⟨_, rfl⟩
 have b1 : Below W0.heap.size W0 W1 := by rw [← hW1]; exact bel_alloc _ _
 have rt : W1.rowIs T 50 2 (g2 (.int .i64 3) (.int .i64 0)) := by rw [← hW1, ← hT]; exact q2_new _ _ _ _
 obtain ⟨A, hA⟩ : ∃ A, W1.heap.size = A := ⟨_, rfl⟩
 obtain ⟨W2, hW2⟩ : ∃ W, W1.alloc (.cells #[.string ⟨#[119]⟩, .int .i64 1, .int .i64 2] 48) = W := ⟨_, rfl⟩
 have b2 : Below W1.heap.size W1 W2 := by rw [← hW2]; exact bel_alloc _ _
 have ra : W2.rowIs A 48 3 (g3 (.string ⟨#[119]⟩) (.int .i64 1) (.int .i64 2)) := by rw [← hW2, ← hA]; exact q3_new _ _ _ _ _
 obtain ⟨B, hB⟩ : ∃ A, W2.heap.size = A := ⟨_, rfl⟩
 obtain ⟨W3, hW3⟩ : ∃ W, W2.alloc (.cells #[.int .i64 3, .int .i64 0] 50) = W := ⟨_, rfl⟩
 have b3 : Below W2.heap.size W2 W3 := by rw [← hW3]; exact bel_alloc _ _
 have rb : W3.rowIs B 50 2 (g2 (.int .i64 3) (.int .i64 0)) := by rw [← hW3, ← hB]; exact q2_new _ _ _ _
 obtain ⟨D, hD⟩ : ∃ A, W3.heap.size = A := ⟨_, rfl⟩
 obtain ⟨W4, hW4⟩ : ∃ W, W3.alloc (.cells #[.int .i64 29, .int .i64 0, .int .i64 0, .int .i64 0, .int .i64 0, .int .i64 0, .int .u32 0, .int .i64 31, .int .i64 0, .int .i64 0, .int .i64 0, .int .i64 0, .int .i64 0, .int .u32 0] 46) = W := ⟨_, rfl⟩
 have b4 : Below W3.heap.size W3 W4 := by rw [← hW4]; exact bel_alloc _ _
 have rd : W4.rowIs D 46 14 (fun j => ((#[Value.int .i64 29, .int .i64 0, .int .i64 0, .int .i64 0, .int .i64 0, .int .i64 0, .int .u32 0, .int .i64 31, .int .i64 0, .int .i64 0, .int .i64 0, .int .i64 0, .int .i64 0, .int .u32 0] : Array Value)[j]?).getD undef) := by
  rw [← hW4, ← hD]
  exact World.rowIs_alloc W3 #[Value.int .i64 29, .int .i64 0, .int .i64 0, .int .i64 0, .int .i64 0, .int .i64 0, .int .u32 0, .int .i64 31, .int .i64 0, .int .i64 0, .int .i64 0, .int .i64 0, .int .i64 0, .int .u32 0] _ _ (fun i hi => by rw [Array.getElem?_eq_getElem hi]; rfl)
 have lD : D < W4.heap.size := by rw [← hW4, ← hD]; simp
 have t0 := (c2g rt)
 obtain ⟨y0, y1⟩ := c2g (rt.of_block (b2.block _ rt.lt))
 have h4 : ∀ f, W4.rowIs X 27 4 f → True := fun _ _ => trivial
 have r4 := (((r0.of_block (b1.block _ r0.lt)).of_block (b2.block _ (Nat.lt_of_lt_of_le r0.lt b1.size))).of_block (b3.block _ (Nat.lt_of_lt_of_le r0.lt (bel b1 b2).size))).of_block (b4.block _ (Nat.lt_of_lt_of_le r0.lt (bel (bel b1 b2) b3).size))
 obtain ⟨z0, z1, z2, z3⟩ := c4 r4
 obtain ⟨f0, f1, f2, f3⟩ := z4 r4
 obtain ⟨hp1, hp2⟩ := put4 r4 (.slice (some ⟨A, 0, none⟩) 1 1) (.slice (some ⟨B, 0, none⟩) 1 1) (.slice none 0 0) (.slice (some ⟨D, 0, none⟩) 2 2)
 obtain ⟨W5, hW5⟩ : ∃ W, (((W4.setCell ⟨X, 0, none⟩ (.slice (some ⟨A, 0, none⟩) 1 1)).setCell ⟨X, 1, none⟩ (.slice (some ⟨B, 0, none⟩) 1 1)).setCell ⟨X, 2, none⟩ (.slice none 0 0)).setCell ⟨X, 3, none⟩ (.slice (some ⟨D, 0, none⟩) 2 2) = W := ⟨_, rfl⟩
 rw [hW5] at hp1 hp2
 obtain ⟨u0, u1, u2, u3⟩ := c4 hp1
 have lX : X < T := by rw [← hT]; exact r0.lt
 have lT : T < A := by rw [← hA]; exact rt.lt
 have lA : A < B := by rw [← hB]; exact ra.lt
 have lB : B < D := by rw [← hD]; exact rb.lt
 have HCD : Hid (CdV W5 (.slice (some ⟨A, 0, none⟩) 1 1) (.slice (some ⟨B, 0, none⟩) 1 1) (.slice none 0 0) (.slice (some ⟨D, 0, none⟩) 2 2) echoC) := by
  have ra5 := ((ra.of_block (b3.block _ ra.lt)).of_block (b4.block _ (Nat.lt_of_lt_of_le ra.lt b3.size))).of_block (hp2.oth _ (by omega))
  have rb5 := (rb.of_block (b4.block _ rb.lt)).of_block (hp2.oth _ (by omega))
  have rd5 := rd.of_block (hp2.oth _ (by omega))
  refine ⟨⟨_, _, rfl, .inr ⟨A, 0, rfl, fun i hi => ?_⟩⟩, ⟨_, _, rfl, .inr ⟨B, 0, rfl, fun i hi => ?_⟩⟩, ⟨none, 0, rfl, .inl rfl⟩, ⟨_, _, rfl, .inr ⟨D, 0, rfl, fun i hi => ?_⟩⟩⟩
  ·have : i = 0 := by have : i < 1 := hi; omega
   subst this
   intro j hj
   have hj' : j < 3 := hj
   rcases (show j = 0 ∨ j = 1 ∨ j = 2 by omega) with rfl | rfl | rfl
   ·exact ra5.cell (i := 0) (by decide)
   ·exact ra5.cell (i := 1) (by decide)
   ·exact ra5.cell (i := 2) (by decide)
  ·have : i = 0 := by have : i < 1 := hi; omega
   subst this
   intro j hj
   have hj' : j < 2 := hj
   rcases (show j = 0 ∨ j = 1 by omega) with rfl | rfl
   ·exact rb5.cell (i := 0) (by decide)
   ·exact rb5.cell (i := 1) (by decide)
  ·have : i = 0 ∨ i = 1 := by have : i < 2 := hi; omega
   rcases this with rfl | rfl
   ·intro j hj
    have hj' : j < 7 := hj
    rcases (show j = 0 ∨ j = 1 ∨ j = 2 ∨ j = 3 ∨ j = 4 ∨ j = 5 ∨ j = 6 by omega) with rfl | rfl | rfl | rfl | rfl | rfl | rfl <;> exact rd5.cell (by decide)
   ·intro j hj
    have hj' : j < 7 := hj
    rcases (show j = 0 ∨ j = 1 ∨ j = 2 ∨ j = 3 ∨ j = 4 ∨ j = 5 ∨ j = 6 by omega) with rfl | rfl | rfl | rfl | rfl | rfl | rfl <;> exact rd5.cell (by decide)
 have HBB : Hid (Below w.heap.size w W5) := (bel (bel (bel (bel b0 b1) b2) b3) b4).trans (hp2.bel _ (Nat.le_of_eq hXX))
 have HW1 := hidC hW1
 clear hW1
 have HW2 := hidC (And.intro hW2 (And.intro hW3 hW4))
 clear hW2 hW3 hW4
 clear b0 b1 b2 b3 b4 r0 rt ra rb rd lD t0 h4 r4 hp1 hp2 lX lT lA lB
 go_enter Tryz.func21, Tryz.ntmps21
 go_upto_region 2 with fail
 rw [HW1.out]
 have hW2 := HW2.out.1
 have hW3 := HW2.out.2.1
 have hW4 := HW2.out.2.2
 go_wp2
 refine bodyPost_ret (by simp [results, Tryz.results21, go_sem, *]; try rfl) rfl ?_
 try rw [hW5]
 exact ⟨_, _, _, _, rfl, HCD.out, HBB.out⟩
end Go.Proofs.YtgcmnkanjcfndaaGreatDoor
namespace Go.Proofs.YtgcmnkanjcfndaaGreatDoor
open Go.RowKit
set_option linter.unusedVariables false
set_option linter.unusedSimpArgs false
theorem echo_cd : CdOk echoC := ⟨by decide, by decide, by decide, by decide, by decide, fun s hs => (nomatch hs), fun i hi => by
 simp only [echoC, List.mem_cons, List.not_mem_nil, or_false] at hi
 rcases hi with rfl | rfl <;> decide⟩
set_option maxRecDepth 100000 in
set_option maxHeartbeats 16000000 in
theorem sure25_any (w : World) (hL : Laid w) : Calls Tryz.prog 10 #[] w fun e w' => e = .returned (.bool true) ∧ Below w.heap.size w w' := by
 have HL := hidC hL
 have HT : Hid (∀ (v : World) (a0 a1 a2 a3 : Value), Laid v → CdV v a0 a1 a2 a3 echoC → Calls Tryz.prog 8 #[.agg #[a0, a1, a2, a3]] v fun e w' => e = .returned (.tuple #[.string ⟨#[108, 97, 116, 104, 101, 32, 49, 10, 112, 97, 114, 97, 109, 32, 119, 32, 114, 101, 97, 108, 32, 50, 10, 114, 101, 103, 32, 48, 32, 118, 101, 99, 116, 111, 114, 32, 48, 10, 103, 114, 97, 100, 32, 114, 48, 32, 48, 10, 111, 117, 116, 32, 114, 48, 32, 48, 10]⟩, .int .i64 0]) ∧ Below v.heap.size v w') := fun v a0 a1 a2 a3 h1 h2 => by
  have h9 := aText_any a0 a1 a2 a3 echoC echo_cd v h1 h2
  rw [if_pos echo_ok, if_pos echo_ok, show textA echoC = echoT from rfl, echo_text] at h9
  exact h9
 have HP : Hid (∀ (v : World) (T : ByteArray), bs T = echoT → Laid v → Calls Tryz.prog 11 #[.string T] v fun e w' => ∃ p0 q0 p1 q1 p2 q2 p3 q3, e = .returned (.tuple #[.agg #[.slice p0 1 q0, .slice p1 1 q1, .slice p2 0 q2, .slice p3 2 q3], .int .i64 0, .int .i64 0]) ∧ CdV w' (.slice p0 1 q0) (.slice p1 1 q1) (.slice p2 0 q2) (.slice p3 2 q3) echoC ∧ Below v.heap.size v w') := fun v T hT h1 => by
  have h9 := aparse_any T v h1
  rw [hT, echo_read] at h9
  refine h9.mono ?_
  rintro e w' ⟨a0, a1, a2, a3, h2, h3, h4, -⟩
  obtain ⟨p0, q0, rfl⟩ := own_len h3.sign
  obtain ⟨p1, q1, rfl⟩ := own_len h3.regs
  obtain ⟨p2, q2, rfl⟩ := own_len h3.slots
  obtain ⟨p3, q3, rfl⟩ := own_len h3.list
  exact ⟨p0, q0, p1, q1, p2, q2, p3, q3, h2, h3.cdv, h4⟩
 have HM : Hid (∀ (v : World) (T : ByteArray), bs T = echoT ++ moreT → Laid v → Calls Tryz.prog 11 #[.string T] v fun e w' => ∃ p0 n0 q0 p1 n1 q1 p2 n2 q2 p3 n3 q3, e = .returned (.tuple #[.agg #[.slice p0 n0 q0, .slice p1 n1 q1, .slice p2 n2 q2, .slice p3 n3 q3], .int .i64 250, .int .i64 6]) ∧ Below v.heap.size v w') := fun v T hT h1 => by
  have h9 := aparse_any T v h1
  rw [hT] at h9
  refine h9.mono ?_
  rintro e w' ⟨a0, a1, a2, a3, h2, h3, h4, -⟩
  rw [echo_more.1, echo_more.2] at h2
  obtain ⟨p0, q0, rfl⟩ := own_len h3.sign
  obtain ⟨p1, q1, rfl⟩ := own_len h3.regs
  obtain ⟨p2, q2, rfl⟩ := own_len h3.slots
  obtain ⟨p3, q3, rfl⟩ := own_len h3.list
  exact ⟨p0, _, q0, p1, _, q1, p2, _, q2, p3, _, q3, h2, h4⟩
 clear hL
 go_enter Tryz.func10, Tryz.ntmps10
 go_upto_region 2 with (first
  | (go_at_call 21; (with_reducible refine (echo_any _).mono ?_); rintro e w1 ⟨g0, g1, g2, g3, rfl, hg, b1⟩; have H1 := hidC (And.intro hg b1); clear hg b1)
  | (go_at_call 8; (with_reducible refine (HT.out _ _ _ _ _ (HL.out.below H1.out.2) H1.out.1).mono ?_); rintro e w2 ⟨rfl, b2⟩; have H2 := hidC (bel H1.out.2 b2); clear b2))
 go_upto_region 3 with (go_at_call 11; (refine (HP.out w2 _ (by rw [echo_text]; rfl) (HL.out.below H2.out)).mono ?_); rintro e w3 ⟨p0, q0, p1, q1, p2, q2, p3, q3, rfl, hc3, b3⟩; have H3 := hidC (And.intro hc3 (bel H2.out b3)); clear hc3 b3)
 obtain ⟨V, hV⟩ : ∃ V, w3.alloc (.cells #[.slice p0 1 q0, .slice p1 1 q1, .slice p2 0 q2, .slice p3 2 q3] 27) = V := ⟨_, rfl⟩
 obtain ⟨X, hXX⟩ : ∃ X, w3.heap.size = X := ⟨_, rfl⟩
 have hb4 : Below w3.heap.size w3 V := by rw [← hV]; exact bel_alloc _ _
 have hr4 : V.rowIs X 27 4 (f4 (.slice p0 1 q0) (.slice p1 1 q1) (.slice p2 0 q2) (.slice p3 2 q3)) := by rw [← hV, ← hXX]; exact q4_new _ _ _ _ _ _
 have HCV := hidC (H3.out.1.below hb4)
 have HBV := hidC (bel H3.out.2 hb4)
 have HR4 := hidC hr4
 try rw [hV]
 try rw [hXX]
 clear hV hXX hb4 hr4
 go_upto_region 4 with (go_at_call 11; (refine (HM.out V _ (by rw [echo_text]; rfl) (HL.out.below HBV.out)).mono ?_); rintro e w4 ⟨s0, n0, t0, s1, n1, t1, s2, n2, t2, s3, n3, t3, rfl, b4⟩; have HB4 := hidC b4; clear b4)
 obtain ⟨V2, hV2⟩ : ∃ V, w4.alloc (.cells #[.slice s0 n0 t0, .slice s1 n1 t1, .slice s2 n2 t2, .slice s3 n3 t3] 27) = V := ⟨_, rfl⟩
 have hb5 : Below V.heap.size V V2 := by rw [← hV2]; exact bel HB4.out (bel_alloc _ _)
 try rw [hV2]
 have HB5 := hidC hb5
 obtain ⟨a0, ha0⟩ : ∃ a, Value.slice p0 1 q0 = a := ⟨_, rfl⟩
 obtain ⟨a1, ha1⟩ : ∃ a, Value.slice p1 1 q1 = a := ⟨_, rfl⟩
 obtain ⟨a2, ha2⟩ : ∃ a, Value.slice p2 0 q2 = a := ⟨_, rfl⟩
 obtain ⟨a3, ha3⟩ : ∃ a, Value.slice p3 2 q3 = a := ⟨_, rfl⟩
 rw [ha0, ha1, ha2, ha3] at HR4 HCV
 obtain ⟨x0, x1, x2, x3⟩ := c4 (HR4.out.of_block (hb5.block _ HR4.out.lt))
 have HCD : Hid (CdV V2 a0 a1 a2 a3 echoC) := HCV.out.below hb5
 have y0 : V2.drew.cell? ⟨X, 0, none⟩ = some a0 := x0
 have y1 : V2.drew.cell? ⟨X, 1, none⟩ = some a1 := x1
 have y2 : V2.drew.cell? ⟨X, 2, none⟩ = some a2 := x2
 have y3 : V2.drew.cell? ⟨X, 3, none⟩ = some a3 := x3
 have HEQ : Hid (∀ (v : World) (g0 g1 g2 g3 : Value), Below V2.heap.size V2 v → CdV v g0 g1 g2 g3 echoC → Calls Tryz.prog 13 #[.agg #[a0, a1, a2, a3], .agg #[g0, g1, g2, g3]] v fun e w' => e = .returned (.bool true) ∧ Below v.heap.size v w') := fun v g0 g1 g2 g3 k hg => by
  have h9 := rEqual_any a0 a1 a2 a3 g0 g1 g2 g3 echoC echoC echo_cd echo_cd v (HCD.out.below k) hg
  rw [eqC_self] at h9
  exact h9
 clear hV2 hb5 ha0 ha1 ha2 ha3
 refine wp_region_held_drew (S := (fun v => v.cell? ⟨X, 0, none⟩ = some a0 ∧ v.cell? ⟨X, 1, none⟩ = some a1 ∧ v.cell? ⟨X, 2, none⟩ = some a2 ∧ v.cell? ⟨X, 3, none⟩ = some a3)) (by kernel_rfl) ?_ (fun hHeld => ?_)
 ·((try dsimp only); go_keep)
 refine tkT 0 ?_
 refine tkT 1 ?_
 refine tkT 2 ?_
 refine tkT 3 ?_
 refine tkT 4 ?_
 refine tkT 5 ?_
 refine tkT 6 ?_
 refine tkT 7 ?_
 clear hHeld
 refine wpAnyH_ready (rs := [8]) (by kernel_rfl) (by simp) ?_
 refine AllReadyH.cons (i := 8) (by simp only [List.getElem?_toArray, List.getElem?_cons_succ, List.getElem?_cons_zero]; rfl) (fun K hK => ?_) AllReadyH.nil
 go_simp
 (go_at_call 21; (with_reducible refine (echo_any _).mono ?_); rintro e w6 ⟨g0, g1, g2, g3, rfl, hg, b6⟩; have b7 := bel (bel_d V2) b6; have H6 := hidC (And.intro hg b7); have o0 := kc b7 x0; have o1 := kc b7 x1; have o2 := kc b7 x2; have o3 := kc b7 x3; clear hg b6 b7)
 try (go_wp2_with fail)
 refine hK.out _ _ ?_ (fun hHeld => ?_)
 ·((try dsimp only); go_keep)
 clear hK K
 try simp only [Act.put, List.setIfInBounds_toArray, List.set_cons_zero, List.set_cons_succ]
 clear hHeld
 refine wpAnyH_ready (rs := [9]) (by kernel_rfl) (by simp) ?_
 refine AllReadyH.cons (i := 9) (by simp only [List.getElem?_toArray, List.getElem?_cons_succ, List.getElem?_cons_zero]; rfl) (fun K hK => ?_) AllReadyH.nil
 go_simp
 (go_at_call 13; (with_reducible refine (HEQ.out _ _ _ _ _ H6.out.2 H6.out.1).mono ?_); rintro e w8 ⟨rfl, b8⟩; have b9 := bel H6.out.2 b8; have H8 := hidC b9; clear o0 o1 o2 o3; have o0 := kc b9 x0; have o1 := kc b9 x1; have o2 := kc b9 x2; have o3 := kc b9 x3; clear b8 b9)
 try (go_wp2_with fail)
 refine hK.out _ _ ?_ (fun hHeld => ?_)
 ·((try dsimp only); go_keep)
 clear hK K
 try simp only [Act.put, List.setIfInBounds_toArray, List.set_cons_zero, List.set_cons_succ]
 refine tkT 10 ?_
 refine tkT 11 ?_
 refine tkT 12 ?_
 refine tkT 13 ?_
 refine tkT 14 ?_
 refine tkT 15 ?_
 refine tkT 16 ?_
 refine tkT 17 ?_
 refine tkT 18 ?_
 refine tkT 19 ?_
 refine tkT 20 ?_
 refine tkT 21 ?_
 refine tkT 22 ?_
 refine tkT 23 ?_
 refine wpAnyH_done (by kernel_rfl) ?_ _
 try go_wp2
 refine bodyPost_ret (by simp [results, Tryz.results10, go_sem, *]; try rfl) rfl ?_
 exact ⟨rfl, bel (bel HBV.out HB5.out) H8.out⟩
end Go.Proofs.YtgcmnkanjcfndaaGreatDoor
namespace Go.Proofs.YtgcmnkanjcfndaaGreatDoor
open Go.RowKit
open Go.Lib (decDigits)
set_option linter.unusedVariables false
set_option linter.unusedSimpArgs false
theorem dig_ext : ∀ d : Nat, d < 10 → (⟨#[48, 49, 50, 51, 52, 53, 54, 55, 56, 57]⟩ : ByteArray).extract d (d + 1) = sof [UInt8.ofNat (48 + d)] := fun d h => by
 rcases (show d = 0 ∨ d = 1 ∨ d = 2 ∨ d = 3 ∨ d = 4 ∨ d = 5 ∨ d = 6 ∨ d = 7 ∨ d = 8 ∨ d = 9 by omega) with rfl | rfl | rfl | rfl | rfl | rfl | rfl | rfl | rfl | rfl <;> decide
set_option maxRecDepth 100000 in
set_option maxHeartbeats 4000000 in
theorem rdig_any (n : Nat) : n ≤ 2147483647 → ∀ w : World, Calls Tryz.prog 49 #[.int .i64 (n : Int)] w fun e w' => e = .returned (.string (sof (decDigits n))) ∧ Below w.heap.size w w' := by
 induction n using Nat.strongRecOn with
 | ind n ih =>
 intro hn w
 have e0 : ¬ (n : Int) < 0 := by omega
 by_cases q : n < 10
 ·have e1 : (n : Int) < 10 := by omega
  have w1 : IntKind.i64.wrap ((n : Int) + 1) = (n : Int) + 1 := by rw [IntKind.wrap_i64]; omega
  have i0 : (0 : Int) ≤ (n : Int) := by omega
  have i1 : (n : Int) + 1 ≤ 10 := by omega
  have i2 : (n : Int) ≤ (n : Int) + 1 := by omega
  have HD : Hid (sof (decDigits n) = sof [UInt8.ofNat (48 + n)]) := by show _ = _; rw [Lib.decDigits_one q]
  have HX := hidC (dig_ext n q)
  clear ih hn
  go_enter Tryz.func49, Tryz.ntmps49
  go_wp2
  refine bodyPost_ret (by simp [results, Tryz.results49, go_sem, *]; try rfl) rfl ?_
  refine ⟨?_, Below.refl _ _⟩
  rw [HD.out, ← HX.out]
 ·have e1 : ¬ (n : Int) < 10 := by omega
  obtain ⟨M, hM⟩ : ∃ M, n / 10 = M := ⟨_, rfl⟩
  have HIH : Hid (∀ v, Calls Tryz.prog 49 #[.int .i64 (M : Int)] v fun e w' => e = .returned (.string (sof (decDigits M))) ∧ Below v.heap.size v w') := fun v => ih M (by omega) (by omega) v
  obtain ⟨A, hA⟩ : ∃ A, sof (decDigits M) = A := ⟨_, rfl⟩
  rw [hA] at HIH
  have q1 : (n : Int).tdiv 10 = (M : Int) := by rw [Int.tdiv_eq_ediv_of_nonneg (by omega)]; omega
  have q2 : (n : Int) / 10 = (M : Int) := by omega
  obtain ⟨d, hd⟩ : ∃ d, n % 10 = d := ⟨_, rfl⟩
  have hd10 : d < 10 := by omega
  have r1 : (n : Int).tmod 10 = (d : Int) := by rw [Int.tmod_eq_emod_of_nonneg (by omega)]; omega
  have r2 : (n : Int) % 10 = (d : Int) := by omega
  have w0 : IntKind.i64.wrap (M : Int) = (M : Int) := by rw [IntKind.wrap_i64]; omega
  have w1 : IntKind.i64.wrap ((d : Int) + 1) = (d : Int) + 1 := by rw [IntKind.wrap_i64]; omega
  have w2 : IntKind.i64.wrap (d : Int) = (d : Int) := by rw [IntKind.wrap_i64]; omega
  have i0 : (0 : Int) ≤ (d : Int) := by omega
  have i1 : (d : Int) + 1 ≤ 10 := by omega
  have i2 : (d : Int) ≤ (d : Int) + 1 := by omega
  have sA : A.size ≤ 10 := by
   rw [← hA, ← bs_length, bs_of]
   have := num_len (n := (M : Int)) (by omega)
   unfold numT at this
   rwa [Int.toNat_natCast] at this
  have s1 : ¬ 9223372036854775807 < A.size + (min (d + 1) 10 - d) := by omega
  have HX := hidC (dig_ext d hd10)
  have HD : Hid (sof (decDigits n) = A ++ sof [UInt8.ofNat (48 + d)]) := by
   show _ = _
   rw [← hA, sof_app]
   conv => lhs; rw [decDigits, dif_neg q]
   rw [hd, hM]
  clear ih hn hA hd sA hM
  go_enter Tryz.func49, Tryz.ntmps49
  go_upto_region 5 with fail
  refine wp_region_held_drew (S := (fun _ => True)) (by kernel_rfl) ?_ (fun hHeld => ?_)
  ·trivial
  refine tkT 0 ?_
  refine tkT 1 ?_
  refine tkT 3 ?_
  refine tkT 4 ?_
  refine tkT 5 ?_
  refine tkT 6 ?_
  refine tkT 7 ?_
  refine tkT 8 ?_
  clear hHeld
  refine wpAnyH_ready (rs := [2]) (by kernel_rfl) (by simp) ?_
  refine AllReadyH.cons (i := 2) (by simp only [List.getElem?_toArray, List.getElem?_cons_succ, List.getElem?_cons_zero]; rfl) (fun K hK => ?_) AllReadyH.nil
  go_simp
  (go_at_call 49; (with_reducible refine (HIH.out _).mono ?_); rintro e w2 ⟨rfl, b2⟩; have H2 := hidC (bel (bel_d w) b2); clear b2)
  try (go_wp2_with fail)
  refine hK.out _ _ ?_ (fun hHeld => ?_)
  ·trivial
  clear hK K
  try simp only [Act.put, List.setIfInBounds_toArray, List.set_cons_zero, List.set_cons_succ]
  refine tkT 9 ?_
  refine tkT 10 ?_
  refine wpAnyH_done (by kernel_rfl) ?_ _
  try go_wp2
  refine bodyPost_ret (by simp [results, Tryz.results49, go_sem, *]; try rfl) rfl ?_
  refine ⟨?_, H2.out⟩
  rw [HD.out, ← HX.out]
end Go.Proofs.YtgcmnkanjcfndaaGreatDoor
namespace Go.Proofs.YtgcmnkanjcfndaaGreatDoor
open Go.RowKit
set_option linter.unusedVariables false
set_option linter.unusedSimpArgs false
theorem rdn_any (n : Int) (h0 : 0 ≤ n) (h1 : n ≤ 2147483647) (w : World) : Calls Tryz.prog 49 #[.int .i64 n] w fun e w' => e = .returned (.string (sof (numT n))) ∧ Below w.heap.size w w' := by
 have h9 := rdig_any n.toNat (by omega) w
 rw [show ((n.toNat : Nat) : Int) = n by omega] at h9
 exact h9
theorem num_sz {n : Int} (h : n ≤ 2147483647) : (sof (numT n)).size ≤ 10 := by rw [sof_size]; exact num_len h
set_option maxRecDepth 100000 in
set_option maxHeartbeats 4000000 in
theorem rkind_any (t : Ty) (ht : okTy t) (w : World) : Calls Tryz.prog 50 #[.agg #[.int .i64 t.kind, .int .i64 t.par]] w fun e w' => e = .returned (.string (sof (joinW (typWs t)))) ∧ Below w.heap.size w w' := by
 obtain ⟨kd, par⟩ := t
 obtain ⟨V, hV⟩ : ∃ V, w.alloc (.cells #[.int .i64 kd, .int .i64 par] 50) = V := ⟨_, rfl⟩
 obtain ⟨X, hXX⟩ : ∃ X, w.heap.size = X := ⟨_, rfl⟩
 have hb0 : Below w.heap.size w V := by rw [← hV]; exact bel_alloc _ _
 have hr : V.rowIs X 50 2 (g2 (.int .i64 kd) (.int .i64 par)) := by rw [← hV, ← hXX]; exact q2_new _ _ _ _
 have HB0 := hidC hb0
 obtain ⟨x0, x1⟩ := c2g hr
 rcases ht with ⟨h1, h2⟩ | ⟨h1, h2⟩ | ⟨h1, h2, h3⟩
 ·have h1 : kd = 1 := h1
  subst h1
  clear hr hb0 h2
  go_enter Tryz.func50, Tryz.ntmps50
  go_upto_region 1 with fail
  try rw [hV]
  try rw [hXX]
  clear hV hXX
  go_wp2
  refine bodyPost_ret (by simp [results, Tryz.results50, go_sem, *]; try rfl) rfl ?_
  exact ⟨rfl, HB0.out⟩
 ·have h1 : kd = 2 := h1
  subst h1
  clear hr hb0 h2
  go_enter Tryz.func50, Tryz.ntmps50
  go_upto_region 1 with fail
  try rw [hV]
  try rw [hXX]
  clear hV hXX
  go_wp2
  refine bodyPost_ret (by simp [results, Tryz.results50, go_sem, *]; try rfl) rfl ?_
  exact ⟨rfl, HB0.out⟩
 ·have h1 : kd = 3 := h1
  subst h1
  have h2 : 0 ≤ par := h2
  have h3 : par ≤ 2147483647 := h3
  obtain ⟨D, hD⟩ : ∃ D, sof (numT par) = D := ⟨_, rfl⟩
  have HN : Hid (∀ v, Calls Tryz.prog 49 #[.int .i64 par] v fun e w' => e = .returned (.string D) ∧ Below v.heap.size v w') := fun v => by rw [← hD]; exact rdn_any par h2 h3 v
  have sD : D.size ≤ 10 := by rw [← hD]; exact num_sz h3
  have z0 : ¬ 9223372036854775807 < 7 + D.size := by omega
  have HR : Hid ((⟨#[118, 101, 99, 116, 111, 114, 32]⟩ : ByteArray) ++ D = sof (joinW (typWs ⟨3, par⟩))) := by
   show _ = _
   rw [← hD]
   show sof [118, 101, 99, 116, 111, 114, 32] ++ sof (numT par) = sof (vectorB ++ 32 :: numT par)
   rw [sof_app]
   rfl
  clear hr hb0 h2 h3 hD sD
  go_enter Tryz.func50, Tryz.ntmps50
  go_upto_region 1 with fail
  try rw [hV]
  try rw [hXX]
  clear hV hXX
  go_wp2_with (go_at_call 49; (with_reducible refine (HN.out _).mono ?_); rintro e w1 ⟨rfl, b1⟩; have H1 := hidC (bel HB0.out b1); clear b1)
  refine bodyPost_ret (by simp [results, Tryz.results50, go_sem, *]; try rfl) rfl ?_
  exact ⟨by rw [← HR.out], H1.out⟩
set_option maxRecDepth 100000 in
set_option maxHeartbeats 4000000 in
theorem rparam_any (p : Par) (hp : mayP p = true) (w : World) : Calls Tryz.prog 17 #[.agg #[.string p.name, .int .i64 p.kind, .int .i64 p.len]] w fun e w' => e = .returned (.string (sof (joinW (parWs p)))) ∧ Below w.heap.size w w' := by
 have hk := kind_in hp
 obtain ⟨h1, h2⟩ := len_in hp
 have hnm : p.name.size ≤ 64 := by
  unfold mayP namedP at hp
  simp only [Bool.and_eq_true, decide_eq_true_eq] at hp
  exact hp.1.1.1.2
 clear hp
 obtain ⟨NM, kd, ln⟩ := p
 simp only at hk h1 h2 hnm
 have hNM := hnm
 obtain ⟨V, hV⟩ : ∃ V, w.alloc (.cells #[.string NM, .int .i64 kd, .int .i64 ln] 48) = V := ⟨_, rfl⟩
 obtain ⟨X, hXX⟩ : ∃ X, w.heap.size = X := ⟨_, rfl⟩
 have hb0 : Below w.heap.size w V := by rw [← hV]; exact bel_alloc _ _
 have hr : V.rowIs X 48 3 (g3 (.string NM) (.int .i64 kd) (.int .i64 ln)) := by rw [← hV, ← hXX]; exact q3_new _ _ _ _ _
 have HB0 := hidC hb0
 obtain ⟨x0, x1, x2⟩ := c3 hr
 obtain ⟨D, hD⟩ : ∃ D, sof (numT ln) = D := ⟨_, rfl⟩
 have HN : Hid (∀ v, Calls Tryz.prog 49 #[.int .i64 ln] v fun e w' => e = .returned (.string D) ∧ Below v.heap.size v w') := fun v => by rw [← hD]; exact rdn_any ln h1 (by omega) v
 have sD : D.size ≤ 10 := by rw [← hD]; exact num_sz (by omega)
 have y0 : V.drew.cell? ⟨X, 0, none⟩ = some (.string NM) := x0
 have y2 : V.drew.cell? ⟨X, 2, none⟩ = some (.int .i64 ln) := x2
 clear hnm
 rcases hk with e | e
 ·subst e
  have HR : Hid (((((⟨#[112, 97, 114, 97, 109, 32]⟩ : ByteArray) ++ NM) ++ (⟨#[32]⟩ : ByteArray)) ++ (⟨#[114, 101, 97, 108]⟩ : ByteArray)) ++ (⟨#[32]⟩ : ByteArray) ++ D = sof (joinW (parWs ⟨NM, 1, ln⟩))) := by
   show _ = _
   rw [← hD, ← sof_bsA NM]
   show ((((sof [112, 97, 114, 97, 109, 32] ++ sof (bs NM)) ++ sof [32]) ++ sof realB) ++ sof [32]) ++ sof (numT ln) = sof (joinW [paramB, bs (sof (bs NM)), realB, numT ln])
   rw [sof_app, sof_app, sof_app, sof_app, sof_app, sof_bsA]
   congr 1
   simp [joinW, paramB]
  have z0 : ¬ 9223372036854775807 < 6 + NM.size := by omega
  have z1 : ¬ 9223372036854775807 < 6 + NM.size + 1 := by omega
  have z2 : ¬ 9223372036854775807 < 6 + NM.size + 1 + 4 := by omega
  have z3 : ¬ 9223372036854775807 < 6 + NM.size + 1 + 4 + 1 := by omega
  have z4 : ¬ 9223372036854775807 < 6 + NM.size + 1 + 4 + 1 + D.size := by omega
  clear hD sD hNM hr hb0 h1 h2
  go_enter Tryz.func17, Tryz.ntmps17
  go_upto_region 1 with fail
  try rw [hV]
  try rw [hXX]
  clear hV hXX
  go_upto_region 4 with fail
  refine wp_region_held_drew (S := (fun v => v.cell? ⟨X, 0, none⟩ = some (.string NM) ∧ v.cell? ⟨X, 2, none⟩ = some (.int .i64 ln))) (by kernel_rfl) ?_ (fun hHeld => ?_)
  ·((try dsimp only); go_keep)
  refine tkT 0 ?_
  refine tkT 1 ?_
  refine tkT 2 ?_
  refine tkT 3 ?_
  refine tkT 4 ?_
  refine tkT 5 ?_
  refine tkT 6 ?_
  refine tkT 7 ?_
  refine tkT 8 ?_
  clear hHeld
  refine wpAnyH_ready (rs := [9]) (by kernel_rfl) (by simp) ?_
  refine AllReadyH.cons (i := 9) (by simp only [List.getElem?_toArray, List.getElem?_cons_succ, List.getElem?_cons_zero]; rfl) (fun K hK => ?_) AllReadyH.nil
  go_simp
  (go_at_call 49; (with_reducible refine (HN.out _).mono ?_); rintro e w1 ⟨rfl, b1⟩; have b2 := bel (bel_d V) b1; have H1 := hidC (bel HB0.out b2); have o0 := kc b2 x0; have o2 := kc b2 x2; clear b1 b2)
  try (go_wp2_with fail)
  refine hK.out _ _ ?_ (fun hHeld => ?_)
  ·((try dsimp only); go_keep)
  clear hK K
  try simp only [Act.put, List.setIfInBounds_toArray, List.set_cons_zero, List.set_cons_succ]
  refine tkT 10 ?_
  refine tkT 11 ?_
  refine wpAnyH_done (by kernel_rfl) ?_ _
  try go_wp2
  refine bodyPost_ret (by simp [results, Tryz.results17, go_sem, *]; try rfl) rfl ?_
  exact ⟨by rw [← HR.out], H1.out⟩
 ·subst e
  have HR : Hid (((((⟨#[112, 97, 114, 97, 109, 32]⟩ : ByteArray) ++ NM) ++ (⟨#[32]⟩ : ByteArray)) ++ (⟨#[99, 111, 109, 112, 108, 101, 120]⟩ : ByteArray)) ++ (⟨#[32]⟩ : ByteArray) ++ D = sof (joinW (parWs ⟨NM, 2, ln⟩))) := by
   show _ = _
   rw [← hD, ← sof_bsA NM]
   show ((((sof [112, 97, 114, 97, 109, 32] ++ sof (bs NM)) ++ sof [32]) ++ sof complexB) ++ sof [32]) ++ sof (numT ln) = sof (joinW [paramB, bs (sof (bs NM)), complexB, numT ln])
   rw [sof_app, sof_app, sof_app, sof_app, sof_app, sof_bsA]
   congr 1
   simp [joinW, paramB]
  have z0 : ¬ 9223372036854775807 < 6 + NM.size := by omega
  have z1 : ¬ 9223372036854775807 < 6 + NM.size + 1 := by omega
  have z2 : ¬ 9223372036854775807 < 6 + NM.size + 1 + 7 := by omega
  have z3 : ¬ 9223372036854775807 < 6 + NM.size + 1 + 7 + 1 := by omega
  have z4 : ¬ 9223372036854775807 < 6 + NM.size + 1 + 7 + 1 + D.size := by omega
  clear hD sD hNM hr hb0 h1 h2
  go_enter Tryz.func17, Tryz.ntmps17
  go_upto_region 1 with fail
  try rw [hV]
  try rw [hXX]
  clear hV hXX
  go_upto_region 4 with fail
  refine wp_region_held_drew (S := (fun v => v.cell? ⟨X, 0, none⟩ = some (.string NM) ∧ v.cell? ⟨X, 2, none⟩ = some (.int .i64 ln))) (by kernel_rfl) ?_ (fun hHeld => ?_)
  ·((try dsimp only); go_keep)
  refine tkT 0 ?_
  refine tkT 1 ?_
  refine tkT 2 ?_
  refine tkT 3 ?_
  refine tkT 4 ?_
  refine tkT 5 ?_
  refine tkT 6 ?_
  refine tkT 7 ?_
  refine tkT 8 ?_
  clear hHeld
  refine wpAnyH_ready (rs := [9]) (by kernel_rfl) (by simp) ?_
  refine AllReadyH.cons (i := 9) (by simp only [List.getElem?_toArray, List.getElem?_cons_succ, List.getElem?_cons_zero]; rfl) (fun K hK => ?_) AllReadyH.nil
  go_simp
  (go_at_call 49; (with_reducible refine (HN.out _).mono ?_); rintro e w1 ⟨rfl, b1⟩; have b2 := bel (bel_d V) b1; have H1 := hidC (bel HB0.out b2); have o0 := kc b2 x0; have o2 := kc b2 x2; clear b1 b2)
  try (go_wp2_with fail)
  refine hK.out _ _ ?_ (fun hHeld => ?_)
  ·((try dsimp only); go_keep)
  clear hK K
  try simp only [Act.put, List.setIfInBounds_toArray, List.set_cons_zero, List.set_cons_succ]
  refine tkT 10 ?_
  refine tkT 11 ?_
  refine wpAnyH_done (by kernel_rfl) ?_ _
  try go_wp2
  refine bodyPost_ret (by simp [results, Tryz.results17, go_sem, *]; try rfl) rfl ?_
  exact ⟨by rw [← HR.out], H1.out⟩
set_option maxRecDepth 100000 in
set_option maxHeartbeats 4000000 in
theorem rreg25_any (j : Nat) (hj : j ≤ 16384) (t : Ty) (ht : okTy t) (w : World) : Calls Tryz.prog 18 #[.int .i64 (j : Int), .agg #[.int .i64 t.kind, .int .i64 t.par]] w fun e w' => e = .returned (.string (sof (joinW (regWs (j : Int) t)))) ∧ Below w.heap.size w w' := by
 obtain ⟨kd, par⟩ := t
 obtain ⟨V, hV⟩ : ∃ V, w.alloc (.cells #[.int .i64 kd, .int .i64 par] 50) = V := ⟨_, rfl⟩
 obtain ⟨X, hXX⟩ : ∃ X, w.heap.size = X := ⟨_, rfl⟩
 have hb0 : Below w.heap.size w V := by rw [← hV]; exact bel_alloc _ _
 have hr : V.rowIs X 50 2 (g2 (.int .i64 kd) (.int .i64 par)) := by rw [← hV, ← hXX]; exact q2_new _ _ _ _
 have HB0 := hidC hb0
 obtain ⟨x0, x1⟩ := c2g hr
 obtain ⟨D, hD⟩ : ∃ D, sof (numT (j : Int)) = D := ⟨_, rfl⟩
 have HN : Hid (∀ v, Calls Tryz.prog 49 #[.int .i64 (j : Int)] v fun e w' => e = .returned (.string D) ∧ Below v.heap.size v w') := fun v => by rw [← hD]; exact rdn_any (j : Int) (by omega) (by omega) v
 have sD : D.size ≤ 10 := by rw [← hD]; exact num_sz (by omega)
 obtain ⟨K, hK⟩ : ∃ D, sof (joinW (typWs ⟨kd, par⟩)) = D := ⟨_, rfl⟩
 have HK : Hid (∀ v, Calls Tryz.prog 50 #[.agg #[.int .i64 kd, .int .i64 par]] v fun e w' => e = .returned (.string K) ∧ Below v.heap.size v w') := fun v => by rw [← hK]; exact rkind_any ⟨kd, par⟩ ht v
 have sK : K.size ≤ 20 := by rw [← hK, sof_size]; exact typ_le ht
 have z0 : ¬ 9223372036854775807 < 4 + D.size := by omega
 have z1 : ¬ 9223372036854775807 < 4 + D.size + 1 := by omega
 have z2 : ¬ 9223372036854775807 < 4 + D.size + 1 + K.size := by omega
 have HR : Hid ((((⟨#[114, 101, 103, 32]⟩ : ByteArray) ++ D) ++ (⟨#[32]⟩ : ByteArray)) ++ K = sof (joinW (regWs (j : Int) ⟨kd, par⟩))) := by
  show _ = _
  rw [← hD, ← hK]
  show (((sof [114, 101, 103, 32] ++ sof (numT (j : Int))) ++ sof [32]) ++ sof (joinW (typWs ⟨kd, par⟩))) = sof (joinW (regB :: numT (j : Int) :: typWs ⟨kd, par⟩))
  rw [sof_app, sof_app, sof_app, show joinW (regB :: numT (j : Int) :: typWs ⟨kd, par⟩) = regB ++ 32 :: joinW (numT (j : Int) :: typWs ⟨kd, par⟩) from join_cons (by simp), join_cons (typ_ne _)]
  congr 1
  simp [regB]
 have y0 : V.drew.cell? ⟨X, 0, none⟩ = some (.int .i64 kd) := x0
 have y1 : V.drew.cell? ⟨X, 1, none⟩ = some (.int .i64 par) := x1
 clear hr hb0 hD sD hK sK ht
 go_enter Tryz.func18, Tryz.ntmps18
 go_upto_region 1 with fail
 try rw [hV]
 try rw [hXX]
 clear hV hXX
 refine wp_region_held_drew (S := (fun v => v.cell? ⟨X, 0, none⟩ = some (.int .i64 kd) ∧ v.cell? ⟨X, 1, none⟩ = some (.int .i64 par))) (by kernel_rfl) ?_ (fun hHeld => ?_)
 ·((try dsimp only); go_keep)
 refine tkT 0 ?_
 refine tkT 4 ?_
 clear hHeld
 refine wpAnyH_ready (rs := [1]) (by kernel_rfl) (by simp) ?_
 refine AllReadyH.cons (i := 1) (by simp only [List.getElem?_toArray, List.getElem?_cons_succ, List.getElem?_cons_zero]; rfl) (fun K hK => ?_) AllReadyH.nil
 go_simp
 (go_at_call 49; (with_reducible refine (HN.out _).mono ?_); rintro e w1 ⟨rfl, b1⟩; have b2 := bel (bel_d V) b1; have H1 := hidC (bel HB0.out b2); have o0 := kc b2 x0; have o1 := kc b2 x1; clear b1 b2)
 try (go_wp2_with fail)
 refine hK.out _ _ ?_ (fun hHeld => ?_)
 ·((try dsimp only); go_keep)
 clear hK K
 try simp only [Act.put, List.setIfInBounds_toArray, List.set_cons_zero, List.set_cons_succ]
 refine tkT 2 ?_
 refine tkT 3 ?_
 clear hHeld
 refine wpAnyH_ready (rs := [5]) (by kernel_rfl) (by simp) ?_
 refine AllReadyH.cons (i := 5) (by simp only [List.getElem?_toArray, List.getElem?_cons_succ, List.getElem?_cons_zero]; rfl) (fun K hK => ?_) AllReadyH.nil
 go_simp
 (go_at_call 50; (with_reducible refine (HK.out _).mono ?_); rintro e w2 ⟨rfl, b3⟩; have H2 := hidC (bel H1.out b3); have u0 := kc b3 o0; have u1 := kc b3 o1; clear b3)
 try (go_wp2_with fail)
 refine hK.out _ _ ?_ (fun hHeld => ?_)
 ·((try dsimp only); go_keep)
 clear hK K
 try simp only [Act.put, List.setIfInBounds_toArray, List.set_cons_zero, List.set_cons_succ]
 refine tkT 6 ?_
 refine tkT 7 ?_
 refine wpAnyH_done (by kernel_rfl) ?_ _
 try go_wp2
 refine bodyPost_ret (by simp [results, Tryz.results18, go_sem, *]; try rfl) rfl ?_
 exact ⟨by rw [← HR.out], H2.out⟩
end Go.Proofs.YtgcmnkanjcfndaaGreatDoor
namespace Go.Proofs.YtgcmnkanjcfndaaGreatDoor
open Go.RowKit
set_option linter.unusedVariables false
set_option linter.unusedSimpArgs false
set_option maxRecDepth 100000 in
set_option maxHeartbeats 8000000 in
theorem rslot25_any (j : Nat) (hj : j ≤ 16384) (s : Sl) (hs : okSl s) (w : World) : Calls Tryz.prog 19 #[.int .i64 (j : Int), .agg #[.int .i64 s.ty.kind, .int .i64 s.ty.par, .bool s.keep, .int .u32 s.bits, .int .i64 s.int_]] w fun e w' => e = .returned (.string (sof (joinW (slotWs (j : Int) s)))) ∧ Below w.heap.size w w' := by
 have HBT := hidC (okSl_bits hs)
 obtain ⟨⟨kd, par⟩, kp, bt, it⟩ := s
 have hok : okTy ⟨kd, par⟩ := hs.1
 obtain ⟨V, hV⟩ : ∃ V, w.alloc (.cells #[.int .i64 kd, .int .i64 par, .bool kp, .int .u32 bt, .int .i64 it] 60) = V := ⟨_, rfl⟩
 obtain ⟨X, hXX⟩ : ∃ X, w.heap.size = X := ⟨_, rfl⟩
 have hb0 : Below w.heap.size w V := by rw [← hV]; exact bel_alloc _ _
 have hr : V.rowIs X 60 5 (g5 (.int .i64 kd) (.int .i64 par) (.bool kp) (.int .u32 bt) (.int .i64 it)) := by rw [← hV, ← hXX]; exact q5_new _ _ _ _ _ _ _
 have HB0 := hidC hb0
 have HCUR : Hid (Below V.heap.size V V) := bel0 V
 obtain ⟨x0, x1, x2, x3, x4⟩ := c5 hr
 obtain ⟨D, hD⟩ : ∃ D, sof (numT (j : Int)) = D := ⟨_, rfl⟩
 have HN : Hid (∀ v, Calls Tryz.prog 49 #[.int .i64 (j : Int)] v fun e w' => e = .returned (.string D) ∧ Below v.heap.size v w') := fun v => by rw [← hD]; exact rdn_any (j : Int) (by omega) (by omega) v
 have sD : D.size ≤ 10 := by rw [← hD]; exact num_sz (by omega)
 obtain ⟨K, hK⟩ : ∃ D, sof (joinW (typWs ⟨kd, par⟩)) = D := ⟨_, rfl⟩
 have HK : Hid (∀ v, Calls Tryz.prog 50 #[.agg #[.int .i64 kd, .int .i64 par]] v fun e w' => e = .returned (.string K) ∧ Below v.heap.size v w') := fun v => by rw [← hK]; exact rkind_any ⟨kd, par⟩ hok v
 have sK : K.size ≤ 20 := by rw [← hK, sof_size]; exact typ_le hok
 have h2 := hs.2
 have X0 := hidC x0
 have X1 := hidC x1
 have X2 := hidC x2
 have X3 := hidC x3
 have X4 := hidC x4
 have hbw : IntKind.wrap .i64 bt = bt := by have := HBT.out; simp only at this; rw [IntKind.wrap_i64]; omega
 clear hok hs
 by_cases h : kd = 2
 ·subst h
  rw [if_pos (show (⟨⟨2, par⟩, kp, bt, it⟩ : Sl).ty.kind = 2 from rfl)] at h2
  cases kp
  ·show Calls _ _ _ _ (fun e w' => e = .returned (.string (sof (joinW (slotB :: numT (j : Int) :: localB :: (typWs ⟨2, par⟩ ++ [numT it]))))) ∧ _)
   obtain ⟨G, hG⟩ : ∃ G, sof (numT it) = G := ⟨_, rfl⟩
   have sG : G.size ≤ 10 := by rw [← hG]; exact num_sz h2.2.2
   have HG : Hid (∀ v, Calls Tryz.prog 49 #[.int .i64 it] v fun e w' => e = .returned (.string G) ∧ Below v.heap.size v w') := fun v => by rw [← hG]; exact rdn_any it h2.2.1 h2.2.2 v
   have HR : Hid ((((((⟨#[115, 108, 111, 116, 32]⟩ : ByteArray) ++ D) ++ (⟨#[32, 108, 111, 99, 97, 108, 32]⟩ : ByteArray)) ++ K) ++ (⟨#[32]⟩ : ByteArray)) ++ G = sof (joinW (slotB :: numT (j : Int) :: localB :: (typWs ⟨2, par⟩ ++ [numT it])))) := by
    show _ = _
    rw [← hD, ← hK, ← hG]
    show ((((sof [115, 108, 111, 116, 32] ++ sof (numT (j : Int))) ++ sof [32, 108, 111, 99, 97, 108, 32]) ++ sof (joinW (typWs ⟨2, par⟩))) ++ sof [32]) ++ sof (numT it) = _
    rw [sof_app, sof_app, sof_app, sof_app, sof_app, show joinW (slotB :: numT (j : Int) :: localB :: (typWs ⟨2, par⟩ ++ [numT it])) = slotB ++ 32 :: joinW (numT (j : Int) :: localB :: (typWs ⟨2, par⟩ ++ [numT it])) from join_cons (by simp), join_cons (by simp), join_flat (typ_ne _)]
    congr 1
    simp [slotB, localB]
   have z0 : ¬ 9223372036854775807 < 5 + D.size := by omega
   have z1 : ¬ 9223372036854775807 < 5 + D.size + 7 := by omega
   have z2 : ¬ 9223372036854775807 < 5 + D.size + 7 + K.size := by omega
   have z3 : ¬ 9223372036854775807 < 5 + D.size + 7 + K.size + 1 := by omega
   have z4 : ¬ 9223372036854775807 < 5 + D.size + 7 + K.size + 1 + G.size := by omega
   clear hD sD hK sK hG sG hr hb0
   go_enter Tryz.func19, Tryz.ntmps19
   go_upto_region 1 with fail
   try rw [hV]
   try rw [hXX]
   clear hV hXX
   go_wp2_with (first
    | (go_at_call 49; (with_reducible refine (HN.out _).mono ?_); rintro e w1 ⟨rfl, b1⟩; have HH := hidC (bel HCUR.out b1); clear HCUR; have HCUR := hidC HH.out; clear HH; clear b1; have n0 := kc HCUR.out X0.out; have n1 := kc HCUR.out X1.out; have n2 := kc HCUR.out X2.out; have n3 := kc HCUR.out X3.out; have n4 := kc HCUR.out X4.out)
    | (go_at_call 50; (with_reducible refine (HK.out _).mono ?_); rintro e w1 ⟨rfl, b1⟩; have HH := hidC (bel HCUR.out b1); clear HCUR; have HCUR := hidC HH.out; clear HH; clear b1; have n0 := kc HCUR.out X0.out; have n1 := kc HCUR.out X1.out; have n2 := kc HCUR.out X2.out; have n3 := kc HCUR.out X3.out; have n4 := kc HCUR.out X4.out)
    | (go_at_call 49; (with_reducible refine (HG.out _).mono ?_); rintro e w1 ⟨rfl, b1⟩; have HH := hidC (bel HCUR.out b1); clear HCUR; have HCUR := hidC HH.out; clear HH; clear b1; have n0 := kc HCUR.out X0.out; have n1 := kc HCUR.out X1.out; have n2 := kc HCUR.out X2.out; have n3 := kc HCUR.out X3.out; have n4 := kc HCUR.out X4.out))
   refine bodyPost_ret (by simp [results, Tryz.results19, go_sem, *]; try rfl) rfl ?_
   exact ⟨by rw [← HR.out], bel HB0.out HCUR.out⟩
  ·show Calls _ _ _ _ (fun e w' => e = .returned (.string (sof (joinW (slotB :: numT (j : Int) :: keepB :: (typWs ⟨2, par⟩ ++ [numT it]))))) ∧ _)
   obtain ⟨G, hG⟩ : ∃ G, sof (numT it) = G := ⟨_, rfl⟩
   have sG : G.size ≤ 10 := by rw [← hG]; exact num_sz h2.2.2
   have HG : Hid (∀ v, Calls Tryz.prog 49 #[.int .i64 it] v fun e w' => e = .returned (.string G) ∧ Below v.heap.size v w') := fun v => by rw [← hG]; exact rdn_any it h2.2.1 h2.2.2 v
   have HR : Hid ((((((⟨#[115, 108, 111, 116, 32]⟩ : ByteArray) ++ D) ++ (⟨#[32, 107, 101, 101, 112, 32]⟩ : ByteArray)) ++ K) ++ (⟨#[32]⟩ : ByteArray)) ++ G = sof (joinW (slotB :: numT (j : Int) :: keepB :: (typWs ⟨2, par⟩ ++ [numT it])))) := by
    show _ = _
    rw [← hD, ← hK, ← hG]
    show ((((sof [115, 108, 111, 116, 32] ++ sof (numT (j : Int))) ++ sof [32, 107, 101, 101, 112, 32]) ++ sof (joinW (typWs ⟨2, par⟩))) ++ sof [32]) ++ sof (numT it) = _
    rw [sof_app, sof_app, sof_app, sof_app, sof_app, show joinW (slotB :: numT (j : Int) :: keepB :: (typWs ⟨2, par⟩ ++ [numT it])) = slotB ++ 32 :: joinW (numT (j : Int) :: keepB :: (typWs ⟨2, par⟩ ++ [numT it])) from join_cons (by simp), join_cons (by simp), join_flat (typ_ne _)]
    congr 1
    simp [slotB, keepB]
   have z0 : ¬ 9223372036854775807 < 5 + D.size := by omega
   have z1 : ¬ 9223372036854775807 < 5 + D.size + 6 := by omega
   have z2 : ¬ 9223372036854775807 < 5 + D.size + 6 + K.size := by omega
   have z3 : ¬ 9223372036854775807 < 5 + D.size + 6 + K.size + 1 := by omega
   have z4 : ¬ 9223372036854775807 < 5 + D.size + 6 + K.size + 1 + G.size := by omega
   have v0 : ¬ 9223372036854775807 < 5 + D.size := by omega
   have v1 : ¬ 9223372036854775807 < 5 + D.size + 7 := by omega
   clear hD sD hK sK hG sG hr hb0
   go_enter Tryz.func19, Tryz.ntmps19
   go_upto_region 1 with fail
   try rw [hV]
   try rw [hXX]
   clear hV hXX
   go_wp2_with (first
    | (go_at_call 49; (with_reducible refine (HN.out _).mono ?_); rintro e w1 ⟨rfl, b1⟩; have HH := hidC (bel HCUR.out b1); clear HCUR; have HCUR := hidC HH.out; clear HH; clear b1; have n0 := kc HCUR.out X0.out; have n1 := kc HCUR.out X1.out; have n2 := kc HCUR.out X2.out; have n3 := kc HCUR.out X3.out; have n4 := kc HCUR.out X4.out)
    | (go_at_call 50; (with_reducible refine (HK.out _).mono ?_); rintro e w1 ⟨rfl, b1⟩; have HH := hidC (bel HCUR.out b1); clear HCUR; have HCUR := hidC HH.out; clear HH; clear b1; have n0 := kc HCUR.out X0.out; have n1 := kc HCUR.out X1.out; have n2 := kc HCUR.out X2.out; have n3 := kc HCUR.out X3.out; have n4 := kc HCUR.out X4.out)
    | (go_at_call 49; (with_reducible refine (HG.out _).mono ?_); rintro e w1 ⟨rfl, b1⟩; have HH := hidC (bel HCUR.out b1); clear HCUR; have HCUR := hidC HH.out; clear HH; clear b1; have n0 := kc HCUR.out X0.out; have n1 := kc HCUR.out X1.out; have n2 := kc HCUR.out X2.out; have n3 := kc HCUR.out X3.out; have n4 := kc HCUR.out X4.out))
   refine bodyPost_ret (by simp [results, Tryz.results19, go_sem, *]; try rfl) rfl ?_
   exact ⟨by rw [← HR.out], bel HB0.out HCUR.out⟩
 ·rw [if_neg (show ¬ (⟨⟨kd, par⟩, kp, bt, it⟩ : Sl).ty.kind = 2 from h)] at h2
  cases kp
  ·have hw : slotWs (j : Int) ⟨⟨kd, par⟩, false, bt, it⟩ = slotB :: numT (j : Int) :: localB :: (typWs ⟨kd, par⟩ ++ [hexT bt]) := by unfold slotWs; simp [h]
   rw [hw]
   obtain ⟨G, hG⟩ : ∃ G, hexB bt = G := ⟨_, rfl⟩
   have sG : G.size ≤ 10 := by rw [← hG, hexB_size]; decide
   have HG : Hid (∀ v, Calls Tryz.prog 51 #[.int .i64 bt] v fun e w' => e = .returned (.string G) ∧ Below v.heap.size v w') := fun v => by rw [← hG]; exact (rhex_any bt HBT.out.1 HBT.out.2 v).mono fun e w' h => ⟨h.1, by rw [h.2]; exact bel0 v⟩
   have HR : Hid ((((((⟨#[115, 108, 111, 116, 32]⟩ : ByteArray) ++ D) ++ (⟨#[32, 108, 111, 99, 97, 108, 32]⟩ : ByteArray)) ++ K) ++ (⟨#[32]⟩ : ByteArray)) ++ G = sof (joinW (slotB :: numT (j : Int) :: localB :: (typWs ⟨kd, par⟩ ++ [hexT bt])))) := by
    show _ = _
    rw [← hD, ← hK, ← hG]
    show ((((sof [115, 108, 111, 116, 32] ++ sof (numT (j : Int))) ++ sof [32, 108, 111, 99, 97, 108, 32]) ++ sof (joinW (typWs ⟨kd, par⟩))) ++ sof [32]) ++ hexB bt = _
    rw [show hexB bt = sof (hexT bt) from by unfold hexT sof; simp]
    rw [sof_app, sof_app, sof_app, sof_app, sof_app, show joinW (slotB :: numT (j : Int) :: localB :: (typWs ⟨kd, par⟩ ++ [hexT bt])) = slotB ++ 32 :: joinW (numT (j : Int) :: localB :: (typWs ⟨kd, par⟩ ++ [hexT bt])) from join_cons (by simp), join_cons (by simp), join_flat (typ_ne _)]
    congr 1
    simp [slotB, localB]
   have z0 : ¬ 9223372036854775807 < 5 + D.size := by omega
   have z1 : ¬ 9223372036854775807 < 5 + D.size + 7 := by omega
   have z2 : ¬ 9223372036854775807 < 5 + D.size + 7 + K.size := by omega
   have z3 : ¬ 9223372036854775807 < 5 + D.size + 7 + K.size + 1 := by omega
   have z4 : ¬ 9223372036854775807 < 5 + D.size + 7 + K.size + 1 + G.size := by omega
   clear hD sD hK sK hG sG hr hb0
   go_enter Tryz.func19, Tryz.ntmps19
   go_upto_region 1 with fail
   try rw [hV]
   try rw [hXX]
   clear hV hXX
   go_wp2_with (first
    | (go_at_call 49; (with_reducible refine (HN.out _).mono ?_); rintro e w1 ⟨rfl, b1⟩; have HH := hidC (bel HCUR.out b1); clear HCUR; have HCUR := hidC HH.out; clear HH; clear b1; have n0 := kc HCUR.out X0.out; have n1 := kc HCUR.out X1.out; have n2 := kc HCUR.out X2.out; have n3 := kc HCUR.out X3.out; have n4 := kc HCUR.out X4.out)
    | (go_at_call 50; (with_reducible refine (HK.out _).mono ?_); rintro e w1 ⟨rfl, b1⟩; have HH := hidC (bel HCUR.out b1); clear HCUR; have HCUR := hidC HH.out; clear HH; clear b1; have n0 := kc HCUR.out X0.out; have n1 := kc HCUR.out X1.out; have n2 := kc HCUR.out X2.out; have n3 := kc HCUR.out X3.out; have n4 := kc HCUR.out X4.out)
    | (go_at_call 51; (with_reducible refine (HG.out _).mono ?_); rintro e w1 ⟨rfl, b1⟩; have HH := hidC (bel HCUR.out b1); clear HCUR; have HCUR := hidC HH.out; clear HH; clear b1; have n0 := kc HCUR.out X0.out; have n1 := kc HCUR.out X1.out; have n2 := kc HCUR.out X2.out; have n3 := kc HCUR.out X3.out; have n4 := kc HCUR.out X4.out))
   refine bodyPost_ret (by simp [results, Tryz.results19, go_sem, *]; try rfl) rfl ?_
   exact ⟨by rw [← HR.out], bel HB0.out HCUR.out⟩
  ·have hw : slotWs (j : Int) ⟨⟨kd, par⟩, true, bt, it⟩ = slotB :: numT (j : Int) :: keepB :: (typWs ⟨kd, par⟩ ++ [hexT bt]) := by unfold slotWs; simp [h]
   rw [hw]
   obtain ⟨G, hG⟩ : ∃ G, hexB bt = G := ⟨_, rfl⟩
   have sG : G.size ≤ 10 := by rw [← hG, hexB_size]; decide
   have HG : Hid (∀ v, Calls Tryz.prog 51 #[.int .i64 bt] v fun e w' => e = .returned (.string G) ∧ Below v.heap.size v w') := fun v => by rw [← hG]; exact (rhex_any bt HBT.out.1 HBT.out.2 v).mono fun e w' h => ⟨h.1, by rw [h.2]; exact bel0 v⟩
   have HR : Hid ((((((⟨#[115, 108, 111, 116, 32]⟩ : ByteArray) ++ D) ++ (⟨#[32, 107, 101, 101, 112, 32]⟩ : ByteArray)) ++ K) ++ (⟨#[32]⟩ : ByteArray)) ++ G = sof (joinW (slotB :: numT (j : Int) :: keepB :: (typWs ⟨kd, par⟩ ++ [hexT bt])))) := by
    show _ = _
    rw [← hD, ← hK, ← hG]
    show ((((sof [115, 108, 111, 116, 32] ++ sof (numT (j : Int))) ++ sof [32, 107, 101, 101, 112, 32]) ++ sof (joinW (typWs ⟨kd, par⟩))) ++ sof [32]) ++ hexB bt = _
    rw [show hexB bt = sof (hexT bt) from by unfold hexT sof; simp]
    rw [sof_app, sof_app, sof_app, sof_app, sof_app, show joinW (slotB :: numT (j : Int) :: keepB :: (typWs ⟨kd, par⟩ ++ [hexT bt])) = slotB ++ 32 :: joinW (numT (j : Int) :: keepB :: (typWs ⟨kd, par⟩ ++ [hexT bt])) from join_cons (by simp), join_cons (by simp), join_flat (typ_ne _)]
    congr 1
    simp [slotB, keepB]
   have z0 : ¬ 9223372036854775807 < 5 + D.size := by omega
   have z1 : ¬ 9223372036854775807 < 5 + D.size + 6 := by omega
   have z2 : ¬ 9223372036854775807 < 5 + D.size + 6 + K.size := by omega
   have z3 : ¬ 9223372036854775807 < 5 + D.size + 6 + K.size + 1 := by omega
   have z4 : ¬ 9223372036854775807 < 5 + D.size + 6 + K.size + 1 + G.size := by omega
   have v0 : ¬ 9223372036854775807 < 5 + D.size := by omega
   have v1 : ¬ 9223372036854775807 < 5 + D.size + 7 := by omega
   clear hD sD hK sK hG sG hr hb0
   go_enter Tryz.func19, Tryz.ntmps19
   go_upto_region 1 with fail
   try rw [hV]
   try rw [hXX]
   clear hV hXX
   go_wp2_with (first
    | (go_at_call 49; (with_reducible refine (HN.out _).mono ?_); rintro e w1 ⟨rfl, b1⟩; have HH := hidC (bel HCUR.out b1); clear HCUR; have HCUR := hidC HH.out; clear HH; clear b1; have n0 := kc HCUR.out X0.out; have n1 := kc HCUR.out X1.out; have n2 := kc HCUR.out X2.out; have n3 := kc HCUR.out X3.out; have n4 := kc HCUR.out X4.out)
    | (go_at_call 50; (with_reducible refine (HK.out _).mono ?_); rintro e w1 ⟨rfl, b1⟩; have HH := hidC (bel HCUR.out b1); clear HCUR; have HCUR := hidC HH.out; clear HH; clear b1; have n0 := kc HCUR.out X0.out; have n1 := kc HCUR.out X1.out; have n2 := kc HCUR.out X2.out; have n3 := kc HCUR.out X3.out; have n4 := kc HCUR.out X4.out)
    | (go_at_call 51; (with_reducible refine (HG.out _).mono ?_); rintro e w1 ⟨rfl, b1⟩; have HH := hidC (bel HCUR.out b1); clear HCUR; have HCUR := hidC HH.out; clear HH; clear b1; have n0 := kc HCUR.out X0.out; have n1 := kc HCUR.out X1.out; have n2 := kc HCUR.out X2.out; have n3 := kc HCUR.out X3.out; have n4 := kc HCUR.out X4.out))
   refine bodyPost_ret (by simp [results, Tryz.results19, go_sem, *]; try rfl) rfl ?_
   exact ⟨by rw [← HR.out], bel HB0.out HCUR.out⟩
end Go.Proofs.YtgcmnkanjcfndaaGreatDoor
