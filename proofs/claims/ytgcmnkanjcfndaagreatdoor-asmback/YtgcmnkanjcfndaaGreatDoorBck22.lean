import Derived.Test.YtgcmnkanjcfndaaGreatDoorBck21
import Derived.Test.YtgcmnkanjcfndaaGreatDoorBck9
import Derived.Deep.DeepCutAuto
import Derived.Test.YtgcmnkanjcfndaaGreatDoorBck1
import Derived.OrdersHeld
import Derived.Test.YtgcmnkanjcfndaaGreatDoorBck13
/- Package asm: what must come whatever the input is: echo. -/
namespace Go.Proofs.YtgcmnkanjcfndaaGreatDoor
open Go.RowKit
set_option linter.unusedVariables false
set_option linter.unusedSimpArgs false

set_option maxRecDepth 100000 in
set_option maxHeartbeats 8000000 in
theorem echo_any (w : World) : Calls Tryz.prog 21 #[] w fun e w' => ∃ v0 v1 v2 v3, e = .returned (.agg #[v0, v1, v2, v3]) ∧ CdV w' v0 v1 v2 v3 echoC ∧ Below w.heap.size w w' := by
  obtain ⟨X, hXX⟩ : ∃ X, w.heap.size = X := ⟨_, rfl⟩
  obtain ⟨W0, hW0⟩ : ∃ W, w.alloc (.cells #[.slice none 0 0, .slice none 0 0, .slice none 0 0, .slice none 0 0] 27) = W := ⟨_, rfl⟩
  have b0 : Below w.heap.size w W0 := by rw [← hW0]; exact bel_alloc _ _
  have r0 : W0.rowIs X 27 4 (f4 (.slice none 0 0) (.slice none 0 0) (.slice none 0 0) (.slice none 0 0)) := by rw [← hW0, ← hXX]; exact q4_new _ _ _ _ _ _
  obtain ⟨W1, hW1⟩ : ∃ W, W0.alloc (.cells #[.int .i64 3, .int .i64 0] 50) = W := ⟨_, rfl⟩
  obtain ⟨T, hT⟩ : ∃ T, W0.heap.size = T := ⟨_, rfl⟩
  have b1 : Below W0.heap.size W0 W1 := by rw [← hW1]; exact bel_alloc _ _
  have rt : W1.rowIs T 50 2 (g2 (.int .i64 3) (.int .i64 0)) := by rw [← hW1, ← hT]; exact q2_new _ _ _ _
  obtain ⟨A, hA⟩ : ∃ A, W1.heap.size = A := ⟨_, rfl⟩
  obtain ⟨W2, hW2⟩ : ∃ W, W1.alloc (.cells #[.string ⟨#[119]⟩, .int .i64 1, .int .i64 2] 48) = W := ⟨_, rfl⟩
  have b2 : Below W1.heap.size W1 W2 := by rw [← hW2]; exact bel_alloc _ _
  have ra : W2.rowIs A 48 3 (g3 (.string ⟨#[119]⟩) (.int .i64 1) (.int .i64 2)) := by rw [← hW2, ← hA]; exact q3_new _ _ _ _ _
  obtain ⟨B, hB⟩ : ∃ A, W2.heap.size = A := ⟨_, rfl⟩
  obtain ⟨W3, hW3⟩ : ∃ W, W2.alloc (.cells #[.int .i64 3, .int .i64 0] 50) = W := ⟨_, rfl⟩
  have b3 : Below W2.heap.size W2 W3 := by rw [← hW3]; exact bel_alloc _ _
  have rb : W3.rowIs B 50 2 (g2 (.int .i64 3) (.int .i64 0)) := by rw [← hW3, ← hB]; exact q2_new _ _ _ _
  obtain ⟨D, hD⟩ : ∃ A, W3.heap.size = A := ⟨_, rfl⟩
  obtain ⟨W4, hW4⟩ : ∃ W, W3.alloc (.cells #[.int .i64 29, .int .i64 0, .int .i64 0, .int .i64 0, .int .i64 0, .int .i64 0, .int .u32 0, .int .i64 31, .int .i64 0, .int .i64 0, .int .i64 0, .int .i64 0, .int .i64 0, .int .u32 0] 46) = W := ⟨_, rfl⟩
  have b4 : Below W3.heap.size W3 W4 := by rw [← hW4]; exact bel_alloc _ _
  have rd : W4.rowIs D 46 14 (fun j => ((#[Value.int .i64 29, .int .i64 0, .int .i64 0, .int .i64 0, .int .i64 0, .int .i64 0, .int .u32 0, .int .i64 31, .int .i64 0, .int .i64 0, .int .i64 0, .int .i64 0, .int .i64 0, .int .u32 0] : Array Value)[j]?).getD undef) := by
    rw [← hW4, ← hD]
    exact World.rowIs_alloc W3 #[Value.int .i64 29, .int .i64 0, .int .i64 0, .int .i64 0, .int .i64 0, .int .i64 0, .int .u32 0, .int .i64 31, .int .i64 0, .int .i64 0, .int .i64 0, .int .i64 0, .int .i64 0, .int .u32 0] _ _ (fun i hi => by rw [Array.getElem?_eq_getElem hi]; rfl)
  have lD : D < W4.heap.size := by rw [← hW4, ← hD]; simp
  have t0 := (c2g rt)
  obtain ⟨y0, y1⟩ := c2g (rt.of_block (b2.block _ rt.lt))
  have h4 : ∀ f, W4.rowIs X 27 4 f → True := fun _ _ => trivial
  have r4 := (((r0.of_block (b1.block _ r0.lt)).of_block (b2.block _ (Nat.lt_of_lt_of_le r0.lt b1.size))).of_block (b3.block _ (Nat.lt_of_lt_of_le r0.lt (bel b1 b2).size))).of_block (b4.block _ (Nat.lt_of_lt_of_le r0.lt (bel (bel b1 b2) b3).size))
  obtain ⟨z0, z1, z2, z3⟩ := c4 r4
  obtain ⟨f0, f1, f2, f3⟩ := z4 r4
  obtain ⟨hp1, hp2⟩ := put4 r4 (.slice (some ⟨A, 0, none⟩) 1 1) (.slice (some ⟨B, 0, none⟩) 1 1) (.slice none 0 0) (.slice (some ⟨D, 0, none⟩) 2 2)
  obtain ⟨W5, hW5⟩ : ∃ W, (((W4.setCell ⟨X, 0, none⟩ (.slice (some ⟨A, 0, none⟩) 1 1)).setCell ⟨X, 1, none⟩ (.slice (some ⟨B, 0, none⟩) 1 1)).setCell ⟨X, 2, none⟩ (.slice none 0 0)).setCell ⟨X, 3, none⟩ (.slice (some ⟨D, 0, none⟩) 2 2) = W := ⟨_, rfl⟩
  rw [hW5] at hp1 hp2
  obtain ⟨u0, u1, u2, u3⟩ := c4 hp1
  have lX : X < T := by rw [← hT]; exact r0.lt
  have lT : T < A := by rw [← hA]; exact rt.lt
  have lA : A < B := by rw [← hB]; exact ra.lt
  have lB : B < D := by rw [← hD]; exact rb.lt
  have HCD : Hid (CdV W5 (.slice (some ⟨A, 0, none⟩) 1 1) (.slice (some ⟨B, 0, none⟩) 1 1) (.slice none 0 0) (.slice (some ⟨D, 0, none⟩) 2 2) echoC) := by
    have ra5 := ((ra.of_block (b3.block _ ra.lt)).of_block (b4.block _ (Nat.lt_of_lt_of_le ra.lt b3.size))).of_block (hp2.oth _ (by omega))
    have rb5 := (rb.of_block (b4.block _ rb.lt)).of_block (hp2.oth _ (by omega))
    have rd5 := rd.of_block (hp2.oth _ (by omega))
    refine ⟨⟨_, _, rfl, .inr ⟨A, 0, rfl, fun i hi => ?_⟩⟩, ⟨_, _, rfl, .inr ⟨B, 0, rfl, fun i hi => ?_⟩⟩, ⟨none, 0, rfl, .inl rfl⟩, ⟨_, _, rfl, .inr ⟨D, 0, rfl, fun i hi => ?_⟩⟩⟩
    · have : i = 0 := by have : i < 1 := hi; omega
      subst this
      intro j hj
      have hj' : j < 3 := hj
      rcases (show j = 0 ∨ j = 1 ∨ j = 2 by omega) with rfl | rfl | rfl
      · exact ra5.cell (i := 0) (by decide)
      · exact ra5.cell (i := 1) (by decide)
      · exact ra5.cell (i := 2) (by decide)
    · have : i = 0 := by have : i < 1 := hi; omega
      subst this
      intro j hj
      have hj' : j < 2 := hj
      rcases (show j = 0 ∨ j = 1 by omega) with rfl | rfl
      · exact rb5.cell (i := 0) (by decide)
      · exact rb5.cell (i := 1) (by decide)
    · have : i = 0 ∨ i = 1 := by have : i < 2 := hi; omega
      rcases this with rfl | rfl
      · intro j hj
        have hj' : j < 7 := hj
        rcases (show j = 0 ∨ j = 1 ∨ j = 2 ∨ j = 3 ∨ j = 4 ∨ j = 5 ∨ j = 6 by omega) with rfl | rfl | rfl | rfl | rfl | rfl | rfl <;> exact rd5.cell (by decide)
      · intro j hj
        have hj' : j < 7 := hj
        rcases (show j = 0 ∨ j = 1 ∨ j = 2 ∨ j = 3 ∨ j = 4 ∨ j = 5 ∨ j = 6 by omega) with rfl | rfl | rfl | rfl | rfl | rfl | rfl <;> exact rd5.cell (by decide)
  have HBB : Hid (Below w.heap.size w W5) := (bel (bel (bel (bel b0 b1) b2) b3) b4).trans (hp2.bel _ (Nat.le_of_eq hXX))
  have HW1 := hidC hW1
  clear hW1
  have HW2 := hidC (And.intro hW2 (And.intro hW3 hW4))
  clear hW2 hW3 hW4
  clear b0 b1 b2 b3 b4 r0 rt ra rb rd lD t0 h4 r4 hp1 hp2 lX lT lA lB
  go_enter Tryz.func21, Tryz.ntmps21
  go_upto_region 2 with fail
  rw [HW1.out]
  have hW2 := HW2.out.1
  have hW3 := HW2.out.2.1
  have hW4 := HW2.out.2.2
  go_wp2
  refine bodyPost_ret (by simp [results, Tryz.results21, go_sem, *]; try rfl) rfl ?_
  try rw [hW5]
  exact ⟨_, _, _, _, rfl, HCD.out, HBB.out⟩

end Go.Proofs.YtgcmnkanjcfndaaGreatDoor
/- Package asm: what must come whatever the input is: sure. By program (tool/layer25/genasnk.py). -/
namespace Go.Proofs.YtgcmnkanjcfndaaGreatDoor
open Go.RowKit
set_option linter.unusedVariables false
set_option linter.unusedSimpArgs false

theorem echo_cd : CdOk echoC := ⟨by decide, by decide, by decide, by decide, by decide, fun s hs => (nomatch hs), fun i hi => by
  simp only [echoC, List.mem_cons, List.not_mem_nil, or_false] at hi
  rcases hi with rfl | rfl <;> decide⟩

set_option maxRecDepth 100000 in
set_option maxHeartbeats 16000000 in
theorem sure25_any (w : World) (hL : Laid w) : Calls Tryz.prog 10 #[] w fun e w' => e = .returned (.bool true) ∧ Below w.heap.size w w' := by
  have HL := hidC hL
  have HT : Hid (∀ (v : World) (a0 a1 a2 a3 : Value), Laid v → CdV v a0 a1 a2 a3 echoC → Calls Tryz.prog 8 #[.agg #[a0, a1, a2, a3]] v fun e w' => e = .returned (.tuple #[.string ⟨#[108, 97, 116, 104, 101, 32, 49, 10, 112, 97, 114, 97, 109, 32, 119, 32, 114, 101, 97, 108, 32, 50, 10, 114, 101, 103, 32, 48, 32, 118, 101, 99, 116, 111, 114, 32, 48, 10, 103, 114, 97, 100, 32, 114, 48, 32, 48, 10, 111, 117, 116, 32, 114, 48, 32, 48, 10]⟩, .int .i64 0]) ∧ Below v.heap.size v w') := fun v a0 a1 a2 a3 h1 h2 => by
    have h9 := aText_any a0 a1 a2 a3 echoC echo_cd v h1 h2
    rw [if_pos echo_ok, if_pos echo_ok, show textA echoC = echoT from rfl, echo_text] at h9
    exact h9
  have HP : Hid (∀ (v : World) (T : ByteArray), bs T = echoT → Laid v → Calls Tryz.prog 11 #[.string T] v fun e w' => ∃ p0 q0 p1 q1 p2 q2 p3 q3, e = .returned (.tuple #[.agg #[.slice p0 1 q0, .slice p1 1 q1, .slice p2 0 q2, .slice p3 2 q3], .int .i64 0, .int .i64 0]) ∧ CdV w' (.slice p0 1 q0) (.slice p1 1 q1) (.slice p2 0 q2) (.slice p3 2 q3) echoC ∧ Below v.heap.size v w') := fun v T hT h1 => by
    have h9 := aparse_any T v h1
    rw [hT, echo_read] at h9
    refine h9.mono ?_
    rintro e w' ⟨a0, a1, a2, a3, h2, h3, h4, -⟩
    obtain ⟨p0, q0, rfl⟩ := own_len h3.sign
    obtain ⟨p1, q1, rfl⟩ := own_len h3.regs
    obtain ⟨p2, q2, rfl⟩ := own_len h3.slots
    obtain ⟨p3, q3, rfl⟩ := own_len h3.list
    exact ⟨p0, q0, p1, q1, p2, q2, p3, q3, h2, h3.cdv, h4⟩
  have HM : Hid (∀ (v : World) (T : ByteArray), bs T = echoT ++ moreT → Laid v → Calls Tryz.prog 11 #[.string T] v fun e w' => ∃ p0 n0 q0 p1 n1 q1 p2 n2 q2 p3 n3 q3, e = .returned (.tuple #[.agg #[.slice p0 n0 q0, .slice p1 n1 q1, .slice p2 n2 q2, .slice p3 n3 q3], .int .i64 250, .int .i64 6]) ∧ Below v.heap.size v w') := fun v T hT h1 => by
    have h9 := aparse_any T v h1
    rw [hT] at h9
    refine h9.mono ?_
    rintro e w' ⟨a0, a1, a2, a3, h2, h3, h4, -⟩
    rw [echo_more.1, echo_more.2] at h2
    obtain ⟨p0, q0, rfl⟩ := own_len h3.sign
    obtain ⟨p1, q1, rfl⟩ := own_len h3.regs
    obtain ⟨p2, q2, rfl⟩ := own_len h3.slots
    obtain ⟨p3, q3, rfl⟩ := own_len h3.list
    exact ⟨p0, _, q0, p1, _, q1, p2, _, q2, p3, _, q3, h2, h4⟩
  clear hL
  go_enter Tryz.func10, Tryz.ntmps10
  go_upto_region 2 with (first
    | (go_at_call 21; (with_reducible refine (echo_any _).mono ?_); rintro e w1 ⟨g0, g1, g2, g3, rfl, hg, b1⟩; have H1 := hidC (And.intro hg b1); clear hg b1)
    | (go_at_call 8; (with_reducible refine (HT.out _ _ _ _ _ (HL.out.below H1.out.2) H1.out.1).mono ?_); rintro e w2 ⟨rfl, b2⟩; have H2 := hidC (bel H1.out.2 b2); clear b2))
  go_upto_region 3 with (go_at_call 11; (refine (HP.out w2 _ (by rw [echo_text]; rfl) (HL.out.below H2.out)).mono ?_); rintro e w3 ⟨p0, q0, p1, q1, p2, q2, p3, q3, rfl, hc3, b3⟩; have H3 := hidC (And.intro hc3 (bel H2.out b3)); clear hc3 b3)
  obtain ⟨V, hV⟩ : ∃ V, w3.alloc (.cells #[.slice p0 1 q0, .slice p1 1 q1, .slice p2 0 q2, .slice p3 2 q3] 27) = V := ⟨_, rfl⟩
  obtain ⟨X, hXX⟩ : ∃ X, w3.heap.size = X := ⟨_, rfl⟩
  have hb4 : Below w3.heap.size w3 V := by rw [← hV]; exact bel_alloc _ _
  have hr4 : V.rowIs X 27 4 (f4 (.slice p0 1 q0) (.slice p1 1 q1) (.slice p2 0 q2) (.slice p3 2 q3)) := by rw [← hV, ← hXX]; exact q4_new _ _ _ _ _ _
  have HCV := hidC (H3.out.1.below hb4)
  have HBV := hidC (bel H3.out.2 hb4)
  have HR4 := hidC hr4
  try rw [hV]
  try rw [hXX]
  clear hV hXX hb4 hr4
  go_upto_region 4 with (go_at_call 11; (refine (HM.out V _ (by rw [echo_text]; rfl) (HL.out.below HBV.out)).mono ?_); rintro e w4 ⟨s0, n0, t0, s1, n1, t1, s2, n2, t2, s3, n3, t3, rfl, b4⟩; have HB4 := hidC b4; clear b4)
  obtain ⟨V2, hV2⟩ : ∃ V, w4.alloc (.cells #[.slice s0 n0 t0, .slice s1 n1 t1, .slice s2 n2 t2, .slice s3 n3 t3] 27) = V := ⟨_, rfl⟩
  have hb5 : Below V.heap.size V V2 := by rw [← hV2]; exact bel HB4.out (bel_alloc _ _)
  try rw [hV2]
  have HB5 := hidC hb5
  obtain ⟨a0, ha0⟩ : ∃ a, Value.slice p0 1 q0 = a := ⟨_, rfl⟩
  obtain ⟨a1, ha1⟩ : ∃ a, Value.slice p1 1 q1 = a := ⟨_, rfl⟩
  obtain ⟨a2, ha2⟩ : ∃ a, Value.slice p2 0 q2 = a := ⟨_, rfl⟩
  obtain ⟨a3, ha3⟩ : ∃ a, Value.slice p3 2 q3 = a := ⟨_, rfl⟩
  rw [ha0, ha1, ha2, ha3] at HR4 HCV
  obtain ⟨x0, x1, x2, x3⟩ := c4 (HR4.out.of_block (hb5.block _ HR4.out.lt))
  have HCD : Hid (CdV V2 a0 a1 a2 a3 echoC) := HCV.out.below hb5
  have y0 : V2.drew.cell? ⟨X, 0, none⟩ = some a0 := x0
  have y1 : V2.drew.cell? ⟨X, 1, none⟩ = some a1 := x1
  have y2 : V2.drew.cell? ⟨X, 2, none⟩ = some a2 := x2
  have y3 : V2.drew.cell? ⟨X, 3, none⟩ = some a3 := x3
  have HEQ : Hid (∀ (v : World) (g0 g1 g2 g3 : Value), Below V2.heap.size V2 v → CdV v g0 g1 g2 g3 echoC → Calls Tryz.prog 13 #[.agg #[a0, a1, a2, a3], .agg #[g0, g1, g2, g3]] v fun e w' => e = .returned (.bool true) ∧ Below v.heap.size v w') := fun v g0 g1 g2 g3 k hg => by
    have h9 := rEqual_any a0 a1 a2 a3 g0 g1 g2 g3 echoC echoC echo_cd echo_cd v (HCD.out.below k) hg
    rw [eqC_self] at h9
    exact h9
  clear hV2 hb5 ha0 ha1 ha2 ha3
  refine wp_region_held_drew (S := (fun v => v.cell? ⟨X, 0, none⟩ = some a0 ∧ v.cell? ⟨X, 1, none⟩ = some a1 ∧ v.cell? ⟨X, 2, none⟩ = some a2 ∧ v.cell? ⟨X, 3, none⟩ = some a3)) (by kernel_rfl) ?_ (fun hHeld => ?_)
  · ((try dsimp only); go_keep)
  refine tkT 0 ?_
  refine tkT 1 ?_
  refine tkT 2 ?_
  refine tkT 3 ?_
  refine tkT 4 ?_
  refine tkT 5 ?_
  refine tkT 6 ?_
  refine tkT 7 ?_
  clear hHeld
  refine wpAnyH_ready (rs := [8]) (by kernel_rfl) (by simp) ?_
  refine AllReadyH.cons (i := 8) (by simp only [List.getElem?_toArray, List.getElem?_cons_succ, List.getElem?_cons_zero]; rfl) (fun K hK => ?_) AllReadyH.nil
  go_simp
  (go_at_call 21; (with_reducible refine (echo_any _).mono ?_); rintro e w6 ⟨g0, g1, g2, g3, rfl, hg, b6⟩; have b7 := bel (bel_d V2) b6; have H6 := hidC (And.intro hg b7); have o0 := kc b7 x0; have o1 := kc b7 x1; have o2 := kc b7 x2; have o3 := kc b7 x3; clear hg b6 b7)
  try (go_wp2_with fail)
  refine hK.out _ _ ?_ (fun hHeld => ?_)
  · ((try dsimp only); go_keep)
  clear hK K
  try simp only [Act.put, List.setIfInBounds_toArray, List.set_cons_zero, List.set_cons_succ]
  clear hHeld
  refine wpAnyH_ready (rs := [9]) (by kernel_rfl) (by simp) ?_
  refine AllReadyH.cons (i := 9) (by simp only [List.getElem?_toArray, List.getElem?_cons_succ, List.getElem?_cons_zero]; rfl) (fun K hK => ?_) AllReadyH.nil
  go_simp
  (go_at_call 13; (with_reducible refine (HEQ.out _ _ _ _ _ H6.out.2 H6.out.1).mono ?_); rintro e w8 ⟨rfl, b8⟩; have b9 := bel H6.out.2 b8; have H8 := hidC b9; clear o0 o1 o2 o3; have o0 := kc b9 x0; have o1 := kc b9 x1; have o2 := kc b9 x2; have o3 := kc b9 x3; clear b8 b9)
  try (go_wp2_with fail)
  refine hK.out _ _ ?_ (fun hHeld => ?_)
  · ((try dsimp only); go_keep)
  clear hK K
  try simp only [Act.put, List.setIfInBounds_toArray, List.set_cons_zero, List.set_cons_succ]
  refine tkT 10 ?_
  refine tkT 11 ?_
  refine tkT 12 ?_
  refine tkT 13 ?_
  refine tkT 14 ?_
  refine tkT 15 ?_
  refine tkT 16 ?_
  refine tkT 17 ?_
  refine tkT 18 ?_
  refine tkT 19 ?_
  refine tkT 20 ?_
  refine tkT 21 ?_
  refine tkT 22 ?_
  refine tkT 23 ?_
  refine wpAnyH_done (by kernel_rfl) ?_ _
  try go_wp2
  refine bodyPost_ret (by simp [results, Tryz.results10, go_sem, *]; try rfl) rfl ?_
  exact ⟨rfl, bel (bel HBV.out HB5.out) H8.out⟩

end Go.Proofs.YtgcmnkanjcfndaaGreatDoor
/- The reference of layer 16: fits. -/
namespace Go.Proofs.YtgcmnkanjcfndaaGreatDoor
open Go.RowKit
set_option linter.unusedVariables false
set_option linter.unusedSimpArgs false

/-- The letters of a row, as Row tells them. -/
theorem rrow_lt (op : Int) (hk : knownP op = true) : ∃ a b c d e : UInt8, ((a.toNat : Int) = (ltR op).a ∧ (b.toNat : Int) = (ltR op).b ∧ (c.toNat : Int) = (ltR op).c ∧ (d.toNat : Int) = (ltR op).d ∧ (e.toNat : Int) = (ltR op).e) ∧ ∀ w, Calls Tryz.prog 68 #[.int .i64 op] w fun x w' => x = .returned (.tuple #[.string ⟨#[a, b, c, d, e]⟩, .bool true]) ∧ w' = w := by
  have hh : 1 ≤ op ∧ op ≤ 37 := by unfold knownP at hk; simp at hk; omega
  clear hk
  have : op = 1 ∨ op = 2 ∨ op = 3 ∨ op = 4 ∨ op = 5 ∨ op = 6 ∨ op = 7 ∨ op = 8 ∨ op = 9 ∨ op = 10 ∨ op = 11 ∨ op = 12 ∨ op = 13 ∨ op = 14 ∨ op = 15 ∨ op = 16 ∨ op = 17 ∨ op = 18 ∨ op = 19 ∨ op = 20 ∨ op = 21 ∨ op = 22 ∨ op = 23 ∨ op = 24 ∨ op = 25 ∨ op = 26 ∨ op = 27 ∨ op = 28 ∨ op = 29 ∨ op = 30 ∨ op = 31 ∨ op = 32 ∨ op = 33 ∨ op = 34 ∨ op = 35 ∨ op = 36 ∨ op = 37 := by omega
  rcases this with rfl | rfl | rfl | rfl | rfl | rfl | rfl | rfl | rfl | rfl | rfl | rfl | rfl | rfl | rfl | rfl | rfl | rfl | rfl | rfl | rfl | rfl | rfl | rfl | rfl | rfl | rfl | rfl | rfl | rfl | rfl | rfl | rfl | rfl | rfl | rfl | rfl
  · exact ⟨_, _, _, _, _, ⟨rfl, rfl, rfl, rfl, rfl⟩, fun w => rrow_1 w⟩
  · exact ⟨_, _, _, _, _, ⟨rfl, rfl, rfl, rfl, rfl⟩, fun w => rrow_2 w⟩
  · exact ⟨_, _, _, _, _, ⟨rfl, rfl, rfl, rfl, rfl⟩, fun w => rrow_3 w⟩
  · exact ⟨_, _, _, _, _, ⟨rfl, rfl, rfl, rfl, rfl⟩, fun w => rrow_4 w⟩
  · exact ⟨_, _, _, _, _, ⟨rfl, rfl, rfl, rfl, rfl⟩, fun w => rrow_5 w⟩
  · exact ⟨_, _, _, _, _, ⟨rfl, rfl, rfl, rfl, rfl⟩, fun w => rrow_6 w⟩
  · exact ⟨_, _, _, _, _, ⟨rfl, rfl, rfl, rfl, rfl⟩, fun w => rrow_7 w⟩
  · exact ⟨_, _, _, _, _, ⟨rfl, rfl, rfl, rfl, rfl⟩, fun w => rrow_8 w⟩
  · exact ⟨_, _, _, _, _, ⟨rfl, rfl, rfl, rfl, rfl⟩, fun w => rrow_9 w⟩
  · exact ⟨_, _, _, _, _, ⟨rfl, rfl, rfl, rfl, rfl⟩, fun w => rrow_10 w⟩
  · exact ⟨_, _, _, _, _, ⟨rfl, rfl, rfl, rfl, rfl⟩, fun w => rrow_11 w⟩
  · exact ⟨_, _, _, _, _, ⟨rfl, rfl, rfl, rfl, rfl⟩, fun w => rrow_12 w⟩
  · exact ⟨_, _, _, _, _, ⟨rfl, rfl, rfl, rfl, rfl⟩, fun w => rrow_13 w⟩
  · exact ⟨_, _, _, _, _, ⟨rfl, rfl, rfl, rfl, rfl⟩, fun w => rrow_14 w⟩
  · exact ⟨_, _, _, _, _, ⟨rfl, rfl, rfl, rfl, rfl⟩, fun w => rrow_15 w⟩
  · exact ⟨_, _, _, _, _, ⟨rfl, rfl, rfl, rfl, rfl⟩, fun w => rrow_16 w⟩
  · exact ⟨_, _, _, _, _, ⟨rfl, rfl, rfl, rfl, rfl⟩, fun w => rrow_17 w⟩
  · exact ⟨_, _, _, _, _, ⟨rfl, rfl, rfl, rfl, rfl⟩, fun w => rrow_18 w⟩
  · exact ⟨_, _, _, _, _, ⟨rfl, rfl, rfl, rfl, rfl⟩, fun w => rrow_19 w⟩
  · exact ⟨_, _, _, _, _, ⟨rfl, rfl, rfl, rfl, rfl⟩, fun w => rrow_20 w⟩
  · exact ⟨_, _, _, _, _, ⟨rfl, rfl, rfl, rfl, rfl⟩, fun w => rrow_21 w⟩
  · exact ⟨_, _, _, _, _, ⟨rfl, rfl, rfl, rfl, rfl⟩, fun w => rrow_22 w⟩
  · exact ⟨_, _, _, _, _, ⟨rfl, rfl, rfl, rfl, rfl⟩, fun w => rrow_23 w⟩
  · exact ⟨_, _, _, _, _, ⟨rfl, rfl, rfl, rfl, rfl⟩, fun w => rrow_24 w⟩
  · exact ⟨_, _, _, _, _, ⟨rfl, rfl, rfl, rfl, rfl⟩, fun w => rrow_25 w⟩
  · exact ⟨_, _, _, _, _, ⟨rfl, rfl, rfl, rfl, rfl⟩, fun w => rrow_26 w⟩
  · exact ⟨_, _, _, _, _, ⟨rfl, rfl, rfl, rfl, rfl⟩, fun w => rrow_27 w⟩
  · exact ⟨_, _, _, _, _, ⟨rfl, rfl, rfl, rfl, rfl⟩, fun w => rrow_28 w⟩
  · exact ⟨_, _, _, _, _, ⟨rfl, rfl, rfl, rfl, rfl⟩, fun w => rrow_29 w⟩
  · exact ⟨_, _, _, _, _, ⟨rfl, rfl, rfl, rfl, rfl⟩, fun w => rrow_30 w⟩
  · exact ⟨_, _, _, _, _, ⟨rfl, rfl, rfl, rfl, rfl⟩, fun w => rrow_31 w⟩
  · exact ⟨_, _, _, _, _, ⟨rfl, rfl, rfl, rfl, rfl⟩, fun w => rrow_32 w⟩
  · exact ⟨_, _, _, _, _, ⟨rfl, rfl, rfl, rfl, rfl⟩, fun w => rrow_33 w⟩
  · exact ⟨_, _, _, _, _, ⟨rfl, rfl, rfl, rfl, rfl⟩, fun w => rrow_34 w⟩
  · exact ⟨_, _, _, _, _, ⟨rfl, rfl, rfl, rfl, rfl⟩, fun w => rrow_35 w⟩
  · exact ⟨_, _, _, _, _, ⟨rfl, rfl, rfl, rfl, rfl⟩, fun w => rrow_36 w⟩
  · exact ⟨_, _, _, _, _, ⟨rfl, rfl, rfl, rfl, rfl⟩, fun w => rrow_37 w⟩
/-- Which letters there are. -/
def letOK (b : Int) : Prop := b = 45 ∨ b = 110 ∨ b = 119 ∨ b = 118 ∨ b = 100 ∨ b = 120 ∨ b = 99 ∨ b = 97
instance (b : Int) : Decidable (letOK b) := by unfold letOK; infer_instance
def okL (L : Lt) : Bool := decide (letOK L.a) && (decide (letOK L.b) && (decide (letOK L.c) && (decide (letOK L.d) && (decide (L.e = 45 ∨ L.e = 105 ∨ L.e = 112 ∨ L.e = 115 ∨ L.e = 113) && decide (L.e = 112 → L.a = 118 ∨ (L.a = 45 ∧ L.b = 118))))))
theorem okL_ite {p : Prop} [Decidable p] {x y : Lt} (h : okL x = true) (k : okL y = true) : okL (if p then x else y) = true := by
  split
  · exact h
  · exact k
theorem ltR_okL (op : Int) : okL (ltR op) = true := by
  unfold ltR
  iterate 19 refine okL_ite (by decide) ?_
  decide
theorem ltR_ok (op : Int) : letOK (ltR op).a ∧ letOK (ltR op).b ∧ letOK (ltR op).c ∧ letOK (ltR op).d ∧ ((ltR op).e = 45 ∨ (ltR op).e = 105 ∨ (ltR op).e = 112 ∨ (ltR op).e = 115 ∨ (ltR op).e = 113) ∧ ((ltR op).e = 112 → (ltR op).a = 118 ∨ ((ltR op).a = 45 ∧ (ltR op).b = 118)) := by
  have := ltR_okL op
  unfold okL at this
  simp only [Bool.and_eq_true, decide_eq_true_eq] at this
  exact this

set_option maxRecDepth 100000 in
set_option maxHeartbeats 2000000 in
theorem rfits_no (v0 v1 v2 v3 : Value) (i : Ins) (h0 : 0 ≤ i.bits) (h1 : i.bits < 4294967296) (h : (knownP i.op && ((i.op == 1 || i.bits == 0) && toldB i.bits)) = false) (w : World) :
    Calls Tryz.prog 66 #[.agg #[v0, v1, v2, v3], insV i] w fun e w' => e = .returned (.bool false) ∧ Below w.heap.size w w' := by
  have HCAN : Hid (∀ w, Calls Tryz.prog 65 #[.int .u32 i.bits] w fun e w' => e = .returned (.bool (toldB i.bits)) ∧ Below w.heap.size w w') := rcanonical_any i.bits h0 h1
  cases hk : knownP i.op
  · have HROW : Hid (∀ w, Calls Tryz.prog 68 #[.int .i64 i.op] w fun e w' => e = .returned (.tuple #[.string ⟨#[]⟩, .bool false]) ∧ w' = w) := rrow_none i.op hk
    obtain ⟨op, D, A, B, E, n, bt⟩ := i
    unfold insV
    simp only at HROW HCAN ⊢
    clear h hk
    go_enter Tryz.func66, Tryz.ntmps66
    go_wp2_with (go_at_call 68; refine (HROW.out _).mono ?_; rintro e w1 ⟨rfl, rfl⟩)
    go_ret
    exact ⟨rfl, bel (bel_alloc _ _) (bel_alloc _ _)⟩
  · obtain ⟨a, b, c, d, e, -, hc⟩ := rrow_lt i.op hk
    have HROW : Hid (∀ w, Calls Tryz.prog 68 #[.int .i64 i.op] w fun x w' => x = .returned (.tuple #[.string ⟨#[a, b, c, d, e]⟩, .bool true]) ∧ w' = w) := hc
    rw [hk, Bool.true_and] at h
    clear hc hk
    obtain ⟨op, D, A, B, E, n, bt⟩ := i
    unfold insV
    simp only at HROW HCAN h ⊢
    cases ho : (op == 1)
    · have ho' : (op != 1) = true := by simpa using ho
      cases hz : (bt == 0)
      · have hz' : (bt != 0) = true := by simpa using hz
        clear h
        go_enter Tryz.func66, Tryz.ntmps66
        go_wp2_with (go_at_call 68; refine (HROW.out _).mono ?_; rintro e w1 ⟨rfl, rfl⟩)
        go_ret
        exact ⟨rfl, bel (bel_alloc _ _) (bel_alloc _ _)⟩
      · rw [ho, hz, Bool.false_or, Bool.true_and] at h
        rw [h] at HCAN
        have hz' : (bt != 0) = false := by simpa using hz
        clear h
        go_enter Tryz.func66, Tryz.ntmps66
        go_wp2_with (first
          | (go_at_call 68; refine (HROW.out _).mono ?_; rintro e w1 ⟨rfl, rfl⟩)
          | (go_at_call 65; refine (HCAN.out _).mono ?_; rintro e w2 ⟨rfl, hb2⟩; have HB2 : Hid _ := hb2; clear hb2))
        go_ret
        exact ⟨rfl, bel (bel (bel_alloc _ _) (bel_alloc _ _)) HB2.out⟩
    · rw [ho, Bool.true_or, Bool.true_and] at h
      rw [h] at HCAN
      have ho' : (op != 1) = false := by simpa using ho
      clear h
      go_enter Tryz.func66, Tryz.ntmps66
      go_wp2_with (first
        | (go_at_call 68; refine (HROW.out _).mono ?_; rintro e w1 ⟨rfl, rfl⟩)
        | (go_at_call 65; refine (HCAN.out _).mono ?_; rintro e w2 ⟨rfl, hb2⟩; have HB2 : Hid _ := hb2; clear hb2))
      go_ret
      exact ⟨rfl, bel (bel (bel_alloc _ _) (bel_alloc _ _)) HB2.out⟩

/-- The worlds behind the boxes: the code's at the beginning, the instruction's at J. -/
structure TW (w : World) (v0 v1 v2 v3 : Value) (J : Nat) (op D A B E n bt : Int) (v : World) : Prop where
  bel : Below w.heap.size w v
  c0 : v.cell? ⟨w.heap.size, 0, none⟩ = some v0
  c1 : v.cell? ⟨w.heap.size, 1, none⟩ = some v1
  c2 : v.cell? ⟨w.heap.size, 2, none⟩ = some v2
  c3 : v.cell? ⟨w.heap.size, 3, none⟩ = some v3
  i0 : v.cell? ⟨J, 0, none⟩ = some (.int .i64 op)
  i1 : v.cell? ⟨J, 1, none⟩ = some (.int .i64 D)
  i2 : v.cell? ⟨J, 2, none⟩ = some (.int .i64 A)
  i3 : v.cell? ⟨J, 3, none⟩ = some (.int .i64 B)
  i4 : v.cell? ⟨J, 4, none⟩ = some (.int .i64 E)
  i5 : v.cell? ⟨J, 5, none⟩ = some (.int .i64 n)
  i6 : v.cell? ⟨J, 6, none⟩ = some (.int .u32 bt)
theorem TW.next {w : World} {v0 v1 v2 v3 : Value} {J : Nat} {op D A B E n bt : Int} {v v' : World} (h : TW w v0 v1 v2 v3 J op D A B E n bt v) (k : Below v.heap.size v v') : TW w v0 v1 v2 v3 J op D A B E n bt v' :=
  ⟨Go.Proofs.YtgcmnkanjcfndaaGreatDoor.bel h.bel k, kc k h.c0, kc k h.c1, kc k h.c2, kc k h.c3, kc k h.i0, kc k h.i1, kc k h.i2, kc k h.i3, kc k h.i4, kc k h.i5, kc k h.i6⟩
theorem TW.keep {w : World} {v0 v1 v2 v3 : Value} {J : Nat} {op D A B E n bt : Int} {v : World} (h : TW w v0 v1 v2 v3 J op D A B E n bt v) {g o : Nat} (x : Value) (h1 : w.heap.size < g) (h2 : g ≠ J) : TW w v0 v1 v2 v3 J op D A B E n bt (v.setCell ⟨g, o, none⟩ x) := by
  have f1 : ∀ j, (v.setCell ⟨g, o, none⟩ x).cell? ⟨w.heap.size, j, none⟩ = v.cell? ⟨w.heap.size, j, none⟩ := fun j => World.cell?_of_block (Below.heap_setCell _ _ _ _ (by show w.heap.size ≠ g; omega))
  have f2 : ∀ j, (v.setCell ⟨g, o, none⟩ x).cell? ⟨J, j, none⟩ = v.cell? ⟨J, j, none⟩ := fun j => World.cell?_of_block (Below.heap_setCell _ _ _ _ (by show J ≠ g; omega))
  exact ⟨h.bel.setCell (by show w.heap.size ≤ g; omega) _, (f1 0).trans h.c0, (f1 1).trans h.c1, (f1 2).trans h.c2, (f1 3).trans h.c3, (f2 0).trans h.i0, (f2 1).trans h.i1, (f2 2).trans h.i2, (f2 3).trans h.i3, (f2 4).trans h.i4, (f2 5).trans h.i5, (f2 6).trans h.i6⟩
theorem TW.start (w : World) (v0 v1 v2 v3 : Value) (op D A B E n bt : Int) : TW w v0 v1 v2 v3 (w.heap.size + 1) op D A B E n bt ((w.alloc (.cells #[v0, v1, v2, v3] 27)).alloc (.cells #[.int .i64 op, .int .i64 D, .int .i64 A, .int .i64 B, .int .i64 E, .int .i64 n, .int .u32 bt] 46)) := by
  have k := bel_alloc (w.alloc (.cells #[v0, v1, v2, v3] 27)) (.cells #[.int .i64 op, .int .i64 D, .int .i64 A, .int .i64 B, .int .i64 E, .int .i64 n, .int .u32 bt] 46)
  exact ⟨Go.Proofs.YtgcmnkanjcfndaaGreatDoor.bel (bel_alloc _ _) k, kc k (by simp [go_sem]), kc k (by simp [go_sem]), kc k (by simp [go_sem]), kc k (by simp [go_sem]), by simp [go_sem], by simp [go_sem], by simp [go_sem], by simp [go_sem], by simp [go_sem], by simp [go_sem], by simp [go_sem]⟩

theorem bel_drewR {n : Nat} {w v : World} (h : Below n w v) : Below n w v.drew := h.drew

end Go.Proofs.YtgcmnkanjcfndaaGreatDoor
