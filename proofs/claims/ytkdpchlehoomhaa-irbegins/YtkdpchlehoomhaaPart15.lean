import Derived.Test.YtkdpchlehoomhaaPart14
import Derived.Test.YtkdpchlehoomhaaPart13
import Derived.Test.YtkdpchlehoomhaaPart12
namespace Go.Proofs.Ytkdpchlehoomhaa
open Go.RowKit
set_option linter.unusedVariables false
set_option linter.unusedSimpArgs false
set_option maxRecDepth 100000 in
set_option maxHeartbeats 8000000 in
theorem begins_main (a0 a1 a2 : Value) (p3 : Option Addr) (N q3 : Nat) (c : Cd) (hN : c.list.length = N) (hN0 : 0 < N) (hNb : N * 56 ≤ 140737488351232) (hq3 : N ≤ q3) (at_ R : Int) (A : Nat) (hA : A < N) (hR1 : IntKind.i64.wrap (at_.tmod (N : Int)) = R) (hR2 : at_.tmod (N : Int) = R) (hRA : (R < 0 ∧ IntKind.i64.wrap (R + (N : Int)) = (A : Int)) ∨ (0 ≤ R ∧ R = (A : Int)))
  (OA F Pl : Int) (hO : openN (c.list.take A) = OA) (S RD : Bool) (W : World) (hrow : RowG 7 inC W (.slice p3 N q3) c.list)
  (x : Ins) (hx : c.list[A]? = some x)
  (HK1 : Hid (∀ v, Below W.heap.size W v → Calls Try.prog 18 #[.agg #[a0, a1, a2, .slice p3 N q3]] v fun e w' => ∃ P : Int, e = .returned (.tuple #[.int .i64 0, .int .i64 P]) ∧ Below v.heap.size v w'))
  (HK2 : Hid (∀ v, Below W.heap.size W v → Calls Try.prog 17 #[.agg #[a0, a1, a2, .slice p3 N q3]] v fun e w' => ∃ p0 n0 q0 p1 n1 q1 p2 n2 q2 p q, e = .returned (.agg #[.slice p0 n0 q0, .slice p1 n1 q1, .slice p2 n2 q2, .slice p N q]) ∧ N ≤ q ∧ Own4 v.heap.size w' (.slice p0 n0 q0) (.slice p1 n1 q1) (.slice p2 n2 q2) (.slice p N q) c ∧ Below v.heap.size v w'))
  (HK3 : Hid (∀ v u0 u1 u2 u3, CdV v u0 u1 u2 u3 ⟨c.sign, c.regs, c.slots, c.list.take A⟩ → Calls Try.prog 18 #[.agg #[u0, u1, u2, u3]] v fun e w' => e = .returned (.tuple #[.int .i64 F, .int .i64 Pl]) ∧ Below v.heap.size v w'))
  (HFP : Hid ((OA = 0 ∧ F = 0 ∧ Pl = 0) ∨ (¬ OA = 0 ∧ F = 160 ∧ Pl = (A : Int))))
  (HK4 : Hid (∀ v, Calls Try.prog 11 #[.agg #[.int .i64 x.op, .int .i64 x.d, .int .i64 x.a, .int .i64 x.b, .int .i64 x.c, .int .i64 x.n, .int .u32 x.bits]] v fun e w' => e = .returned (.bool S) ∧ Below v.heap.size v w'))
  (HK5 : Hid (∀ (i : Ins) v, Calls Try.prog 9 #[.agg #[.int .i64 i.op, .int .i64 i.d, .int .i64 i.a, .int .i64 i.b, .int .i64 i.c, .int .i64 i.n, .int .u32 i.bits]] v fun e w' => ∃ u, e = .returned u ∧ w'.ownsRow v.heap.size 3 1 u (readsP i (rowP i.op)).length (i64s (readsP i (rowP i.op))) ∧ Below v.heap.size v w'))
  (HK6 : Hid ((!S || anyR x.d (c.list.drop (A + 1))) = false → ∀ v u0 u1 u2 u3, CdV v u0 u1 u2 u3 ⟨c.sign, c.regs, c.slots, c.list.take A ++ c.list.drop (A + 1)⟩ → Calls Try.prog 18 #[.agg #[u0, u1, u2, u3]] v fun e w' => ∃ P : Int, e = .returned (.tuple #[.int .i64 0, .int .i64 P]) ∧ Below v.heap.size v w'))
  (HK7 : Hid (∀ w, Calls Try.prog 14 #[] w fun e w' => e = .returned (.bool true) ∧ Below w.heap.size w w')) :
  Calls Try.prog 6 #[.agg #[a0, a1, a2, .slice p3 N q3], .int .i64 at_] W fun e W' => e = .returned (.bool true) ∧ Below W.heap.size W W' := by
 have HN : Hid (c.list.length = N) := hN
 have HROW : Hid (RowG 7 inC W (.slice p3 N q3) c.list) := hrow
 have HX : Hid (c.list[A]? = some x) := hx
 have HO : Hid (openN (c.list.take A) = OA) := hO
 have HRA : Hid ((R < 0 ∧ IntKind.i64.wrap (R + (N : Int)) = (A : Int)) ∨ (0 ≤ R ∧ R = (A : Int))) := hRA
 have hz1 : ((N : Int) == 0) = false := by have : (N : Int) ≠ 0 := (by omega); simpa using this
 have hz2 : (N == 0) = false := by have : N ≠ 0 := (by omega); simpa using this
 have hz3 : ¬ (N : Int) = 0 := by omega
 have hc0 : CellsAt (W.alloc (.cells #[a0, a1, a2, .slice p3 N q3] 36)) W.heap.size 0 [a0, a1, a2, .slice p3 N q3] := by
  intro j hj
  have hj' : j < 4 := hj
  obtain rfl | rfl | rfl | rfl : j = 0 ∨ j = 1 ∨ j = 2 ∨ j = 3 := by omega
  all_goals simp [go_sem]
 have HC0 : Hid (CellsAt (W.alloc (.cells #[a0, a1, a2, .slice p3 N q3] 36)) W.heap.size 0 [a0, a1, a2, .slice p3 N q3]) := hc0
 have HCC : Hid (∀ v, CellsAt v W.heap.size 0 [a0, a1, a2, .slice p3 N q3] → v.cell? ⟨W.heap.size, 0, none⟩ = some a0 ∧ v.cell? ⟨W.heap.size, 1, none⟩ = some a1 ∧ v.cell? ⟨W.heap.size, 2, none⟩ = some a2 ∧ v.cell? ⟨W.heap.size, 3, none⟩ = some (.slice p3 N q3)) := fun v h => by
  have q : ∀ j {u : Value}, ([a0, a1, a2, .slice p3 N q3] : List Value)[j]? = some u → v.cell? ⟨W.heap.size, j, none⟩ = some u := fun j u e => by have := h.at j e; rwa [Nat.zero_add] at this
  exact ⟨q 0 rfl, q 1 rfl, q 2 rfl, q 3 rfl⟩
 clear hN hrow hx hO hRA hc0
 go_enter Try.func6, Try.ntmps6
 go_upto_if 37 with (go_at_call 18; refine (HK1.out _ (bel_alloc _ _)).mono ?_; rintro e w1 ⟨P1, rfl, hb1⟩; obtain ⟨b0, b1, b2, b3⟩ := HCC.out w1 (HC0.out.below hb1))
 have HC1 : Hid (CellsAt w1 W.heap.size 0 [a0, a1, a2, .slice p3 N q3]) := HC0.out.below hb1
 have HB1 : Hid (Below W.heap.size W w1) := bel (bel_alloc _ _) hb1
 clear hb1 HC0
 go_cut [1] (fun av wx => av = .int .i64 (A : Int) ∧ wx = w1)
 case first =>
  rcases HRA.out with ⟨r1, r2⟩ | ⟨r1, r2⟩
  ·go_wp2
   go_meet
   exact ⟨rfl, rfl⟩
  ·have r3 : ¬ R < 0 := by omega
   go_wp2
   go_meet
   exact ⟨by first | rfl | rw [r2], rfl⟩
 case rest =>
  obtain ⟨rfl, rfl⟩ := hcut
  go_wp2
  go_loopw [7, 8] (fun ov iv wr => wr = wc ∧ ∃ j : Nat, j ≤ A ∧ iv = .int .i64 j ∧ ov = .int .i64 (openN (c.list.take j))) (fun _ iv _ => A - (intOf iv).toNat)
  case atStart => exact ⟨rfl, 0, Nat.zero_le _, rfl, rfl⟩
  case round =>
   obtain ⟨rfl, j, hj, rfl, rfl⟩ := hrel
   by_cases hlt : j < A
   ·have hll : j < c.list.length := by rw [HN.out]; omega
    obtain ⟨b, o, rfl, hx⟩ := HROW.out.at hll
    have hx' := hx.below HB1.out
    have x0 := hx'.at 0 rfl
    rw [Nat.add_zero] at x0
    have hbd := openN_bound (c.list.take j)
    have hlen : (c.list.take j).length = j := by rw [List.length_take]; omega
    rw [hlen] at hbd
    have hsn : openN (c.list.take (j + 1)) = openN (c.list.take j) + openD c.list[j] := by rw [List.take_succ_eq_append_getElem hll, openN_snoc]
    obtain ⟨O, hOO⟩ : ∃ O, openN (c.list.take j) = O := ⟨_, rfl⟩
    rw [hOO] at hbd hsn ⊢
    obtain ⟨op, hop⟩ : ∃ op, c.list[j].op = op := ⟨_, rfl⟩
    rw [hop] at x0
    have hDD : openD c.list[j] = if op = 34 ∨ op = 36 then 1 else if op = 35 ∨ op = 37 then -1 else 0 := by unfold openD; rw [hop]
    rw [hDD] at hsn
    have HSN : Hid (openN (c.list.take (j + 1)) = O + if op = 34 ∨ op = 36 then 1 else if op = 35 ∨ op = 37 then -1 else 0) := hsn
    have w1' : IntKind.i64.wrap (O + 1) = O + 1 := by rw [IntKind.wrap_i64]; omega
    have w2' : IntKind.i64.wrap (O - 1) = O - 1 := by rw [IntKind.wrap_i64]; omega
    have i1 : (0 : Int) ≤ (j : Int) := by omega
    have i2 : (j : Int) < (N : Int) := by omega
    have i3 : (j : Int) < (A : Int) := by omega
    clear hx hx' hsn hOO hop hDD hlen hbd
    by_cases h34 : op = 34
    ·have q1 : (op == 34) = true := by simpa using h34
     have HE : Hid (openN (c.list.take (j + 1)) = O + 1) := by show _ = _; rw [HSN.out, if_pos (.inl h34)]
     clear h34
     go_wp2
     go_roundw
     case rel => exact ⟨by first | rfl | trivial, j + 1, by omega, by go_num, by rw [HE.out]⟩
     case measure => simp [intOf]; omega
    ·have q1 : (op == 34) = false := by simpa using h34
     by_cases h36 : op = 36
     ·have q2 : (op == 36) = true := by simpa using h36
      have HE : Hid (openN (c.list.take (j + 1)) = O + 1) := by show _ = _; rw [HSN.out, if_pos (.inr h36)]
      clear h34 h36
      go_wp2
      go_roundw
      case rel => exact ⟨by first | rfl | trivial, j + 1, by omega, by go_num, by rw [HE.out]⟩
      case measure => simp [intOf]; omega
     ·have q2 : (op == 36) = false := by simpa using h36
      by_cases h35 : op = 35
      ·have q3 : (op == 35) = true := by simpa using h35
       have HE : Hid (openN (c.list.take (j + 1)) = O - 1) := by show _ = _; rw [HSN.out, if_neg (by omega), if_pos (.inl h35)]; omega
       clear h34 h36 h35
       go_wp2
       go_roundw
       case rel => exact ⟨by first | rfl | trivial, j + 1, by omega, by go_num, by rw [HE.out]⟩
       case measure => simp [intOf]; omega
      ·have q3 : (op == 35) = false := by simpa using h35
       by_cases h37 : op = 37
       ·have q4 : (op == 37) = true := by simpa using h37
        have HE : Hid (openN (c.list.take (j + 1)) = O - 1) := by show _ = _; rw [HSN.out, if_neg (by omega), if_pos (.inr h37)]; omega
        clear h34 h36 h35 h37
        go_wp2
        go_roundw
        case rel => exact ⟨by first | rfl | trivial, j + 1, by omega, by go_num, by rw [HE.out]⟩
        case measure => simp [intOf]; omega
       ·have q4 : (op == 37) = false := by simpa using h37
        have HE : Hid (openN (c.list.take (j + 1)) = O) := by show _ = _; rw [HSN.out, if_neg (by omega), if_neg (by omega)]; omega
        clear h34 h36 h35 h37
        go_wp2
        go_roundw
        case rel => exact ⟨by first | rfl | trivial, j + 1, by omega, by go_num, by rw [HE.out]⟩
        case measure => simp [intOf]; omega
   ·have : j = A := by omega
    subst this
    rw [HO.out]
    have hAr : j < c.list.length := by rw [HN.out]; exact hA
    have hxx : c.list[j] = x := by have := HX.out; rw [List.getElem?_eq_getElem hAr] at this; exact Option.some.inj this
    clear hj hlt
    go_upto_region 21 with (first
     | (go_at_call 17; (with_reducible refine (HK2.out _ HB1.out).mono ?_); rintro e w2 ⟨m0, n0, l0, m1, n1, l1, m2, n2, l2, p, q, rfl, hqN, hown, hb2⟩; have s1 := (fun w => slice_toG und_L7 size_L7 p N q j (by omega) w); have HO4 : Hid (Own4 wr.heap.size w2 (.slice m0 n0 l0) (.slice m1 n1 l1) (.slice m2 n2 l2) (.slice p N q) c) := hown; have HD2 : Hid (CdV w2 (.slice m0 n0 l0) (.slice m1 n1 l1) (.slice m2 n2 l2) (.slice p j q) ⟨c.sign, c.regs, c.slots, c.list.take j⟩) := (by have h4 := HO4.out; rw [← HN.out] at h4; exact own4_take h4 (Nat.le_of_lt hAr)); have HB2 : Hid (Below wr.heap.size wr w2) := hb2; clear hown hb2)
     | (go_at_call 18; (with_reducible refine (HK3.out _ _ _ _ _ (HD2.out.below (bel_alloc _ _))).mono ?_); rintro e w3 ⟨rfl, hb3⟩; have HB3 : Hid (Below (w2.alloc (.cells #[.slice m0 n0 l0, .slice m1 n1 l1, .slice m2 n2 l2, .slice p j q] 36)).heap.size (w2.alloc (.cells #[.slice m0 n0 l0, .slice m1 n1 l1, .slice m2 n2 l2, .slice p j q] 36)) w3) := hb3; clear hb3))
    have HW3 : Hid (BW W a0 a1 a2 (.slice p3 N q3) w2.heap.size (.slice m0 n0 l0) (.slice m1 n1 l1) (.slice m2 n2 l2) (.slice p j q) w3) := by
     have hs := HB2.out.size
     have hs1 := mcell_lt b3
     simp only at hs1
     refine BW.next ⟨bel HB1.out (bel HB2.out (bel_alloc _ _)), (HC1.out.below HB2.out).below (bel_alloc _ _), ?_, by omega⟩ HB3.out
     exact World.rowIs_alloc w2 #[.slice m0 n0 l0, .slice m1 n1 l1, .slice m2 n2 l2, .slice p j q] 36 _ (fun i hi => by
      have hi' : i < 4 := hi
      obtain rfl | rfl | rfl | rfl : i = 0 ∨ i = 1 ∨ i = 2 ∨ i = 3 := by omega
      all_goals rfl)
    clear HO4 HD2 s1 HB2 HB3 hqN
    go_cut [89] from 76 to 88 (fun fv wx => fv = .bool false ∧ wx = w3)
    case first =>
     rcases HFP.out with ⟨e1, rfl, rfl⟩ | ⟨e1, rfl, rfl⟩
     ·subst e1
      go_wp2
      go_meet
      exact ⟨rfl, rfl⟩
     ·have e2 : (OA == 0) = false := by simpa using e1
      clear e1
      go_wp2
      go_meet
      exact ⟨rfl, rfl⟩
    case rest =>
     obtain ⟨rfl, rfl⟩ := hcut
     have k3 := HW3.out.c3
     obtain ⟨b, o, rfl, hx⟩ := HROW.out.at hAr
     have hx' := hx.below HW3.out.bel
     rw [hxx] at hx'
     have x0 := hx'.at 0 rfl
     have x1 := hx'.at 1 rfl
     have x2 := hx'.at 2 rfl
     have x3 := hx'.at 3 rfl
     have x4 := hx'.at 4 rfl
     have x5 := hx'.at 5 rfl
     have x6 := hx'.at 6 rfl
     rw [Nat.add_zero] at x0
     have i1 : (0 : Int) ≤ (j : Int) := by omega
     have i2 : (j : Int) < (N : Int) := by omega
     have wj : IntKind.i64.wrap ((j : Int) + 1) = ((j + 1 : Nat) : Int) := by rw [IntKind.wrap_i64]; omega
     clear hx hx' b0 b1 b2 b3 HC1 HB1 HFP HK3 HK1
     go_wp2_with (go_at_call 11; (with_reducible refine (HK4.out _).mono ?_); rintro e w5 ⟨rfl, hb5⟩; have HB5 : Hid (Below (wc.alloc (.cells #[.int .i64 x.op, .int .i64 x.d, .int .i64 x.a, .int .i64 x.b, .int .i64 x.c, .int .i64 x.n, .int .u32 x.bits] 25)).heap.size (wc.alloc (.cells #[.int .i64 x.op, .int .i64 x.d, .int .i64 x.a, .int .i64 x.b, .int .i64 x.c, .int .i64 x.n, .int .u32 x.bits] 25)) w5) := hb5; clear hb5)
     have HW5 : Hid (BX W a0 a1 a2 (.slice (some ⟨b, o, none⟩) N q3) w2.heap.size (.slice m0 n0 l0) (.slice m1 n1 l1) (.slice m2 n2 l2) (.slice p j q) wc.heap.size x w5) := BX.make HW3.out HB5.out
     clear HW3 HB5 x0 x1 x2 x3 x4 x5 x6 k3
     go_loopw [13, 14] (fun rv iv wr => BX W a0 a1 a2 (.slice (some ⟨b, o, none⟩) N q3) w2.heap.size (.slice m0 n0 l0) (.slice m1 n1 l1) (.slice m2 n2 l2) (.slice p j q) wc.heap.size x wr ∧ ∃ i : Nat, j + 1 ≤ i ∧ i ≤ N ∧ iv = .int .i64 i ∧ rv = .bool (!S || anyR x.d ((c.list.drop (j + 1)).take (i - (j + 1))))) (fun _ iv _ => N - (intOf iv).toNat)
     case atStart => exact ⟨HW5.out, j + 1, Nat.le_refl _, by omega, by go_num, by rw [Nat.sub_self, List.take_zero]; simp [anyR]⟩
     case round =>
      obtain ⟨hw, i, hi1, hi2, rfl, rfl⟩ := hrel
      have HW : Hid (BX W a0 a1 a2 (.slice (some ⟨b, o, none⟩) N q3) w2.heap.size (.slice m0 n0 l0) (.slice m1 n1 l1) (.slice m2 n2 l2) (.slice p j q) wc.heap.size x wr) := hw
      have k3 := hw.c3
      clear hw
      obtain ⟨T, hT⟩ : ∃ T, (!S || anyR x.d ((c.list.drop (j + 1)).take (i - (j + 1)))) = T := ⟨_, rfl⟩
      rw [hT]
      by_cases hlt : i < N
      ·have hll : i < c.list.length := by rw [HN.out]; omega
       obtain ⟨b', o', e, hy⟩ := HROW.out.at hll
       simp only [Option.some.injEq, Addr.mk.injEq, and_true] at e
       obtain ⟨rfl, rfl⟩ := e
       have hy' := hy.below HW.out.bel
       obtain ⟨Y, hY⟩ : ∃ Y, c.list[i] = Y := ⟨_, rfl⟩
       rw [hY] at hy'
       have HT1 : Hid ((!S || anyR x.d ((c.list.drop (j + 1)).take (i + 1 - (j + 1)))) = (T || (readsP Y (rowP Y.op)).any fun n => n == x.d)) := by
        show _ = _
        rw [anyR_next hll hi1, ← hT, hY, Bool.or_assoc]
       have y0 := hy'.at 0 rfl
       have y1 := hy'.at 1 rfl
       have y2 := hy'.at 2 rfl
       have y3 := hy'.at 3 rfl
       have y4 := hy'.at 4 rfl
       have y5 := hy'.at 5 rfl
       have y6 := hy'.at 6 rfl
       rw [Nat.add_zero] at y0
       have i1' : (0 : Int) ≤ (i : Int) := by omega
       have i2' : (i : Int) < (N : Int) := by omega
       have wi : IntKind.i64.wrap ((i : Int) + 1) = ((i + 1 : Nat) : Int) := by rw [IntKind.wrap_i64]; omega
       clear hy hy' hT hY
       go_wp2_with (go_at_call 9; (with_reducible refine (HK5.out Y _).mono ?_); rintro e w6 ⟨u, rfl, ho6, hb6⟩; obtain ⟨pl, cl, rfl⟩ := own_len ho6)
       obtain ⟨L, hL⟩ : ∃ L, readsP Y (rowP Y.op) = L := ⟨_, rfl⟩
       rw [hL] at HT1 ho6
       rw [hL]
       have hL3 : L.length ≤ 3 := by rw [← hL]; exact reads_le _ _
       clear hL
       have HW6 : Hid (BX W a0 a1 a2 (.slice (some ⟨b, o, none⟩) N q3) w2.heap.size (.slice m0 n0 l0) (.slice m1 n1 l1) (.slice m2 n2 l2) (.slice p j q) wc.heap.size x w6) := HW.out.next hb6
       have HO6 : Hid (w6.ownsRow 0 3 1 (.slice pl L.length cl) L.length (i64s L)) := own_mono ho6 (Nat.zero_le _)
       clear HW hb6 ho6 y0 y1 y2 y3 y4 y5 y6 k3
       go_loopw [13, 16] (fun rv kv wk => BX W a0 a1 a2 (.slice (some ⟨b, o, none⟩) N q3) w2.heap.size (.slice m0 n0 l0) (.slice m1 n1 l1) (.slice m2 n2 l2) (.slice p j q) wc.heap.size x wk ∧ wk.ownsRow 0 3 1 (.slice pl L.length cl) L.length (i64s L) ∧ ∃ k : Nat, k ≤ L.length ∧ kv = .int .i64 k ∧ rv = .bool (T || (L.take k).any fun n => n == x.d)) (fun _ kv _ => L.length - (intOf kv).toNat)
       case atStart => exact ⟨HW6.out, HO6.out, 0, Nat.zero_le _, rfl, by simp⟩
       case round =>
        obtain ⟨hw, ho, k, hk, rfl, rfl⟩ := hrel
        have HW : Hid (BX W a0 a1 a2 (.slice (some ⟨b, o, none⟩) N q3) w2.heap.size (.slice m0 n0 l0) (.slice m1 n1 l1) (.slice m2 n2 l2) (.slice p j q) wc.heap.size x wr) := hw
        have HOW : Hid (wr.ownsRow 0 3 1 (.slice pl L.length cl) L.length (i64s L)) := ho
        have k3 := hw.c3
        have z1 := hw.x1
        clear hw HW6 HO6
        obtain ⟨U, hU⟩ : ∃ U, (T || (L.take k).any fun n => n == x.d) = U := ⟨_, rfl⟩
        rw [hU]
        by_cases hkl : k < L.length
        ·obtain ⟨g, cap, hv, -, -, -, -, hat⟩ := own_open ho (by omega)
         simp only [Value.slice.injEq] at hv
         obtain ⟨rfl, -, rfl⟩ := hv
         have z2 := hat k (.int .i64 L[k]) (by unfold i64s; rw [List.getElem?_map, List.getElem?_eq_getElem hkl]; rfl)
         have HU : Hid ((T || (L.take (k + 1)).any fun n => n == x.d) = (U || (L[k] == x.d))) := by
          show _ = _
          rw [List.take_succ_eq_append_getElem hkl, List.any_append, ← Bool.or_assoc, hU]
          simp
         obtain ⟨Z, hZ⟩ : ∃ Z, L[k] = Z := ⟨_, rfl⟩
         rw [hZ] at z2 HU
         obtain ⟨X, hX⟩ : ∃ X, x.d = X := ⟨_, rfl⟩
         rw [hX] at z1 
         have HX' : Hid (x.d = X) := hX
         have j1 : (0 : Int) ≤ (k : Int) := by omega
         have j2 : (k : Int) < (L.length : Int) := by omega
         clear hat hZ hX ho hU
         cases U
         ·go_wp2
          refine wp_region_held_drew (S := (fun v => v.cell? ⟨g, k, none⟩ = some (.int .i64 Z) ∧ v.cell? ⟨wc.heap.size, 1, none⟩ = some (.int .i64 X))) (by kernel_rfl) ?_ (fun hHeld => ?_)
          ·((try dsimp only); go_keep)
          refine wpAnyH_take (i := 0) (v := ?_) (by simp only [List.getElem?_toArray, List.getElem?_cons_succ, List.getElem?_cons_zero]; rfl) (by kernel_rfl) (by kernel_rfl) (by kernel_rfl) (by exact fun _ _ _ h => h) (Or.inl ⟨by rfl, ?_⟩) (by assumption) ?_
          rotate_left 1
          ·(intro wS hSw; (try dsimp only at hSw); go_simp; try (with_reducible rfl))
          try simp only [Act.put, List.setIfInBounds_toArray, List.set_cons_zero, List.set_cons_succ]
          refine wpAnyH_take (i := 1) (v := ?_) (by simp only [List.getElem?_toArray, List.getElem?_cons_succ, List.getElem?_cons_zero]; rfl) (by kernel_rfl) (by kernel_rfl) (by kernel_rfl) (by exact fun _ _ _ h => h) (Or.inl ⟨by rfl, ?_⟩) (by assumption) ?_
          rotate_left 1
          ·(intro wS hSw; (try dsimp only at hSw); go_simp; try (with_reducible rfl))
          try simp only [Act.put, List.setIfInBounds_toArray, List.set_cons_zero, List.set_cons_succ]
          refine wpAnyH_take (i := 2) (v := ?_) (by simp only [List.getElem?_toArray, List.getElem?_cons_succ, List.getElem?_cons_zero]; rfl) (by kernel_rfl) (by kernel_rfl) (by kernel_rfl) (by exact fun _ _ _ h => h) (Or.inl ⟨by rfl, ?_⟩) (by assumption) ?_
          rotate_left 1
          ·(intro wS hSw; (try dsimp only at hSw); go_simp; try (with_reducible rfl))
          try simp only [Act.put, List.setIfInBounds_toArray, List.set_cons_zero, List.set_cons_succ]
          refine wpAnyH_take (i := 3) (v := ?_) (by simp only [List.getElem?_toArray, List.getElem?_cons_succ, List.getElem?_cons_zero]; rfl) (by kernel_rfl) (by kernel_rfl) (by kernel_rfl) (by exact fun _ _ _ h => h) (Or.inl ⟨by rfl, ?_⟩) (by assumption) ?_
          rotate_left 1
          ·(intro wS hSw; (try dsimp only at hSw); go_simp; try (with_reducible rfl))
          try simp only [Act.put, List.setIfInBounds_toArray, List.set_cons_zero, List.set_cons_succ]
          refine wpAnyH_take (i := 4) (v := ?_) (by simp only [List.getElem?_toArray, List.getElem?_cons_succ, List.getElem?_cons_zero]; rfl) (by kernel_rfl) (by kernel_rfl) (by kernel_rfl) (by exact fun _ _ _ h => h) (Or.inl ⟨by rfl, ?_⟩) (by assumption) ?_
          rotate_left 1
          ·(intro wS hSw; (try dsimp only at hSw); go_simp; try (with_reducible rfl))
          try simp only [Act.put, List.setIfInBounds_toArray, List.set_cons_zero, List.set_cons_succ]
          refine wpAnyH_take (i := 5) (v := ?_) (by simp only [List.getElem?_toArray, List.getElem?_cons_succ, List.getElem?_cons_zero]; rfl) (by kernel_rfl) (by kernel_rfl) (by kernel_rfl) (by exact fun _ _ _ h => h) (Or.inl ⟨by rfl, ?_⟩) (by assumption) ?_
          rotate_left 1
          ·(intro wS hSw; (try dsimp only at hSw); go_simp; try (with_reducible rfl))
          try simp only [Act.put, List.setIfInBounds_toArray, List.set_cons_zero, List.set_cons_succ]
          refine wpAnyH_take (i := 6) (v := ?_) (by simp only [List.getElem?_toArray, List.getElem?_cons_succ, List.getElem?_cons_zero]; rfl) (by kernel_rfl) (by kernel_rfl) (by kernel_rfl) (by exact fun _ _ _ h => h) (Or.inl ⟨by rfl, ?_⟩) (by assumption) ?_
          rotate_left 1
          ·(intro wS hSw; (try dsimp only at hSw); go_simp; try (with_reducible rfl))
          try simp only [Act.put, List.setIfInBounds_toArray, List.set_cons_zero, List.set_cons_succ]
          refine wpAnyH_take (i := 7) (v := ?_) (by simp only [List.getElem?_toArray, List.getElem?_cons_succ, List.getElem?_cons_zero]; rfl) (by kernel_rfl) (by kernel_rfl) (by kernel_rfl) (by exact fun _ _ _ h => h) (Or.inl ⟨by rfl, ?_⟩) (by assumption) ?_
          rotate_left 1
          ·(intro wS hSw; (try dsimp only at hSw); go_simp; try (with_reducible rfl))
          try simp only [Act.put, List.setIfInBounds_toArray, List.set_cons_zero, List.set_cons_succ]
          refine wpAnyH_take (i := 8) (v := ?_) (by simp only [List.getElem?_toArray, List.getElem?_cons_succ, List.getElem?_cons_zero]; rfl) (by kernel_rfl) (by kernel_rfl) (by kernel_rfl) (by exact fun _ _ _ h => h) (Or.inl ⟨by rfl, ?_⟩) (by assumption) ?_
          rotate_left 1
          ·(intro wS hSw; (try dsimp only at hSw); go_simp; try (with_reducible rfl))
          try simp only [Act.put, List.setIfInBounds_toArray, List.set_cons_zero, List.set_cons_succ]
          refine wpAnyH_take (i := 9) (v := ?_) (by simp only [List.getElem?_toArray, List.getElem?_cons_succ, List.getElem?_cons_zero]; rfl) (by kernel_rfl) (by kernel_rfl) (by kernel_rfl) (by exact fun _ _ _ h => h) (Or.inl ⟨by rfl, ?_⟩) (by assumption) ?_
          rotate_left 1
          ·(intro wS hSw; (try dsimp only at hSw); go_simp; try (with_reducible rfl))
          try simp only [Act.put, List.setIfInBounds_toArray, List.set_cons_zero, List.set_cons_succ]
          refine wpAnyH_take (i := 10) (v := ?_) (by simp only [List.getElem?_toArray, List.getElem?_cons_succ, List.getElem?_cons_zero]; rfl) (by kernel_rfl) (by kernel_rfl) (by kernel_rfl) (by exact fun _ _ _ h => h) (Or.inl ⟨by rfl, ?_⟩) (by assumption) ?_
          rotate_left 1
          ·(intro wS hSw; (try dsimp only at hSw); go_simp; try (with_reducible rfl))
          try simp only [Act.put, List.setIfInBounds_toArray, List.set_cons_zero, List.set_cons_succ]
          refine wpAnyH_done (by kernel_rfl) ?_ _
          go_wp2
          go_roundw
          case rel => exact ⟨HW.out.next (bel_d _), own_below HOW.out (bel_d _), k + 1, by omega, by go_num, by rw [HU.out, HX'.out]; rfl⟩
          case measure => simp [intOf]; omega
         ·go_wp2
          refine wp_region_held_drew (S := (fun v => v.cell? ⟨g, k, none⟩ = some (.int .i64 Z) ∧ v.cell? ⟨wc.heap.size, 1, none⟩ = some (.int .i64 X))) (by kernel_rfl) ?_ (fun hHeld => ?_)
          ·((try dsimp only); go_keep)
          refine wpAnyH_take (i := 0) (v := ?_) (by simp only [List.getElem?_toArray, List.getElem?_cons_succ, List.getElem?_cons_zero]; rfl) (by kernel_rfl) (by kernel_rfl) (by kernel_rfl) (by exact fun _ _ _ h => h) (Or.inl ⟨by rfl, ?_⟩) (by assumption) ?_
          rotate_left 1
          ·(intro wS hSw; (try dsimp only at hSw); go_simp; try (with_reducible rfl))
          try simp only [Act.put, List.setIfInBounds_toArray, List.set_cons_zero, List.set_cons_succ]
          refine wpAnyH_take (i := 1) (v := ?_) (by simp only [List.getElem?_toArray, List.getElem?_cons_succ, List.getElem?_cons_zero]; rfl) (by kernel_rfl) (by kernel_rfl) (by kernel_rfl) (by exact fun _ _ _ h => h) (Or.inl ⟨by rfl, ?_⟩) (by assumption) ?_
          rotate_left 1
          ·(intro wS hSw; (try dsimp only at hSw); go_simp; try (with_reducible rfl))
          try simp only [Act.put, List.setIfInBounds_toArray, List.set_cons_zero, List.set_cons_succ]
          refine wpAnyH_take (i := 2) (v := undef) (by simp only [List.getElem?_toArray, List.getElem?_cons_succ, List.getElem?_cons_zero]; rfl) (by kernel_rfl) (by kernel_rfl) (by kernel_rfl) (by exact fun _ _ _ h => h) (Or.inr ⟨by rfl, rfl⟩) (by assumption) ?_
          try simp only [Act.put, List.setIfInBounds_toArray, List.set_cons_zero, List.set_cons_succ]
          refine wpAnyH_take (i := 3) (v := undef) (by simp only [List.getElem?_toArray, List.getElem?_cons_succ, List.getElem?_cons_zero]; rfl) (by kernel_rfl) (by kernel_rfl) (by kernel_rfl) (by exact fun _ _ _ h => h) (Or.inr ⟨by rfl, rfl⟩) (by assumption) ?_
          try simp only [Act.put, List.setIfInBounds_toArray, List.set_cons_zero, List.set_cons_succ]
          refine wpAnyH_take (i := 4) (v := undef) (by simp only [List.getElem?_toArray, List.getElem?_cons_succ, List.getElem?_cons_zero]; rfl) (by kernel_rfl) (by kernel_rfl) (by kernel_rfl) (by exact fun _ _ _ h => h) (Or.inr ⟨by rfl, rfl⟩) (by assumption) ?_
          try simp only [Act.put, List.setIfInBounds_toArray, List.set_cons_zero, List.set_cons_succ]
          refine wpAnyH_take (i := 5) (v := undef) (by simp only [List.getElem?_toArray, List.getElem?_cons_succ, List.getElem?_cons_zero]; rfl) (by kernel_rfl) (by kernel_rfl) (by kernel_rfl) (by exact fun _ _ _ h => h) (Or.inr ⟨by rfl, rfl⟩) (by assumption) ?_
          try simp only [Act.put, List.setIfInBounds_toArray, List.set_cons_zero, List.set_cons_succ]
          refine wpAnyH_take (i := 6) (v := undef) (by simp only [List.getElem?_toArray, List.getElem?_cons_succ, List.getElem?_cons_zero]; rfl) (by kernel_rfl) (by kernel_rfl) (by kernel_rfl) (by exact fun _ _ _ h => h) (Or.inr ⟨by rfl, rfl⟩) (by assumption) ?_
          try simp only [Act.put, List.setIfInBounds_toArray, List.set_cons_zero, List.set_cons_succ]
          refine wpAnyH_take (i := 7) (v := undef) (by simp only [List.getElem?_toArray, List.getElem?_cons_succ, List.getElem?_cons_zero]; rfl) (by kernel_rfl) (by kernel_rfl) (by kernel_rfl) (by exact fun _ _ _ h => h) (Or.inr ⟨by rfl, rfl⟩) (by assumption) ?_
          try simp only [Act.put, List.setIfInBounds_toArray, List.set_cons_zero, List.set_cons_succ]
          refine wpAnyH_take (i := 8) (v := undef) (by simp only [List.getElem?_toArray, List.getElem?_cons_succ, List.getElem?_cons_zero]; rfl) (by kernel_rfl) (by kernel_rfl) (by kernel_rfl) (by exact fun _ _ _ h => h) (Or.inr ⟨by rfl, rfl⟩) (by assumption) ?_
          try simp only [Act.put, List.setIfInBounds_toArray, List.set_cons_zero, List.set_cons_succ]
          refine wpAnyH_take (i := 9) (v := ?_) (by simp only [List.getElem?_toArray, List.getElem?_cons_succ, List.getElem?_cons_zero]; rfl) (by kernel_rfl) (by kernel_rfl) (by kernel_rfl) (by exact fun _ _ _ h => h) (Or.inl ⟨by rfl, ?_⟩) (by assumption) ?_
          rotate_left 1
          ·(intro wS hSw; (try dsimp only at hSw); go_simp; try (with_reducible rfl))
          try simp only [Act.put, List.setIfInBounds_toArray, List.set_cons_zero, List.set_cons_succ]
          refine wpAnyH_take (i := 10) (v := ?_) (by simp only [List.getElem?_toArray, List.getElem?_cons_succ, List.getElem?_cons_zero]; rfl) (by kernel_rfl) (by kernel_rfl) (by kernel_rfl) (by exact fun _ _ _ h => h) (Or.inl ⟨by rfl, ?_⟩) (by assumption) ?_
          rotate_left 1
          ·(intro wS hSw; (try dsimp only at hSw); go_simp; try (with_reducible rfl))
          try simp only [Act.put, List.setIfInBounds_toArray, List.set_cons_zero, List.set_cons_succ]
          refine wpAnyH_done (by kernel_rfl) ?_ _
          go_wp2
          go_roundw
          case rel => exact ⟨HW.out.next (bel_d _), own_below HOW.out (bel_d _), k + 1, by omega, by go_num, by rw [HU.out]; rfl⟩
          case measure => simp [intOf]; omega
        ·have hkk : k = L.length := by omega
         subst hkk
         rw [List.take_length] at hU
         have HT2 : Hid ((!S || anyR x.d ((c.list.drop (j + 1)).take (i + 1 - (j + 1)))) = U) := by show _ = _; rw [HT1.out, hU]
         clear hU hkl ho
         go_wp2
         go_roundw
         case rel => exact ⟨HW.out, i + 1, by omega, by omega, by go_num, by rw [HT2.out]⟩
         case measure => simp [intOf]; omega
      ·have : i = N := by omega
       subst this
       have HT : Hid ((!S || anyR x.d (c.list.drop (j + 1))) = T) := by
        show _ = _
        rw [← hT]
        congr 2
        rw [List.take_of_length_le]
        rw [List.length_drop, HN.out]
        omega
       clear hT hlt
       cases T
       ·obtain ⟨b0, b1, b2, b3⟩ := HCC.out wr HW.out.c
        go_upto_region 36 with (go_at_call 17; (with_reducible refine (HK2.out _ HW.out.bel).mono ?_); rintro e w7 ⟨r0, n0', t0, r1, n1', t1, r2, n2', t2, pp, qq, rfl, hqN, hown, hb7⟩; have HW7 : Hid (BX W a0 a1 a2 (.slice (some ⟨b, o, none⟩) i q3) w2.heap.size (.slice m0 n0 l0) (.slice m1 n1 l1) (.slice m2 n2 l2) (.slice p j q) wc.heap.size x w7) := HW.out.next hb7; have HO7 : Hid (Own4 wr.heap.size w7 (.slice r0 n0' t0) (.slice r1 n1' t1) (.slice r2 n2' t2) (.slice pp i qq) c) := hown; have HQ : Hid (i ≤ qq) := hqN; obtain ⟨d0, d1, d2, d3, g0, g1, g2, g3⟩ := HW7.out.d4; have cb3 := HW7.out.c3; have HLT : Hid (w2.heap.size < wr.heap.size) := HW.out.d.lt; clear hown hqN)
        obtain ⟨V, p', c', w8, hV, cv1, cv2, hap, cw3, cf3, cw2, ⟨cw0, cw1, cw2'⟩, hcd, hbX⟩ := left_made HW7.out.toBW HO7.out HLT.out hb7.size HROW.out HN.out hq3 hA hNb
        rw [hV]
        have HAP : Hid ((Builtin.append_ #[34, 34] 34 #[.slice pp j qq, .slice (sfromG (some ⟨b, o, none⟩) q3 (j + 1) 7) (i - (j + 1)) (q3 - (j + 1))]).run Try.prog V.drew = .ok (.slice p' (j + (i - (j + 1))) c') w8) := hap
        have HCD : Hid (CdV (w8.setCell ⟨w2.heap.size, 3, none⟩ (.slice p' (j + (i - (j + 1))) c')) (.slice r0 n0' t0) (.slice r1 n1' t1) (.slice r2 n2' t2) (.slice p' (j + (i - (j + 1))) c') ⟨c.sign, c.regs, c.slots, c.list.take j ++ c.list.drop (j + 1)⟩) := hcd
        have HBX : Hid (Below W.heap.size W (w8.setCell ⟨w2.heap.size, 3, none⟩ (.slice p' (j + (i - (j + 1))) c'))) := hbX
        have s1 := (fun w => slice_toG und_L7 size_L7 pp i qq j (by have := HQ.out; omega) w)
        have s2 : ∀ w, (Instr.sliceAt 34 (.slice (some ⟨b, o, none⟩) i q3) (some (.int .i64 ((j : Int) + 1))) none none).run Try.prog w = .ok (.slice (sfromG (some ⟨b, o, none⟩) q3 (j + 1) 7) (i - (j + 1)) (q3 - (j + 1))) w := (fun w => by have := slice_fromG und_L7 size_L7 (some ⟨b, o, none⟩) i q3 (j + 1) (by omega) w; rw [show ((j + 1 : Nat) : Int) = (j : Int) + 1 from by omega] at this; exact this)
        have hWD := HW7.out.hD
        have ne1 : ¬ W.heap.size = w2.heap.size := by omega
        have ne2 : ¬ w2.heap.size = W.heap.size := by omega
        clear hWD hV hap hcd hbX HO7 HW7 HW HQ hb7 d0 d1 d2 d3 g0 g1 g2 g3 cb3 b0 b1 b2 b3 k3
        refine wp_region_held_drew (S := (fun v => v.cell? ⟨W.heap.size, 3, none⟩ = some (.slice (some ⟨b, o, none⟩) i q3))) (by kernel_rfl) ?_ (fun hHeld => ?_)
        ·((try dsimp only); go_keep)
        refine wpAnyH_take (i := 0) (v := ?_) (by simp only [List.getElem?_toArray, List.getElem?_cons_succ, List.getElem?_cons_zero]; rfl) (by kernel_rfl) (by kernel_rfl) (by kernel_rfl) (by exact fun _ _ _ h => h) (Or.inl ⟨by rfl, ?_⟩) (by assumption) ?_
        rotate_left 1
        ·(intro wS hSw; (try dsimp only at hSw); go_simp; try (with_reducible rfl))
        try simp only [Act.put, List.setIfInBounds_toArray, List.set_cons_zero, List.set_cons_succ]
        refine wpAnyH_take (i := 2) (v := ?_) (by simp only [List.getElem?_toArray, List.getElem?_cons_succ, List.getElem?_cons_zero]; rfl) (by kernel_rfl) (by kernel_rfl) (by kernel_rfl) (by exact fun _ _ _ h => h) (Or.inl ⟨by rfl, ?_⟩) (by assumption) ?_
        rotate_left 1
        ·(intro wS hSw; (try dsimp only at hSw); go_simp; try (with_reducible rfl))
        try simp only [Act.put, List.setIfInBounds_toArray, List.set_cons_zero, List.set_cons_succ]
        refine wpAnyH_take (i := 4) (v := ?_) (by simp only [List.getElem?_toArray, List.getElem?_cons_succ, List.getElem?_cons_zero]; rfl) (by kernel_rfl) (by kernel_rfl) (by kernel_rfl) (by exact fun _ _ _ h => h) (Or.inl ⟨by rfl, ?_⟩) (by assumption) ?_
        rotate_left 1
        ·(intro wS hSw; (try dsimp only at hSw); go_simp; try (with_reducible rfl))
        try simp only [Act.put, List.setIfInBounds_toArray, List.set_cons_zero, List.set_cons_succ]
        refine wpAnyH_take (i := 5) (v := ?_) (by simp only [List.getElem?_toArray, List.getElem?_cons_succ, List.getElem?_cons_zero]; rfl) (by kernel_rfl) (by kernel_rfl) (by kernel_rfl) (by exact fun _ _ _ h => h) (Or.inl ⟨by rfl, ?_⟩) (by assumption) ?_
        rotate_left 1
        ·(intro wS hSw; (try dsimp only at hSw); go_simp; try (with_reducible rfl))
        try simp only [Act.put, List.setIfInBounds_toArray, List.set_cons_zero, List.set_cons_succ]
        refine wpAnyH_take (i := 6) (v := ?_) (by simp only [List.getElem?_toArray, List.getElem?_cons_succ, List.getElem?_cons_zero]; rfl) (by kernel_rfl) (by kernel_rfl) (by kernel_rfl) (by exact fun _ _ _ h => h) (Or.inl ⟨by rfl, ?_⟩) (by assumption) ?_
        rotate_left 1
        ·(intro wS hSw; (try dsimp only at hSw); go_simp; try (with_reducible rfl))
        try simp only [Act.put, List.setIfInBounds_toArray, List.set_cons_zero, List.set_cons_succ]
        refine wpAnyH_take (i := 7) (v := ?_) (by simp only [List.getElem?_toArray, List.getElem?_cons_succ, List.getElem?_cons_zero]; rfl) (by kernel_rfl) (by kernel_rfl) (by kernel_rfl) (by exact fun _ _ _ h => h) (Or.inl ⟨by rfl, ?_⟩) (by assumption) ?_
        rotate_left 1
        ·(intro wS hSw; (try dsimp only at hSw); go_simp; try (with_reducible rfl))
        try simp only [Act.put, List.setIfInBounds_toArray, List.set_cons_zero, List.set_cons_succ]
        refine wpAnyH_take (i := 8) (v := ?_) (by simp only [List.getElem?_toArray, List.getElem?_cons_succ, List.getElem?_cons_zero]; rfl) (by kernel_rfl) (by kernel_rfl) (by kernel_rfl) (by exact fun _ _ _ h => h) (Or.inl ⟨by rfl, ?_⟩) (by assumption) ?_
        rotate_left 1
        ·(intro wS hSw; (try dsimp only at hSw); go_simp; try (with_reducible rfl))
        try simp only [Act.put, List.setIfInBounds_toArray, List.set_cons_zero, List.set_cons_succ]
        clear hHeld
        refine wpAnyH_ready (rs := [1]) (by kernel_rfl) (by simp) ?_
        refine AllReadyH.cons (i := 1) (by simp only [List.getElem?_toArray, List.getElem?_cons_succ, List.getElem?_cons_zero]; rfl) (fun K hK => ?_) AllReadyH.nil
        go_simp
        refine hK.out _ _ ?_ (fun hHeld => ?_)
        ·((try dsimp only); go_keep)
        clear hK K
        try simp only [Act.put, List.setIfInBounds_toArray, List.set_cons_zero, List.set_cons_succ]
        refine wpAnyH_take (i := 3) (v := ?_) (by simp only [List.getElem?_toArray, List.getElem?_cons_succ, List.getElem?_cons_zero]; rfl) (by kernel_rfl) (by kernel_rfl) (by kernel_rfl) (by exact fun _ _ _ h => h) (Or.inl ⟨by rfl, ?_⟩) (by assumption) ?_
        rotate_left 1
        ·(intro wS hSw; (try dsimp only at hSw); go_simp; try (with_reducible rfl))
        try simp only [Act.put, List.setIfInBounds_toArray, List.set_cons_zero, List.set_cons_succ]
        clear hHeld
        refine wpAnyH_ready (rs := [9]) (by kernel_rfl) (by simp) ?_
        refine AllReadyH.cons (i := 9) (by simp only [List.getElem?_toArray, List.getElem?_cons_succ, List.getElem?_cons_zero]; rfl) (fun K hK => ?_) AllReadyH.nil
        refine step_app (by rfl) _ _ _ (by rfl) _ _ _ (by rfl) (by rfl) HAP.out ?_
        refine hK.out _ _ ?_ (fun hHeld => ?_)
        ·((try dsimp only); go_keep)
        clear hK K
        try simp only [Act.put, List.setIfInBounds_toArray, List.set_cons_zero, List.set_cons_succ]
        refine wpAnyH_take (i := 10) (v := ?_) (by simp only [List.getElem?_toArray, List.getElem?_cons_succ, List.getElem?_cons_zero]; rfl) (by kernel_rfl) (by kernel_rfl) (by kernel_rfl) (by exact fun _ _ _ h => h) (Or.inl ⟨by rfl, ?_⟩) (by assumption) ?_
        rotate_left 1
        ·(intro wS hSw; (try dsimp only at hSw); go_simp; try (with_reducible rfl))
        try simp only [Act.put, List.setIfInBounds_toArray, List.set_cons_zero, List.set_cons_succ]
        clear hHeld
        refine wpAnyH_ready (rs := [11]) (by kernel_rfl) (by simp) ?_
        refine AllReadyH.cons (i := 11) (by simp only [List.getElem?_toArray, List.getElem?_cons_succ, List.getElem?_cons_zero]; rfl) (fun K hK => ?_) AllReadyH.nil
        go_simp
        refine hK.out _ _ ?_ (fun hHeld => ?_)
        ·((try dsimp only); go_keep)
        clear hK K
        try simp only [Act.put, List.setIfInBounds_toArray, List.set_cons_zero, List.set_cons_succ]
        refine wpAnyH_done (by kernel_rfl) ?_ _
        go_wp2_with (first | (go_at_call 18; (with_reducible refine (HK6.out HT.out _ _ _ _ _ HCD.out).mono ?_); rintro e w9 ⟨P9, rfl, hb9⟩; have HB9 : Hid (Below W.heap.size W w9) := bel HBX.out hb9; clear hb9) | (go_at_call 14; (with_reducible refine (HK7.out _).mono ?_); rintro e w10 ⟨rfl, hb10⟩))
        go_ret
        exact ⟨rfl, bel HB9.out hb10⟩
       ·go_wp2_with (go_at_call 14; (with_reducible refine (HK7.out _).mono ?_); rintro e w7 ⟨rfl, hb7⟩)
        go_ret
        exact ⟨rfl, bel HW.out.bel hb7⟩
end Go.Proofs.Ytkdpchlehoomhaa
namespace Go.Proofs.Ytkdpchlehoomhaa
open Go.RowKit
set_option linter.unusedVariables false
set_option linter.unusedSimpArgs false
set_option maxRecDepth 100000 in
set_option maxHeartbeats 4000000 in
theorem begins_early (a0 a1 a2 : Value) (p3 : Option Addr) (N q3 : Nat) (at_ E P : Int) (hE : E ≠ 0 ∨ N = 0) (W : World)
  (HK1 : Hid (∀ v, Below W.heap.size W v → Calls Try.prog 18 #[.agg #[a0, a1, a2, .slice p3 N q3]] v fun e w' => e = .returned (.tuple #[.int .i64 E, .int .i64 P]) ∧ Below v.heap.size v w'))
  (HK7 : Hid (∀ w, Calls Try.prog 14 #[] w fun e w' => e = .returned (.bool true) ∧ Below w.heap.size w w')) :
  Calls Try.prog 6 #[.agg #[a0, a1, a2, .slice p3 N q3], .int .i64 at_] W fun e W' => e = .returned (.bool true) ∧ Below W.heap.size W W' := by
 by_cases h0 : E = 0
 ·have hN : N = 0 := by rcases hE with h | h; exact absurd h0 h; exact h
  subst h0 hN
  go_enter Try.func6, Try.ntmps6
  go_wp2_with (first | (go_at_call 18; (with_reducible refine (HK1.out _ (bel_alloc _ _)).mono ?_); rintro e w1 ⟨rfl, hb1⟩; have z3 : w1.cell? ⟨W.heap.size, 3, none⟩ = some (.slice p3 0 q3) := kc hb1 (by simp [go_sem])) | (go_at_call 14; (with_reducible refine (HK7.out _).mono ?_); rintro e w2 ⟨rfl, hb2⟩))
  go_ret
  exact ⟨rfl, bel (bel (bel_alloc _ _) hb1) hb2⟩
 ·have q1 : (E == 0) = false := by simpa using h0
  clear h0 hE
  go_enter Try.func6, Try.ntmps6
  go_wp2_with (first | (go_at_call 18; (with_reducible refine (HK1.out _ (bel_alloc _ _)).mono ?_); rintro e w1 ⟨rfl, hb1⟩; have z3 : w1.cell? ⟨W.heap.size, 3, none⟩ = some (.slice p3 N q3) := kc hb1 (by simp [go_sem])) | (go_at_call 14; (with_reducible refine (HK7.out _).mono ?_); rintro e w2 ⟨rfl, hb2⟩))
  go_ret
  exact ⟨rfl, bel (bel (bel_alloc _ _) hb1) hb2⟩
theorem CdOk.part {c : Cd} (h : CdOk c) {l : List Ins} (hl : l.length ≤ c.list.length) (hm : ∀ i ∈ l, i ∈ c.list) : CdOk ⟨c.sign, c.regs, c.slots, l⟩ :=
 ⟨h.signL, h.names, h.regsL, h.slotsL, Nat.le_trans hl h.listL, h.sbits, fun i hi => h.ibits i (hm i hi)⟩
theorem walk_IrBegins (a0 a1 a2 a3 : Value) (c : Cd) (co : CdOk c) (cz : CdSz c) (at_ : Int) (W : World) (cv : CdV W a0 a1 a2 a3 c) (hcap : ∃ p n q, a3 = .slice p n q ∧ n ≤ q) :
  Calls Try.prog 6 #[.agg #[a0, a1, a2, a3], .int .i64 at_] W fun e W' => e = .returned (.bool true) ∧ Below W.heap.size W W' := by
 obtain ⟨p3, q3, rfl, -⟩ := id cv.list
 obtain ⟨p', n', q', e, hq⟩ := hcap
 simp only [Value.slice.injEq] at e
 obtain ⟨rfl, rfl, rfl⟩ := e
 have K1 : ∀ v, Below W.heap.size W v → Calls Try.prog 18 #[.agg #[a0, a1, a2, .slice p3 c.list.length q3]] v fun e w' => e = .returned (.tuple #[.int .i64 (checkC c).1, .int .i64 (checkC c).2]) ∧ Below v.heap.size v w' := fun v hv => check_any _ _ _ _ c co v (cv.below hv)
 by_cases hE : (checkC c).1 ≠ 0 ∨ c.list.length = 0
 ·exact begins_early a0 a1 a2 p3 c.list.length q3 at_ _ _ hE W K1 works_any
 ·have hE0 : (checkC c).1 = 0 := Decidable.byContradiction fun h => hE (.inl h)
  have hN0 : 0 < c.list.length := Nat.pos_of_ne_zero fun h => hE (.inr h)
  have hNi : (0 : Int) < (c.list.length : Int) := by omega
  have hlI := cz.i
  have r1 := Int.tmod_lt_of_pos at_ hNi
  have r2 := Int.lt_tmod_of_pos at_ hNi
  obtain ⟨R, hR⟩ : ∃ R, at_.tmod (c.list.length : Int) = R := ⟨_, rfl⟩
  rw [hR] at r1 r2
  obtain ⟨A, hA⟩ : ∃ A : Nat, A = if R < 0 then (R + (c.list.length : Int)).toNat else R.toNat := ⟨_, rfl⟩
  have hAN : A < c.list.length := by rw [hA]; split <;> omega
  have hRA : (R < 0 ∧ IntKind.i64.wrap (R + (c.list.length : Int)) = (A : Int)) ∨ (0 ≤ R ∧ R = (A : Int)) := by
   by_cases h : R < 0
   ·rw [if_pos h] at hA
    exact .inl ⟨h, by rw [IntKind.wrap_i64]; omega⟩
   ·rw [if_neg h] at hA
    exact .inr ⟨by omega, by omega⟩
  have hmT : ∀ i ∈ c.list.take A, i ∈ c.list := fun i hi => List.mem_of_mem_take hi
  refine begins_main a0 a1 a2 p3 c.list.length q3 c rfl hN0 (by omega) hq at_ R A hAN (by rw [hR, IntKind.wrap_i64]; omega) hR hRA (openN (c.list.take A)) (checkC ⟨c.sign, c.regs, c.slots, c.list.take A⟩).1 (checkC ⟨c.sign, c.regs, c.slots, c.list.take A⟩).2 rfl (setsP c.list[A]) true W cv.list c.list[A] (List.getElem?_eq_getElem hAN) ?_ ?_ ?_ ?_ ?_ ?_ ?_ works_any
  ·intro v hv
   refine (K1 v hv).mono ?_
   rintro e w' ⟨rfl, hb⟩
   exact ⟨(checkC c).2, by rw [hE0], hb⟩
  ·intro v hv
   refine (copied_any _ _ _ _ c cz v (cv.below hv)).mono ?_
   rintro e w' ⟨u0, u1, u2, u3, rfl, -, ho, hb⟩
   obtain ⟨x0, y0, rfl⟩ := own_len ho.sign
   obtain ⟨x1, y1, rfl⟩ := own_len ho.regs
   obtain ⟨x2, y2, rfl⟩ := own_len ho.slots
   obtain ⟨x3, y3, rfl⟩ := own_len ho.list
   exact ⟨_, _, _, _, _, _, _, _, _, _, _, rfl, own_cap ho.list, ho, hb⟩
  ·intro v u0 u1 u2 u3 hc
   exact check_any _ _ _ _ _ (co.part (by rw [List.length_take]; omega) hmT) v hc
  ·show _ ∨ _
   rw [begins_law hE0 (Nat.le_of_lt hAN)]
   by_cases h : openN (c.list.take A) = 0
   ·rw [if_pos h]; exact .inl ⟨h, rfl, rfl⟩
   ·rw [if_neg h]; exact .inr ⟨h, rfl, rfl⟩
  ·intro v
   exact rsets_any c.list[A] v
  ·intro i v
   exact rreads_any i v
  ·intro hf v u0 u1 u2 u3 hc
   rw [Bool.or_eq_false_iff] at hf
   obtain ⟨hf1, hf2⟩ := hf
   have hs : (rowP c.list[A].op).d ≠ 0 := by
    have : setsP c.list[A] = true := by simpa using hf1
    unfold setsP at this
    simpa using this
   have hr : ∀ i ∈ c.list.drop (A + 1), ∀ n ∈ readsP i (rowP i.op), n ≠ c.list[A].d := by
    intro i hi n hn e
    unfold anyR at hf2
    rw [List.any_eq_false] at hf2
    have := hf2 i hi
    exact this (List.any_eq_true.2 ⟨n, hn, by simpa using e⟩)
   have hl := left_law hE0 hAN hs hr
   refine (check_any _ _ _ _ _ (co.part (by rw [List.length_append, List.length_take, List.length_drop]; omega) ?_) v hc).mono ?_
   ·intro i hi
    rcases List.mem_append.1 hi with h | h
    ·exact hmT i h
    ·exact List.mem_of_mem_drop h
   ·rintro e w' ⟨rfl, hb⟩
    exact ⟨_, by rw [hl], hb⟩
end Go.Proofs.Ytkdpchlehoomhaa
