import Derived.Test.YtkdpchlehoomhaaPart14
import Derived.Test.YtkdpchlehoomhaaPart13
import Derived.Test.YtkdpchlehoomhaaPart12
namespace Go.Proofs.Ytkdpchlehoomhaa
open Go.RowKit
set_option linter.unusedVariables false
set_option linter.unusedSimpArgs false
theorem preL_snoc : ∀ (r : List Ty) (a : Nat) (t : Ty), preL a (r ++ [t]) = preL a r ++ [preI t (a + r.length)]
 | [], a, t => by simp [preL]
 | x :: r, a, t => by simp only [List.cons_append, preL, preL_snoc r, List.length_cons]; rw [show a + 1 + r.length = a + (r.length + 1) by omega]
theorem preL_len : ∀ (r : List Ty) (a : Nat), (preL a r).length = r.length
 | [], a => rfl
 | x :: r, a => by simp [preL, preL_len r]
theorem preL_next {c : Cd} {l : List Ins} (h : l = preL 0 (c.regs.take l.length)) (hl : l.length < c.regs.length) : l ++ [preI c.regs[l.length] l.length] = preL 0 (c.regs.take (l.length + 1)) := by
 rw [List.take_succ_eq_append_getElem hl, preL_snoc, ← h, List.length_take, Nat.min_eq_left (Nat.le_of_lt hl), Nat.zero_add]
theorem PW.start {w w1 : World} {v0 v1 v2 v3 u0 u1 u2 u3 : Value} {c : Cd} (ho : Own4 (w.heap.size + 1 + 1) w1 u0 u1 u2 u3 c) (hb : Below (w.heap.size + 1 + 1) ((w.alloc (.cells #[v0, v1, v2, v3] 36)).alloc (.cells #[.slice none 0 0, .slice none 0 0, .slice none 0 0, .slice none 0 0] 36)) w1) :
  PW w v0 v1 v2 v3 w1.heap.size u0 u1 u2 c (w1.heap.size + 1) none 0 [] (w1.alloc (.cells #[u0, u1, u2, .slice none 0 0] 36)) := by
 have C0 := CW.start w v0 v1 v2 v3
 have q : ∀ (u : World) (x0 x1 x2 x3 : Value), (u.alloc (.cells #[x0, x1, x2, x3] 36)).rowIs u.heap.size 36 4 (f4 x0 x1 x2 x3) := fun u x0 x1 x2 x3 => World.rowIs_alloc u #[x0, x1, x2, x3] 36 _ (fun i hi => by
  have hi' : i < 4 := hi
  obtain rfl | rfl | rfl | rfl : i = 0 ∨ i = 1 ∨ i = 2 ∨ i = 3 := by omega
  all_goals rfl)
 have h1 := q (w.alloc (.cells #[v0, v1, v2, v3] 36)) (.slice none 0 0) (.slice none 0 0) (.slice none 0 0) (.slice none 0 0)
 have s1 : (w.alloc (.cells #[v0, v1, v2, v3] 36)).heap.size = w.heap.size + 1 := by simp
 have s2 : ((w.alloc (.cells #[v0, v1, v2, v3] 36)).alloc (.cells #[.slice none 0 0, .slice none 0 0, .slice none 0 0, .slice none 0 0] 36)).heap.size = w.heap.size + 1 + 1 := by simp
 rw [s1] at h1
 have hc : CellsAt ((w.alloc (.cells #[v0, v1, v2, v3] 36)).alloc (.cells #[.slice none 0 0, .slice none 0 0, .slice none 0 0, .slice none 0 0] 36)) w.heap.size 0 [v0, v1, v2, v3] := by
  intro j hj
  have hj' : j < 4 := hj
  obtain rfl | rfl | rfl | rfl : j = 0 ∨ j = 1 ∨ j = 2 ∨ j = 3 := by omega
  all_goals simp [go_sem]
 have hsz := hb.size
 rw [s2] at hsz
 have hb' : Below ((w.alloc (.cells #[v0, v1, v2, v3] 36)).alloc (.cells #[.slice none 0 0, .slice none 0 0, .slice none 0 0, .slice none 0 0] 36)).heap.size ((w.alloc (.cells #[v0, v1, v2, v3] 36)).alloc (.cells #[.slice none 0 0, .slice none 0 0, .slice none 0 0, .slice none 0 0] 36)) w1 := by rw [s2]; exact hb
 have k := bel_alloc w1 (.cells #[u0, u1, u2, .slice none 0 0] 36)
 refine ⟨Go.Proofs.Ytkdpchlehoomhaa.bel (Go.Proofs.Ytkdpchlehoomhaa.bel (Go.Proofs.Ytkdpchlehoomhaa.bel (bel_alloc _ _) (bel_alloc _ _)) hb') k, (hc.below hb').below k, (h1.of_block (hb'.block _ h1.lt)).alloc _, q w1 u0 u1 u2 (.slice none 0 0), own_below ho.sign k, own_below ho.regs k, own_below ho.slots k, World.ownsRow_nil _ _ _ 7, fun b hb => ?_, fun b hb => ?_, fun b hb => ?_, by omega, by omega, by simp⟩
 ·have := (ho.sign.lt b hb).2; omega
 ·have := (ho.regs.lt b hb).2; omega
 ·have := (ho.slots.lt b hb).2; omega
set_option maxRecDepth 100000 in
set_option maxHeartbeats 4000000 in
theorem pre_any (v0 v1 v2 v3 : Value) (c : Cd) (hz : CdSz c) (hz2 : (c.regs.length + c.list.length) * 56 ≤ 140737488351232) (w : World) (hv : CdV w v0 v1 v2 v3 c) :
  Calls Try.prog 19 #[.agg #[v0, v1, v2, v3]] w fun e w' => ∃ u0 u1 u2 u3, e = .returned (.agg #[u0, u1, u2, u3]) ∧ CdV w' u0 u1 u2 u3 (preC c) ∧ Below w.heap.size w w' := by
 obtain ⟨p1, q1, rfl, -⟩ := id hv.regs
 obtain ⟨p3, q3, rfl, -⟩ := id hv.list
 have HREG : Hid (RowG 2 tyC w (.slice p1 c.regs.length q1) c.regs) := hv.regs
 have HLIST : Hid (RowG 7 inC w (.slice p3 c.list.length q3) c.list) := hv.list
 have HK : Hid (∀ v E, v.heap.size = E → Below w.heap.size w v → Calls Try.prog 17 #[.agg #[v0, .slice p1 c.regs.length q1, v2, .slice p3 c.list.length q3]] v fun e w' => ∃ x0 m0 y0 x1 m1 y1 x2 m2 y2 u3, e = .returned (.agg #[.slice x0 m0 y0, .slice x1 m1 y1, .slice x2 m2 y2, u3]) ∧ Own4 E w' (.slice x0 m0 y0) (.slice x1 m1 y1) (.slice x2 m2 y2) u3 c ∧ Below E v w') := fun v E hE hb => by
  subst hE
  refine (copied_any _ _ _ _ c hz v (hv.below hb)).mono ?_
  rintro e w' ⟨u0, u1, u2, u3, rfl, -, ho, hb⟩
  obtain ⟨x0, y0, rfl⟩ := own_len ho.sign
  obtain ⟨x1, y1, rfl⟩ := own_len ho.regs
  obtain ⟨x2, y2, rfl⟩ := own_len ho.slots
  exact ⟨_, _, _, _, _, _, _, _, _, _, rfl, ho, hb⟩
 clear hv hz
 go_enter Try.func19, Try.ntmps19
 go_wp2_with (go_at_call 17; (with_reducible refine (HK.out _ (w.heap.size + 1 + 1) (by simp) (bel (bel_alloc _ _) (bel_alloc _ _))).mono ?_); rintro e w1 ⟨x0, m0, y0, x1, m1, y1, x2, m2, y2, u3, rfl, ho1, hb1⟩; obtain ⟨x3, y3, rfl⟩ := own_len ho1.list; have HO1 : Hid (Own4 (w.heap.size + 1 + 1) w1 (.slice x0 m0 y0) (.slice x1 m1 y1) (.slice x2 m2 y2) (.slice x3 c.list.length y3) c) := ho1; have HB1 : Hid (Below (w.heap.size + 1 + 1) ((w.alloc (.cells #[v0, .slice p1 c.regs.length q1, v2, .slice p3 c.list.length q3] 36)).alloc (.cells #[.slice none 0 0, .slice none 0 0, .slice none 0 0, .slice none 0 0] 36)) w1) := hb1; clear ho1 hb1)
 have HP0 : Hid (PW w v0 (.slice p1 c.regs.length q1) v2 (.slice p3 c.list.length q3) w1.heap.size (.slice x0 m0 y0) (.slice x1 m1 y1) (.slice x2 m2 y2) c (w1.heap.size + 1) none 0 [] (w1.alloc (.cells #[.slice x0 m0 y0, .slice x1 m1 y1, .slice x2 m2 y2, .slice none 0 0] 36))) := PW.start HO1.out HB1.out
 clear HO1 HB1
 go_loopw [4] (fun iv wr => ∃ (l : List Ins) (p : Option Addr) (q : Nat), l = preL 0 (c.regs.take l.length) ∧ l.length ≤ c.regs.length ∧ iv = .int .i64 (l.length : Int) ∧ PW w v0 (.slice p1 c.regs.length q1) v2 (.slice p3 c.list.length q3) w1.heap.size (.slice x0 m0 y0) (.slice x1 m1 y1) (.slice x2 m2 y2) c (w1.heap.size + 1) p q l wr) (fun iv _ => c.regs.length - (intOf iv).toNat)
 case atStart => exact ⟨[], none, 0, rfl, Nat.zero_le _, rfl, HP0.out⟩
 case round =>
  obtain ⟨l, p, q, hl, hle, rfl, hp⟩ := hrel
  have HL : Hid (l = preL 0 (c.regs.take l.length)) := hl
  have HP : Hid (PW w v0 (.slice p1 c.regs.length q1) v2 (.slice p3 c.list.length q3) w1.heap.size (.slice x0 m0 y0) (.slice x1 m1 y1) (.slice x2 m2 y2) c (w1.heap.size + 1) p q l wr) := hp
  clear hl HP0
  have c1 := hp.cc.at 1 rfl
  have c3 := hp.cc.at 3 rfl
  rw [Nat.zero_add] at c1 c3
  have d3 : wr.cell? ⟨w1.heap.size, 3, none⟩ = some (.slice p l.length q) := hp.d.cell (i := 3) (by omega)
  have g3 := hp.d.frozen 3
  by_cases hll : l.length < c.regs.length
  ·obtain ⟨b, o, rfl, hx⟩ := HREG.out.at hll
   have hx' := hx.below hp.bel
   have z0 := hx'.at 0 rfl
   rw [Nat.add_zero] at z0
   clear hx hx' hp
   have i1 : (0 : Int) ≤ (l.length : Int) := by omega
   have i2 : (l.length : Int) < (c.regs.length : Int) := by omega
   have wi : IntKind.i64.wrap ((l.length : Int) + 1) = ((l.length + 1 : Nat) : Int) := by rw [IntKind.wrap_i64]; omega
   obtain ⟨K, hKK⟩ : ∃ K, c.regs[l.length].kind = K := ⟨_, rfl⟩
   rw [hKK] at z0
   by_cases h2 : K = 2
   ·have t2 : (K == 2) = true := by simpa using h2
    have HPI : Hid (preI c.regs[l.length] l.length = ⟨2, (l.length : Int), 0, 0, 0, 0, 0⟩) := (by show _ = _; unfold preI; rw [hKK]; first | rw [if_pos (by assumption)] | rw [if_neg (by assumption), if_pos (by assumption)] | rw [if_neg (by assumption), if_neg (by assumption)])
    obtain ⟨p', c', w8, hap, e1, e2, hpw8⟩ := (HP.out.next (bel_alloc wr (.cells #[.int .i64 2, .int .i64 (l.length : Int), .int .i64 0, .int .i64 0, .int .i64 0, .int .i64 0, .int .u32 0] 25))).push (m := [⟨2, (l.length : Int), 0, 0, 0, 0, 0⟩]) (row_one wr ⟨2, (l.length : Int), 0, 0, 0, 0, 0⟩) (by simp only [List.length_cons, List.length_nil]; omega)
    have HAP : Hid ((Builtin.append_ #[34, 34] 34 #[.slice p l.length q, .slice (some ⟨wr.heap.size, 0, none⟩) 1 1]).run Try.prog (wr.alloc (.cells #[.int .i64 2, .int .i64 (l.length : Int), .int .i64 0, .int .i64 0, .int .i64 0, .int .i64 0, .int .u32 0] 25)) = .ok (.slice p' (l.length + 1) c') w8) := hap
    have HP8 : Hid (PW w v0 (.slice (some ⟨b, o, none⟩) c.regs.length q1) v2 (.slice p3 c.list.length q3) w1.heap.size (.slice x0 m0 y0) (.slice x1 m1 y1) (.slice x2 m2 y2) c (w1.heap.size + 1) p' c' (l ++ [⟨2, (l.length : Int), 0, 0, 0, 0, 0⟩]) (w8.setCell ⟨w1.heap.size, 3, none⟩ (.slice p' (l.length + 1) c'))) := hpw8
    clear hap hpw8 hKK
    go_wp2_with (at_builtin; refine wpList_app (by rfl) _ _ _ (by rfl) _ _ _ (by rfl) (by rfl) HAP.out ?_)
    go_roundw
    case rel => exact ⟨l ++ [⟨2, (l.length : Int), 0, 0, 0, 0, 0⟩], p', c', by rw [List.length_append]; show _ = preL 0 (c.regs.take (l.length + 1)); rw [← HPI.out]; exact preL_next HL.out hll, by rw [List.length_append]; show l.length + 1 ≤ _; omega, by rw [List.length_append]; show _ = Value.int _ ((l.length + 1 : Nat) : Int); go_num, HP8.out⟩
    case measure => simp [intOf]; omega
   ·have t2 : (K == 2) = false := by simpa using h2
    by_cases h3 : K = 3
    ·have t3 : (K == 3) = true := by simpa using h3
     have HPI : Hid (preI c.regs[l.length] l.length = ⟨29, (l.length : Int), 0, 0, 0, 0, 0⟩) := (by show _ = _; unfold preI; rw [hKK]; first | rw [if_pos (by assumption)] | rw [if_neg (by assumption), if_pos (by assumption)] | rw [if_neg (by assumption), if_neg (by assumption)])
     obtain ⟨p', c', w8, hap, e1, e2, hpw8⟩ := (HP.out.next (bel_alloc wr (.cells #[.int .i64 29, .int .i64 (l.length : Int), .int .i64 0, .int .i64 0, .int .i64 0, .int .i64 0, .int .u32 0] 25))).push (m := [⟨29, (l.length : Int), 0, 0, 0, 0, 0⟩]) (row_one wr ⟨29, (l.length : Int), 0, 0, 0, 0, 0⟩) (by simp only [List.length_cons, List.length_nil]; omega)
     have HAP : Hid ((Builtin.append_ #[34, 34] 34 #[.slice p l.length q, .slice (some ⟨wr.heap.size, 0, none⟩) 1 1]).run Try.prog (wr.alloc (.cells #[.int .i64 29, .int .i64 (l.length : Int), .int .i64 0, .int .i64 0, .int .i64 0, .int .i64 0, .int .u32 0] 25)) = .ok (.slice p' (l.length + 1) c') w8) := hap
     have HP8 : Hid (PW w v0 (.slice (some ⟨b, o, none⟩) c.regs.length q1) v2 (.slice p3 c.list.length q3) w1.heap.size (.slice x0 m0 y0) (.slice x1 m1 y1) (.slice x2 m2 y2) c (w1.heap.size + 1) p' c' (l ++ [⟨29, (l.length : Int), 0, 0, 0, 0, 0⟩]) (w8.setCell ⟨w1.heap.size, 3, none⟩ (.slice p' (l.length + 1) c'))) := hpw8
     clear hap hpw8 hKK
     go_wp2_with (at_builtin; refine wpList_app (by rfl) _ _ _ (by rfl) _ _ _ (by rfl) (by rfl) HAP.out ?_)
     go_roundw
     case rel => exact ⟨l ++ [⟨29, (l.length : Int), 0, 0, 0, 0, 0⟩], p', c', by rw [List.length_append]; show _ = preL 0 (c.regs.take (l.length + 1)); rw [← HPI.out]; exact preL_next HL.out hll, by rw [List.length_append]; show l.length + 1 ≤ _; omega, by rw [List.length_append]; show _ = Value.int _ ((l.length + 1 : Nat) : Int); go_num, HP8.out⟩
     case measure => simp [intOf]; omega
    ·have t3 : (K == 3) = false := by simpa using h3
     have HPI : Hid (preI c.regs[l.length] l.length = ⟨1, (l.length : Int), 0, 0, 0, 0, 0⟩) := (by show _ = _; unfold preI; rw [hKK]; first | rw [if_pos (by assumption)] | rw [if_neg (by assumption), if_pos (by assumption)] | rw [if_neg (by assumption), if_neg (by assumption)])
     obtain ⟨p', c', w8, hap, e1, e2, hpw8⟩ := (HP.out.next (bel_alloc wr (.cells #[.int .i64 1, .int .i64 (l.length : Int), .int .i64 0, .int .i64 0, .int .i64 0, .int .i64 0, .int .u32 0] 25))).push (m := [⟨1, (l.length : Int), 0, 0, 0, 0, 0⟩]) (row_one wr ⟨1, (l.length : Int), 0, 0, 0, 0, 0⟩) (by simp only [List.length_cons, List.length_nil]; omega)
     have HAP : Hid ((Builtin.append_ #[34, 34] 34 #[.slice p l.length q, .slice (some ⟨wr.heap.size, 0, none⟩) 1 1]).run Try.prog (wr.alloc (.cells #[.int .i64 1, .int .i64 (l.length : Int), .int .i64 0, .int .i64 0, .int .i64 0, .int .i64 0, .int .u32 0] 25)) = .ok (.slice p' (l.length + 1) c') w8) := hap
     have HP8 : Hid (PW w v0 (.slice (some ⟨b, o, none⟩) c.regs.length q1) v2 (.slice p3 c.list.length q3) w1.heap.size (.slice x0 m0 y0) (.slice x1 m1 y1) (.slice x2 m2 y2) c (w1.heap.size + 1) p' c' (l ++ [⟨1, (l.length : Int), 0, 0, 0, 0, 0⟩]) (w8.setCell ⟨w1.heap.size, 3, none⟩ (.slice p' (l.length + 1) c'))) := hpw8
     clear hap hpw8 hKK
     go_wp2_with (at_builtin; refine wpList_app (by rfl) _ _ _ (by rfl) _ _ _ (by rfl) (by rfl) HAP.out ?_)
     go_roundw
     case rel => exact ⟨l ++ [⟨1, (l.length : Int), 0, 0, 0, 0, 0⟩], p', c', by rw [List.length_append]; show _ = preL 0 (c.regs.take (l.length + 1)); rw [← HPI.out]; exact preL_next HL.out hll, by rw [List.length_append]; show l.length + 1 ≤ _; omega, by rw [List.length_append]; show _ = Value.int _ ((l.length + 1 : Nat) : Int); go_num, HP8.out⟩
     case measure => simp [intOf]; omega
  ·have heq : l.length = c.regs.length := by omega
   have HE : Hid (l ++ c.list = (preC c).list) := by
    show _ = preL 0 c.regs ++ c.list
    have := HL.out
    rw [heq, List.take_length] at this
    rw [← this]
   obtain ⟨p', c', w8, hap, e1, e2, hpw8⟩ := hp.push (HLIST.out.below hp.bel) (by omega)
   have HAP : Hid ((Builtin.append_ #[34, 34] 34 #[.slice p l.length q, .slice p3 c.list.length q3]).run Try.prog wr = .ok (.slice p' (l.length + c.list.length) c') w8) := hap
   obtain ⟨V, hV⟩ : ∃ V, w8.setCell ⟨w1.heap.size, 3, none⟩ (.slice p' (l.length + c.list.length) c') = V := ⟨_, rfl⟩
   rw [hV] at hpw8
   have HV : Hid (w8.setCell ⟨w1.heap.size, 3, none⟩ (.slice p' (l.length + c.list.length) c') = V) := hV
   have HF := hpw8.done
   rw [List.length_append] at HF
   have HF' : Hid _ := HF
   have m0' : V.cell? ⟨w1.heap.size, 0, none⟩ = some (.slice x0 m0 y0) := hpw8.d.cell (i := 0) (by omega)
   have m1' : V.cell? ⟨w1.heap.size, 1, none⟩ = some (.slice x1 m1 y1) := hpw8.d.cell (i := 1) (by omega)
   have m2' : V.cell? ⟨w1.heap.size, 2, none⟩ = some (.slice x2 m2 y2) := hpw8.d.cell (i := 2) (by omega)
   have m3' : V.cell? ⟨w1.heap.size, 3, none⟩ = some (.slice p' (l.length + c.list.length) c') := by rw [← List.length_append]; exact hpw8.d.cell (i := 3) (by omega)
   have k0 : V.cell? ⟨w.heap.size + 1, 0, none⟩ = some (.slice none 0 0) := hpw8.r.cell (i := 0) (by omega)
   have k1 : V.cell? ⟨w.heap.size + 1, 1, none⟩ = some (.slice none 0 0) := hpw8.r.cell (i := 1) (by omega)
   have k2 : V.cell? ⟨w.heap.size + 1, 2, none⟩ = some (.slice none 0 0) := hpw8.r.cell (i := 2) (by omega)
   have k3 : V.cell? ⟨w.heap.size + 1, 3, none⟩ = some (.slice none 0 0) := hpw8.r.cell (i := 3) (by omega)
   have f0 := hpw8.r.frozen 0
   have f1 := hpw8.r.frozen 1
   have f2 := hpw8.r.frozen 2
   have f3 := hpw8.r.frozen 3
   have hnl : ¬ (l.length : Int) < (c.regs.length : Int) := by omega
   clear hap hV HF hp hpw8 hle hll heq
   go_upto_region 14 with (at_builtin; refine wpList_app (by rfl) _ _ _ (by rfl) _ _ _ (by rfl) (by rfl) HAP.out ?_)
   rw [HV.out]
   go_wp2
   refine bodyPost_ret (by simp [results, Try.results19, go_sem, *]; try rfl) rfl ?_
   refine ⟨_, _, _, _, rfl, ?_, HF'.out.2⟩
   have := HF'.out.1
   rw [HE.out] at this
   exact this
end Go.Proofs.Ytkdpchlehoomhaa
namespace Go.Proofs.Ytkdpchlehoomhaa
open Go.RowKit
set_option linter.unusedVariables false
set_option linter.unusedSimpArgs false
def setB (M : Nat) (X : List Nat) : List Value := (List.range M).map fun j => .bool (decide (j ∈ X))
theorem setB_len (M : Nat) (X : List Nat) : (setB M X).length = M := by simp [setB]
theorem setB_at {M : Nat} {X : List Nat} {j : Nat} (h : j < M) : (setB M X)[j]? = some (.bool (decide (j ∈ X))) := by
 unfold setB
 rw [List.getElem?_map, List.getElem?_range h]
 rfl
theorem setB_nil (M : Nat) : setB M [] = List.replicate M (.bool false) := by
 apply List.ext_getElem?
 intro j
 by_cases h : j < M
 ·rw [setB_at h, List.getElem?_replicate, if_pos h]; simp
 ·rw [List.getElem?_eq_none (by rw [setB_len]; omega), List.getElem?_eq_none (by simp; omega)]
theorem setB_ins {M : Nat} {X : List Nat} {i : Ins} (hd : (rowP i.op).d ≠ 0) (hl : i.d.toNat < M) : (setB M X).set i.d.toNat (.bool true) = setB M (insP X i) := by
 apply List.ext_getElem?
 intro j
 by_cases h : j < M
 ·rw [setB_at h, List.getElem?_set]
  by_cases e : i.d.toNat = j
  ·rw [if_pos e, if_pos (by rw [setB_len]; omega)]
   have : j ∈ insP X i := ins_mem.2 (.inr ⟨hd, e.symm⟩)
   simp [this]
  ·rw [if_neg e, setB_at h]
   have : j ∈ insP X i ↔ j ∈ X := by
    rw [ins_mem]
    exact ⟨fun q => q.resolve_right fun q => e q.2.symm, .inl⟩
   simp [this]
 ·rw [List.getElem?_eq_none (by rw [List.length_set, setB_len]; omega), List.getElem?_eq_none (by rw [setB_len]; omega)]
theorem setB_keep {M : Nat} {X : List Nat} {i : Ins} (hd : (rowP i.op).d = 0) : insP X i = X := by unfold insP; rw [if_neg (fun q => q.1 hd)]
theorem app_bool {B : Nat} {V : World} {p : Option Addr} {n q : Nat} {xs : List Value} (h : V.ownsRow B 4 1 (.slice p n q) n xs) (hB : B ≤ V.heap.size) (hn : n ≤ 140737488351232) :
  ∃ g c' w', (Builtin.append_ #[72, 72] 72 #[.slice p n q, .slice (some ⟨V.heap.size, 0, none⟩) 1 1]).run Try.prog (V.alloc (.cells #[.bool false] 4)) = .ok (.slice (some ⟨g, 0, none⟩) (n + 1) c') w' ∧ Below B V w' ∧ w'.ownsRow B 4 1 (.slice (some ⟨g, 0, none⟩) (n + 1) c') (n + 1) (xs ++ [.bool false]) := by
 obtain ⟨i0, hi0, hz0, hz1, hz2⟩ := info_parts info_Bool
 have hb0 : Below V.heap.size V (V.alloc (.cells #[.bool false] 4)) := bel_alloc _ _
 have hsz : (V.alloc (.cells #[.bool false] 4)).heap.size = V.heap.size + 1 := by simp
 have h0 := own_below h hb0
 obtain ⟨g, cap, w3, hr, hown, hgrow, hat, hlt⟩ := run_append_lies (P := Try.prog) (V.alloc (.cells #[.bool false] 4)) 72 72 B 4 i0 _ 1 1 Try.underlying72 hi0 hz0 hz1 hz2 rfl (by decide) (.slice p n q) n xs h0 ⟨V.heap.size, 0, none⟩ 1 1 [.bool false] rfl
  (World.news_of_block (cs := #[.bool false]) (t := 4) (fr := (0, 0)) (heap_alloc_new V _)) (by simp [Value.oneCell']) (by decide) (by unfold maxLen; omega) (by omega) (by simp; omega) _ rfl
 exact ⟨g, cap, w3, hr, (hb0.mono hB).grown hgrow (by omega) (fun q e => (h0.lt q e).1), hown⟩
theorem stands_fit {c : Cd} : ∀ {l : List Ins} {s : Wk}, standsP c s l = true → ∀ i ∈ l, fitsC c i (rowP i.op) = true
 | [], s, _, i, hi => absurd hi (by simp)
 | x :: l, s, h, i, hi => by
  simp only [standsP, Bool.and_eq_true] at h
  rcases List.mem_cons.1 hi with rfl | hi
  ·exact (stand_open' h.1).1
  ·exact stands_fit h.2 i hi
theorem whens_app (l m : List Ins) : whensP (l ++ m) = whensP l + whensP m := by unfold whensP; rw [List.filter_append, List.length_append]
theorem whens_next {l : List Ins} {j : Nat} (h : j < l.length) : whensP (l.take (j + 1)) = whensP (l.take j) + (if l[j].op = 34 then 1 else 0) := by
 rw [List.take_succ_eq_append_getElem h, whens_app, whens_cons]
 rfl
theorem whens_le {l : List Ins} (j : Nat) : whensP (l.take j) ≤ whensP l := by
 conv => rhs; rw [← List.take_append_drop j l, whens_app]
 omega
end Go.Proofs.Ytkdpchlehoomhaa
namespace Go.Proofs.Ytkdpchlehoomhaa
open Go.RowKit
set_option linter.unusedVariables false
set_option linter.unusedSimpArgs false
structure YW (w : World) (v0 v1 v2 v3 : Value) (M : Nat) (sv : Value) (X : List Nat) (v : World) : Prop where
 bel : Below w.heap.size w v
 cc : CellsAt v w.heap.size 0 [v0, v1, v2, v3]
 own : v.ownsRow (w.heap.size + 1) 4 1 sv M (setB M X)
theorem YW.next {w : World} {v0 v1 v2 v3 : Value} {M : Nat} {sv : Value} {X : List Nat} {v v' : World} (h : YW w v0 v1 v2 v3 M sv X v) (k : Below v.heap.size v v') : YW w v0 v1 v2 v3 M sv X v' :=
 ⟨Go.Proofs.Ytkdpchlehoomhaa.bel h.bel k, h.cc.below k, own_below h.own k⟩
theorem YW.at {w : World} {v0 v1 v2 v3 : Value} {M : Nat} {g q : Nat} {X : List Nat} {v : World} (h : YW w v0 v1 v2 v3 M (.slice (some ⟨g, 0, none⟩) M q) X v) {d : Nat} (hd : d < M) : v.cell? ⟨g, d, none⟩ = some (.bool (decide (d ∈ X))) ∧ v.frozen? ⟨g, d, none⟩ = false :=
 ⟨by rw [h.own.cellAt d (by omega), setB_at hd], h.own.frozenAt d⟩
theorem YW.put {w : World} {v0 v1 v2 v3 : Value} {M : Nat} {g q : Nat} {X : List Nat} {v : World} {i : Ins} (h : YW w v0 v1 v2 v3 M (.slice (some ⟨g, 0, none⟩) M q) X v) (hd : (rowP i.op).d ≠ 0) (hl : i.d.toNat < M) : YW w v0 v1 v2 v3 M (.slice (some ⟨g, 0, none⟩) M q) (insP X i) (v.setCell ⟨g, i.d.toNat, none⟩ (.bool true)) := by
 have hg := (h.own.lt g rfl).1
 refine ⟨h.bel.setCell (by show w.heap.size ≤ g; omega) _, h.cc.of_block (Below.heap_setCell _ _ _ _ (by show w.heap.size ≠ g; omega)), ?_⟩
 rw [← setB_ins hd hl]
 exact (h.own.stored _ _).1
set_option maxRecDepth 1000000 in
theorem bit_and : ∀ ch : Fin 1024, ∀ n : Fin 11, bits BinOp.and IntKind.i64 ((ch.val : Int) / 2 ^ n.val) 1 = bif ch.val.testBit n.val then 1 else 0 := by decide +kernel
set_option maxRecDepth 100000 in
set_option maxHeartbeats 8000000 in
theorem way_any (v0 v1 v2 v3 : Value) (c : Cd) (co : CdOk c) (ch : Nat) (hch : ch < 1024) (hst : standsP c ⟨[], []⟩ c.list = true) (hwh : whensP c.list ≤ 10) (A : Bool) (hA : wayP (fun m => ch.testBit m) [] 0 0 c.list = A) (w : World) (hv : CdV w v0 v1 v2 v3 c) :
  Calls Try.prog 20 #[.agg #[v0, v1, v2, v3], .int .i64 (ch : Int)] w fun e w' => e = .returned (.bool A) ∧ Below w.heap.size w w' := by
 obtain ⟨p1, q1, rfl, -⟩ := id hv.regs
 obtain ⟨p3, q3, rfl, -⟩ := id hv.list
 have HLIST : Hid (RowG 7 inC w (.slice p3 c.list.length q3) c.list) := hv.list
 have HFIT : Hid (∀ i ∈ c.list, fitsC c i (rowP i.op) = true) := stands_fit hst
 have HWH : Hid (whensP c.list ≤ 10) := hwh
 have HA : Hid (wayP (fun m => ch.testBit m) [] 0 0 c.list = A) := hA
 have hM := co.regsL
 have hL := co.listL
 obtain ⟨M, hMM⟩ : ∃ M, c.regs.length = M := ⟨_, rfl⟩
 have HMM : Hid (c.regs.length = M) := hMM
 obtain ⟨N, hNN⟩ : ∃ N, c.list.length = N := ⟨_, rfl⟩
 have HNN : Hid (c.list.length = N) := hNN
 rw [hMM] at hM ⊢
 rw [hNN] at hL HLIST ⊢
 have HKR : Hid (∀ (i : Ins) v, Calls Try.prog 9 #[.agg #[.int .i64 i.op, .int .i64 i.d, .int .i64 i.a, .int .i64 i.b, .int .i64 i.c, .int .i64 i.n, .int .u32 i.bits]] v fun e w' => ∃ u, e = .returned u ∧ w'.ownsRow v.heap.size 3 1 u (readsP i (rowP i.op)).length (i64s (readsP i (rowP i.op))) ∧ Below v.heap.size v w') := rreads_any
 have HKS : Hid (∀ (i : Ins) v, Calls Try.prog 11 #[.agg #[.int .i64 i.op, .int .i64 i.d, .int .i64 i.a, .int .i64 i.b, .int .i64 i.c, .int .i64 i.n, .int .u32 i.bits]] v fun e w' => e = .returned (.bool (setsP i)) ∧ Below v.heap.size v w') := rsets_any
 have HC0 : Hid (CellsAt (w.alloc (.cells #[v0, .slice p1 M q1, v2, .slice p3 N q3] 36)) w.heap.size 0 [v0, .slice p1 M q1, v2, .slice p3 N q3]) := by
  intro j hj
  have hj' : j < 4 := hj
  obtain rfl | rfl | rfl | rfl : j = 0 ∨ j = 1 ∨ j = 2 ∨ j = 3 := by omega
  all_goals simp [go_sem]
 clear hv hst hwh hA hMM hNN co
 go_enter Try.func20, Try.ntmps20
 go_wp2
 go_loopw [5, 6] (fun sv iv wr => ∃ (k : Nat) (p : Option Addr) (q : Nat), k ≤ M ∧ iv = .int .i64 (k : Int) ∧ sv = .slice p k q ∧ w.heap.size + 1 ≤ wr.heap.size ∧ YW w v0 (.slice p1 M q1) v2 (.slice p3 N q3) k (.slice p k q) [] wr) (fun _ iv _ => M - (intOf iv).toNat)
 case atStart => exact ⟨0, none, 0, Nat.zero_le _, rfl, rfl, by simp, bel_alloc _ _, HC0.out, World.ownsRow_nil _ _ _ 1⟩
 case round =>
  obtain ⟨k, p, q, hk, rfl, rfl, hsz, hy⟩ := hrel
  have c1 := hy.cc.at 1 rfl
  have c3 := hy.cc.at 3 rfl
  rw [Nat.zero_add] at c1 c3
  by_cases hkl : k < M
  ·obtain ⟨g, c', w8, hap, hb8, ho8⟩ := app_bool hy.own hsz (by omega)
   have HAP : Hid ((Builtin.append_ #[72, 72] 72 #[.slice p k q, .slice (some ⟨wr.heap.size, 0, none⟩) 1 1]).run Try.prog (wr.alloc (.cells #[.bool false] 4)) = .ok (.slice (some ⟨g, 0, none⟩) (k + 1) c') w8) := hap
   have HY8 : Hid (w.heap.size + 1 ≤ w8.heap.size ∧ YW w v0 (.slice p1 M q1) v2 (.slice p3 N q3) (k + 1) (.slice (some ⟨g, 0, none⟩) (k + 1) c') [] w8) := by
    refine ⟨Nat.le_trans hsz hb8.size, hy.bel.trans (hb8.mono (by omega)), hy.cc.of_block (hb8.block _ (by omega)), ?_⟩
    rw [setB_nil, List.replicate_succ', ← setB_nil]
    exact ho8
   have i2 : (k : Int) < (M : Int) := by omega
   have wi : IntKind.i64.wrap ((k : Int) + 1) = ((k + 1 : Nat) : Int) := by rw [IntKind.wrap_i64]; omega
   clear hap hb8 ho8 hy
   go_wp2_with (at_builtin; refine wpList_app (by rfl) _ _ _ (by rfl) _ _ _ (by rfl) (by rfl) HAP.out ?_)
   go_roundw
   case rel => exact ⟨k + 1, _, _, by omega, by go_num, rfl, HY8.out⟩
   case measure => simp [intOf]; omega
  ·have : M = k := by omega
   subst this
   have HY0 : Hid (YW w v0 (.slice p1 M q1) v2 (.slice p3 N q3) M (.slice p M q) [] wr) := hy
   have hnl : ¬ (M : Int) < (M : Int) := by omega
   clear hy hkl hk HC0 c3
   go_wp2
   clear c1 hnl
   go_loopw [7, 8, 9] (fun kv nv iv wr => ∃ (j k : Nat) (X : List Nat), j ≤ N ∧ k ≤ j ∧ iv = .int .i64 (j : Int) ∧ kv = .int .i64 (k : Int) ∧ nv = .int .i64 ((whensP (c.list.take j) : Nat) : Int) ∧ wayP (fun m => ch.testBit m) X k (whensP (c.list.take j)) (c.list.drop j) = A ∧ YW w v0 (.slice p1 M q1) v2 (.slice p3 N q3) M (.slice p M q) X wr) (fun _ _ iv _ => N - (intOf iv).toNat)
   case atStart => exact ⟨0, 0, [], Nat.zero_le _, Nat.le_refl _, rfl, rfl, rfl, HA.out, HY0.out⟩
   case round =>
    obtain ⟨j, k, X, hj, hkj, rfl, rfl, rfl, hway, hy⟩ := hrel
    have HY : Hid (YW w v0 (.slice p1 M q1) v2 (.slice p3 N q3) M (.slice p M q) X wr) := hy
    have c3 := hy.cc.at 3 rfl
    rw [Nat.zero_add] at c3
    clear HY0
    by_cases hlt : j < N
    ·have hll : j < c.list.length := by rw [HNN.out]; omega
     obtain ⟨b, o, rfl, hx⟩ := HLIST.out.at hll
     have hx' := hx.below hy.bel
     rw [List.drop_eq_getElem_cons hll] at hway
     have hwn := whens_next hll
     have hw10 := whens_le (l := c.list) (j + 1)
     have hfit := HFIT.out c.list[j] (List.getElem_mem hll)
     obtain ⟨x, hxx⟩ : ∃ x, c.list[j] = x := ⟨_, rfl⟩
     rw [hxx] at hx' hway hwn hfit
     obtain ⟨n, hn⟩ : ∃ n, whensP (c.list.take j) = n := ⟨_, rfl⟩
     rw [hn] at hway hwn ⊢
     have hn10 : n + (if x.op = 34 then 1 else 0) ≤ 10 := by have := HWH.out; omega
     have HWN : Hid (whensP (c.list.take (j + 1)) = n + (if x.op = 34 then 1 else 0)) := hwn
     have HWAY : Hid (wayP (fun m => ch.testBit m) X k n (x :: c.list.drop (j + 1)) = A) := hway
     have HFX : Hid (fitsC c x (rowP x.op) = true) := hfit
     have x0 := hx'.at 0 rfl
     have x1 := hx'.at 1 rfl
     have x2 := hx'.at 2 rfl
     have x3 := hx'.at 3 rfl
     have x4 := hx'.at 4 rfl
     have x5 := hx'.at 5 rfl
     have x6 := hx'.at 6 rfl
     rw [Nat.add_zero] at x0
     have i1 : (0 : Int) ≤ (j : Int) := by omega
     have i2 : (j : Int) < (N : Int) := by omega
     have wj : IntKind.i64.wrap ((j : Int) + 1) = ((j + 1 : Nat) : Int) := by rw [IntKind.wrap_i64]; omega
     have wn : IntKind.i64.wrap ((n : Int) + 1) = ((n + 1 : Nat) : Int) := by rw [IntKind.wrap_i64]; omega
     clear hx hx' hway hwn hw10 hfit hn hxx hy
     by_cases hk : 0 < k
     ·have hk' : (0 : Int) < (k : Int) := by omega
      have wk1 : IntKind.i64.wrap ((k : Int) + 1) = ((k + 1 : Nat) : Int) := by rw [IntKind.wrap_i64]; omega
      have wk2 : IntKind.i64.wrap ((k : Int) - 1) = ((k - 1 : Nat) : Int) := by rw [IntKind.wrap_i64]; omega
      by_cases h34 : x.op = 34
      ·have t34 : (x.op == 34) = true := by simpa using h34
       have HR : Hid (whensP (c.list.take (j + 1)) = n + 1 ∧ wayP (fun m => ch.testBit m) X (k + 1) (n + 1) (c.list.drop (j + 1)) = A) := by
        have a1 := HWN.out
        have a2 := HWAY.out
        rw [if_pos h34] at a1
        simp only [wayP] at a2
        rw [if_pos hk, if_pos h34] at a2
        exact ⟨a1, a2⟩
       clear h34 hn10
       go_wp2
       go_roundw
       case rel => exact ⟨j + 1, k + 1, X, by omega, by omega, by go_num, by go_num, by rw [HR.out.1]; go_num, by rw [HR.out.1]; exact HR.out.2, HY.out.next (bel_alloc _ _)⟩
       case measure => simp [intOf]; omega
      ·have t34 : (x.op == 34) = false := by simpa using h34
       by_cases h35 : x.op = 35
       ·have t35 : (x.op == 35) = true := by simpa using h35
        have HR : Hid (whensP (c.list.take (j + 1)) = n ∧ wayP (fun m => ch.testBit m) X (k - 1) n (c.list.drop (j + 1)) = A) := by
         have a1 := HWN.out
         have a2 := HWAY.out
         rw [if_neg h34] at a1
         simp only [wayP] at a2
         rw [if_pos hk, if_neg h34, if_pos h35] at a2
         exact ⟨a1, a2⟩
        clear h34 h35 hn10
        go_wp2
        go_roundw
        case rel => exact ⟨j + 1, k - 1, X, by omega, by omega, by go_num, by go_num, by rw [HR.out.1], by rw [HR.out.1]; exact HR.out.2, HY.out.next (bel_alloc _ _)⟩
        case measure => simp [intOf]; omega
       ·have t35 : (x.op == 35) = false := by simpa using h35
        have HR : Hid (whensP (c.list.take (j + 1)) = n ∧ wayP (fun m => ch.testBit m) X k n (c.list.drop (j + 1)) = A) := by
         have a1 := HWN.out
         have a2 := HWAY.out
         rw [if_neg h34] at a1
         simp only [wayP] at a2
         rw [if_pos hk, if_neg h34, if_neg h35] at a2
         exact ⟨a1, a2⟩
        clear h34 h35 hn10
        go_wp2
        go_roundw
        case rel => exact ⟨j + 1, k, X, by omega, by omega, by go_num, rfl, by rw [HR.out.1], by rw [HR.out.1]; exact HR.out.2, HY.out.next (bel_alloc _ _)⟩
        case measure => simp [intOf]; omega
     ·have hk0 : k = 0 := by omega
      subst hk0
      have HWY : Hid ((rdOK X x && wayP (fun m => ch.testBit m) (insP X x) (if x.op = 34 ∧ ch.testBit n = false then 1 else 0) (if x.op = 34 then n + 1 else n) (c.list.drop (j + 1))) = A) := by
       have a2 := HWAY.out
       simp only [wayP] at a2
       rw [if_neg hk] at a2
       exact a2
      clear HWAY hk
      go_wp2_with (go_at_call 9; (with_reducible refine (HKR.out x _).mono ?_); rintro e w6 ⟨u, rfl, ho6, hb6⟩; obtain ⟨pl, cl, rfl⟩ := own_len ho6)
      have HX6 : Hid (CellsAt w6 wr.heap.size 0 (inC x)) := (CellsAt.below (w := wr.alloc (.cells #[.int .i64 x.op, .int .i64 x.d, .int .i64 x.a, .int .i64 x.b, .int .i64 x.c, .int .i64 x.n, .int .u32 x.bits] 25)) (by
       intro m hm
       have hm' : m < 7 := hm
       obtain rfl | rfl | rfl | rfl | rfl | rfl | rfl : m = 0 ∨ m = 1 ∨ m = 2 ∨ m = 3 ∨ m = 4 ∨ m = 5 ∨ m = 6 := by omega
       all_goals simp [go_sem, inC]) hb6)
      have HY6 : Hid (YW w v0 (.slice p1 M q1) v2 (.slice (some ⟨b, o, none⟩) N q3) M (.slice p M q) X w6) := HY.out.next (bel (bel_alloc _ _) hb6)
      have HRL := reads_lt HFX.out
      rw [HMM.out] at HRL
      obtain ⟨L, hL'⟩ : ∃ L, readsP x (rowP x.op) = L := ⟨_, rfl⟩
      have HRD : Hid (rdOK X x = L.all fun y => decide (y.toNat ∈ X)) := by show _ = _; unfold rdOK; rw [hL']
      rw [hL'] at ho6 HRL ⊢
      have hL3 : L.length ≤ 3 := by rw [← hL']; exact reads_le _ _
      have HO6 : Hid (w6.ownsRow 0 3 1 (.slice pl L.length cl) L.length (i64s L)) := own_mono ho6 (Nat.zero_le _)
      have HRL' : Hid (∀ y ∈ L, 0 ≤ y ∧ y < (M : Int)) := HRL
      clear HY hb6 ho6 HRL hL' c3 x0 x1 x2 x3 x4 x5 x6
      go_loopw [12] (fun mv wk => wk = w6 ∧ ∃ m : Nat, m ≤ L.length ∧ mv = .int .i64 (m : Int) ∧ ∀ y ∈ L.take m, y.toNat ∈ X) (fun mv _ => L.length - (intOf mv).toNat)
      case atStart => exact ⟨rfl, 0, Nat.zero_le _, rfl, fun y hy => absurd hy (by simp)⟩
      case round =>
       obtain ⟨rfl, m, hm, rfl, hall⟩ := hrel
       have HALL : Hid (∀ y ∈ L.take m, y.toNat ∈ X) := hall
       clear hall
       by_cases hml : m < L.length
       ·obtain ⟨gl, capl, hvl, -, -, -, -, hatl⟩ := own_open HO6.out (by omega)
        simp only [Value.slice.injEq] at hvl
        obtain ⟨rfl, -, rfl⟩ := hvl
        have z2 := hatl m (.int .i64 L[m]) (by unfold i64s; rw [List.getElem?_map, List.getElem?_eq_getElem hml]; rfl)
        obtain ⟨r1, r2⟩ := HRL'.out L[m] (List.getElem_mem hml)
        obtain ⟨z, hz⟩ : ∃ z : Nat, L[m] = (z : Int) := ⟨L[m].toNat, by omega⟩
        have HZ : Hid (L[m] = (z : Int)) := hz
        rw [hz] at z2 r1 r2
        have hM0 : 0 < M := by omega
        obtain ⟨gs, caps, hvs, -, -, -, -, hats⟩ := own_open HY6.out.own hM0
        simp only [Value.slice.injEq] at hvs
        obtain ⟨rfl, -, rfl⟩ := hvs
        have z3 := hats z _ (setB_at (X := X) (by omega))
        have j1 : (0 : Int) ≤ (m : Int) := by omega
        have j2 : (m : Int) < (L.length : Int) := by omega
        obtain ⟨Q, hQ⟩ : ∃ Q, decide (z ∈ X) = Q := ⟨_, rfl⟩
        rw [hQ] at z3
        have HQ : Hid (decide (z ∈ X) = Q) := hQ
        clear hatl hats hz hQ
        cases Q
        ·have HAF : Hid (A = false) := by
          show _ = _
          rw [← HWY.out, HRD.out]
          have : (L.all fun y => decide (y.toNat ∈ X)) = false := by
           rw [List.all_eq_false]
           refine ⟨L[m], List.getElem_mem hml, ?_⟩
           rw [HZ.out, Int.toNat_natCast, HQ.out]
           simp
          rw [this, Bool.false_and]
         go_wp2
         go_ret
         exact ⟨by rw [HAF.out]; rfl, HY6.out.bel⟩
        ·go_wp2
         go_roundw
         case rel =>
          refine ⟨by first | rfl | trivial, m + 1, by omega, by go_num, ?_⟩
          intro y hy
          rw [List.take_succ_eq_append_getElem hml] at hy
          rcases List.mem_append.1 hy with hy | hy
          ·exact HALL.out y hy
          ·rw [List.mem_singleton.1 hy, HZ.out, Int.toNat_natCast]
           exact of_decide_eq_true HQ.out
         case measure => simp [intOf]; omega
       ·have hmm : L.length = m := by omega
        subst hmm
        have HWZ : Hid (wayP (fun m => ch.testBit m) (insP X x) (if x.op = 34 ∧ ch.testBit n = false then 1 else 0) (if x.op = 34 then n + 1 else n) (c.list.drop (j + 1)) = A) := by
         have a2 := HWY.out
         rw [HRD.out, List.all_eq_true.2 (fun y hy => decide_eq_true (HALL.out y (by rw [List.take_length]; exact hy))), Bool.true_and] at a2
         exact a2
        have hnl' : ¬ (L.length : Int) < (L.length : Int) := by omega
        have x0 := HX6.out.at 0 rfl
        have x1 := HX6.out.at 1 rfl
        have x2 := HX6.out.at 2 rfl
        have x3 := HX6.out.at 3 rfl
        have x4 := HX6.out.at 4 rfl
        have x5 := HX6.out.at 5 rfl
        have x6 := HX6.out.at 6 rfl
        rw [Nat.zero_add] at x0 x1 x2 x3 x4 x5 x6
        clear HWY hml hm HALL HO6
        by_cases h34 : x.op = 34
        ·have t34 : (x.op == 34) = true := by simpa using h34
         rw [if_pos h34] at hn10
         have hSet : setsP x = false := by unfold setsP; rw [h34]; decide
         have hbit := bit_and ⟨ch, hch⟩ ⟨n, by omega⟩
         simp only at hbit
         obtain ⟨Bt, hBt⟩ : ∃ Bt, ch.testBit n = Bt := ⟨_, rfl⟩
         rw [hBt] at hbit
         have HR : Hid (whensP (c.list.take (j + 1)) = n + 1 ∧ wayP (fun m => ch.testBit m) X (if Bt = false then 1 else 0) (n + 1) (c.list.drop (j + 1)) = A) := by
          have a1 := HWN.out
          have a2 := HWZ.out
          rw [if_pos h34] at a1
          rw [ins_34 (.inl h34), if_pos h34, hBt] at a2
          simp only [h34, true_and] at a2
          exact ⟨a1, a2⟩
         clear h34 hBt HWZ
         cases Bt
         ·simp only [cond_false] at hbit
          go_wp2_with (go_at_call 11; (with_reducible refine (HKS.out x _).mono ?_); rintro e w9 ⟨rfl, hb9⟩)
          go_roundw
          case rel => exact ⟨j + 1, 1, X, by omega, by omega, by go_num, rfl, by rw [HR.out.1]; go_num, by rw [HR.out.1]; exact HR.out.2, HY6.out.next hb9⟩
          case measure => simp [intOf]; omega
         ·simp only [cond_true] at hbit
          go_wp2_with (go_at_call 11; (with_reducible refine (HKS.out x _).mono ?_); rintro e w9 ⟨rfl, hb9⟩)
          go_roundw
          case rel => exact ⟨j + 1, 0, X, by omega, by omega, by go_num, rfl, by rw [HR.out.1]; go_num, by rw [HR.out.1]; exact HR.out.2, HY6.out.next hb9⟩
          case measure => simp [intOf]; omega
        ·have t34 : (x.op == 34) = false := by simpa using h34
         have HR : Hid (whensP (c.list.take (j + 1)) = n ∧ wayP (fun m => ch.testBit m) (insP X x) 0 n (c.list.drop (j + 1)) = A) := by
          have a1 := HWN.out
          have a2 := HWZ.out
          rw [if_neg h34] at a1
          rw [if_neg h34, if_neg (fun e => h34 e.1)] at a2
          exact ⟨a1, a2⟩
         clear h34 hn10 HWZ
         by_cases hd : (rowP x.op).d = 0
         ·have hSet : setsP x = false := by unfold setsP; rw [hd]; rfl
          have HIN : Hid (insP X x = X) := setB_keep (M := M) hd
          clear hd
          go_wp2_with (go_at_call 11; (with_reducible refine (HKS.out x _).mono ?_); rintro e w9 ⟨rfl, hb9⟩)
          go_roundw
          case rel => exact ⟨j + 1, 0, X, by omega, by omega, by go_num, rfl, by rw [HR.out.1], by rw [HR.out.1, ← HIN.out]; exact HR.out.2, HY6.out.next hb9⟩
          case measure => simp [intOf]; omega
         ·have hSet : setsP x = true := by unfold setsP; simpa using hd
          have HD : Hid ((rowP x.op).d ≠ 0) := hd
          obtain ⟨r1, r2⟩ := fitsReg_lt (fitsC_d HFX.out) hd
          rw [HMM.out] at r2
          have hM0 : 0 < M := by omega
          obtain ⟨gs, caps, hvs, -, -, -, -, -⟩ := own_open HY6.out.own hM0
          simp only [Value.slice.injEq] at hvs
          obtain ⟨rfl, -, rfl⟩ := hvs
          clear hd
          go_wp2_with (go_at_call 11; (with_reducible refine (HKS.out x _).mono ?_); rintro e w9 ⟨rfl, hb9⟩; have HY9 : Hid (YW w v0 (.slice p1 M q1) v2 (.slice (some ⟨b, o, none⟩) N q3) M (.slice (some ⟨gs, 0, none⟩) M q) X w9) := HY6.out.next hb9; have y1 := kc hb9 x1; obtain ⟨zc, zf⟩ := HY9.out.at (d := x.d.toNat) (by omega); clear hb9)
          go_roundw
          case rel => exact ⟨j + 1, 0, insP X x, by omega, by omega, by go_num, rfl, by rw [HR.out.1], by rw [HR.out.1]; exact HR.out.2, HY9.out.put HD.out (by omega)⟩
          case measure => simp [intOf]; omega
    ·have : N = j := by omega
     subst this
     have hA' : A = true := by
      rw [← hway, List.drop_of_length_le (by rw [HNN.out]; exact Nat.le_refl _)]
      rfl
     have hnl' : ¬ (N : Int) < (N : Int) := by omega
     clear hway hy hlt
     subst hA'
     go_wp2
     go_ret
     exact ⟨rfl, HY.out.bel⟩
end Go.Proofs.Ytkdpchlehoomhaa
namespace Go.Proofs.Ytkdpchlehoomhaa
open Go.RowKit
set_option linter.unusedVariables false
set_option linter.unusedSimpArgs false
def allW (l : List Ins) (m : Nat) : Bool := (List.range m).all fun n => wayP (fun k => n.testBit k) [] 0 0 l
theorem allW_next (l : List Ins) (m : Nat) : allW l (m + 1) = (allW l m && wayP (fun k => m.testBit k) [] 0 0 l) := by unfold allW; rw [List.range_succ, List.all_append]; simp
theorem allW_iff (l : List Ins) (m : Nat) : allW l m = true ↔ ∀ n, n < m → wayP (fun k => n.testBit k) [] 0 0 l = true := by unfold allW; rw [List.all_eq_true]; simp
set_option maxRecDepth 100000 in
set_option maxHeartbeats 4000000 in
theorem ways_walk (v0 v1 v2 : Value) (p3 : Option Addr) (N q3 : Nat) (c : Cd) (hN : c.list.length = N) (hNb : N ≤ 140737488351232) (E P F G : Int) (w : World) (hrow : RowG 7 inC w (.slice p3 N q3) c.list)
  (HK1 : Hid (∀ v, Below w.heap.size w v → Calls Try.prog 19 #[.agg #[v0, v1, v2, .slice p3 N q3]] v fun e w' => ∃ u0 u1 u2 u3, e = .returned (.agg #[u0, u1, u2, u3]) ∧ CdV w' u0 u1 u2 u3 (preC c) ∧ Below v.heap.size v w'))
  (HK2 : Hid (∀ v u0 u1 u2 u3, CdV v u0 u1 u2 u3 (preC c) → Calls Try.prog 18 #[.agg #[u0, u1, u2, u3]] v fun e w' => e = .returned (.tuple #[.int .i64 E, .int .i64 P]) ∧ Below v.heap.size v w'))
  (HK3 : Hid (∀ v, Below w.heap.size w v → Calls Try.prog 18 #[.agg #[v0, v1, v2, .slice p3 N q3]] v fun e w' => e = .returned (.tuple #[.int .i64 F, .int .i64 G]) ∧ Below v.heap.size v w'))
  (HK4 : Hid (E = 0 → whensP c.list ≤ 10 → ∀ v (n : Nat), n < 2 ^ whensP c.list → Below w.heap.size w v → Calls Try.prog 20 #[.agg #[v0, v1, v2, .slice p3 N q3], .int .i64 (n : Int)] v fun e w' => e = .returned (.bool (wayP (fun k => n.testBit k) [] 0 0 c.list)) ∧ Below v.heap.size v w'))
  (HK5 : Hid (∀ v, Calls Try.prog 14 #[] v fun e w' => e = .returned (.bool true) ∧ Below v.heap.size v w'))
  (HEQ : Hid (E = 0 → allW c.list (2 ^ whensP c.list) = decide (F = 0))) :
  Calls Try.prog 5 #[.agg #[v0, v1, v2, .slice p3 N q3]] w fun e w' => e = .returned (.bool true) ∧ Below w.heap.size w w' := by
 have HN : Hid (c.list.length = N) := hN
 have HROW : Hid (RowG 7 inC w (.slice p3 N q3) c.list) := hrow
 have HC0 : Hid (∀ v, Below (w.alloc (.cells #[v0, v1, v2, .slice p3 N q3] 36)).heap.size (w.alloc (.cells #[v0, v1, v2, .slice p3 N q3] 36)) v → (v.cell? ⟨w.heap.size, 0, none⟩ = some v0 ∧ v.cell? ⟨w.heap.size, 1, none⟩ = some v1 ∧ v.cell? ⟨w.heap.size, 2, none⟩ = some v2 ∧ v.cell? ⟨w.heap.size, 3, none⟩ = some (.slice p3 N q3))) :=
  fun v hv => ⟨kc hv (by simp [go_sem]), kc hv (by simp [go_sem]), kc hv (by simp [go_sem]), kc hv (by simp [go_sem])⟩
 clear hN hrow
 by_cases hE : E = 0
 ·subst hE
  go_enter Try.func5, Try.ntmps5
  go_wp2_with (first | (go_at_call 19; (with_reducible refine (HK1.out _ (bel_alloc _ _)).mono ?_); rintro e w2 ⟨u0, u1, u2, u3, rfl, hcd, hb2⟩; have HCD : Hid (CdV w2 u0 u1 u2 u3 (preC c)) := hcd; clear hcd) | (go_at_call 18; (with_reducible refine (HK2.out _ _ _ _ _ HCD.out).mono ?_); rintro e w3 ⟨rfl, hb3⟩; have hb3' := bel hb2 hb3; obtain ⟨d0, d1, d2, d3⟩ := HC0.out w3 hb3'; clear hb3) | (go_at_call 18; (with_reducible refine (HK3.out _ (bel (bel_alloc _ _) hb3')).mono ?_); rintro e w4 ⟨rfl, hb4⟩; have hb4' := bel hb3' hb4; obtain ⟨e0, e1, e2, e3⟩ := HC0.out w4 hb4'; clear hb4 hb3' hb2 d0 d1 d2 d3) | (go_at_call 14; (with_reducible refine (HK5.out _).mono ?_); rintro e w9 ⟨rfl, hb9⟩))
  have HB4 : Hid (Below (w.alloc (.cells #[v0, v1, v2, .slice p3 N q3] 36)).heap.size (w.alloc (.cells #[v0, v1, v2, .slice p3 N q3] 36)) w4) := hb4'
  clear hb4'
  go_loopw [7, 8] (fun nv iv wr => wr = w4 ∧ ∃ i : Nat, i ≤ N ∧ iv = .int .i64 (i : Int) ∧ nv = .int .i64 ((whensP (c.list.take i) : Nat) : Int)) (fun _ iv _ => N - (intOf iv).toNat)
  case atStart => exact ⟨rfl, 0, Nat.zero_le _, rfl, rfl⟩
  case round =>
   obtain ⟨rfl, i, hi, rfl, rfl⟩ := hrel
   by_cases hlt : i < N
   ·have hll : i < c.list.length := by rw [HN.out]; omega
    obtain ⟨b, o, rfl, hx⟩ := HROW.out.at hll
    have hx' := hx.below (bel (bel_alloc _ _) HB4.out)
    have x0 := hx'.at 0 rfl
    rw [Nat.add_zero] at x0
    have hwn := whens_next hll
    obtain ⟨op, hop⟩ : ∃ op, c.list[i].op = op := ⟨_, rfl⟩
    rw [hop] at x0 hwn
    have hle : whensP (c.list.take i) ≤ i := by unfold whensP; refine Nat.le_trans (List.length_filter_le _ _) ?_; rw [List.length_take]; omega
    obtain ⟨n, hn⟩ : ∃ n, whensP (c.list.take i) = n := ⟨_, rfl⟩
    rw [hn] at hwn hle ⊢
    have HWN : Hid (whensP (c.list.take (i + 1)) = n + (if op = 34 then 1 else 0)) := hwn
    have i1 : (0 : Int) ≤ (i : Int) := by omega
    have i2 : (i : Int) < (N : Int) := by omega
    have wi : IntKind.i64.wrap ((i : Int) + 1) = ((i + 1 : Nat) : Int) := by rw [IntKind.wrap_i64]; omega
    have wn : IntKind.i64.wrap ((n : Int) + 1) = ((n + 1 : Nat) : Int) := by rw [IntKind.wrap_i64]; omega
    clear hx hx' hwn hop hn
    by_cases h34 : op = 34
    ·have t34 : (op == 34) = true := by simpa using h34
     have HR : Hid (whensP (c.list.take (i + 1)) = n + 1) := by show _ = _; rw [HWN.out, if_pos h34]
     clear h34
     go_wp2
     go_roundw
     case rel => exact ⟨by first | rfl | trivial, i + 1, by omega, by go_num, by rw [HR.out]; go_num⟩
     case measure => simp [intOf]; omega
    ·have t34 : (op == 34) = false := by simpa using h34
     have HR : Hid (whensP (c.list.take (i + 1)) = n) := by show _ = _; rw [HWN.out, if_neg h34]; rfl
     clear h34
     go_wp2
     go_roundw
     case rel => exact ⟨by first | rfl | trivial, i + 1, by omega, by go_num, by rw [HR.out]⟩
     case measure => simp [intOf]; omega
   ·have : N = i := by omega
    subst this
    have hnl : ¬ (N : Int) < (N : Int) := by omega
    have hall : c.list.take N = c.list := List.take_of_length_le (by rw [HN.out]; exact Nat.le_refl _)
    rw [hall]
    clear hi hlt hall
    obtain ⟨n, hn⟩ : ∃ n, whensP c.list = n := ⟨_, rfl⟩
    rw [hn] at HK4 HEQ ⊢
    clear hn
    by_cases h10 : 10 < n
    ·have h10' : (10 : Int) < (n : Int) := by omega
     go_wp2_with (go_at_call 14; (with_reducible refine (HK5.out _).mono ?_); rintro e w9 ⟨rfl, hb9⟩)
     go_ret
     exact ⟨rfl, bel (bel (bel_alloc _ _) HB4.out) hb9⟩
    ·have h10' : ¬ (10 : Int) < (n : Int) := by omega
     have h11 : n ≤ 10 := by omega
     have HK4' := fun v k hk hb => HK4.out (by first | rfl | trivial) h11 v k hk hb
     have HW : Hid (∀ v (k : Nat), k < 2 ^ n → Below w.heap.size w v → Calls Try.prog 20 #[.agg #[v0, v1, v2, .slice p3 N q3], .int .i64 (k : Int)] v fun e w' => e = .returned (.bool (wayP (fun m => k.testBit m) [] 0 0 c.list)) ∧ Below v.heap.size v w') := HK4'
     have HEQ' : Hid (allW c.list (2 ^ n) = decide (F = 0)) := HEQ.out (by first | rfl | trivial)
     have hpow : 2 ^ n ≤ 1024 := by
      have := Nat.pow_le_pow_right (show 0 < 2 by omega) h11
      simpa using this
     clear HK4' HK4 HEQ
     go_wp2
     have hp : ((2 : Int) ^ n) = ((2 ^ n : Nat) : Int) := by simp
     have hp0 : 0 < 2 ^ n := Nat.pow_pos (by omega)
     have ws : IntKind.i64.wrap ((2 : Int) ^ n) = (2 : Int) ^ n := by rw [hp, IntKind.wrap_i64]; omega
     have ws' : IntKind.i64.wrap (1 * (2 : Int) ^ n) = (2 : Int) ^ n := by rw [Int.one_mul]; exact ws
     have HP : Hid (((2 : Int) ^ n) = ((2 ^ n : Nat) : Int)) := hp
     clear hp
     go_loopw [9, 10] (fun av cv wr => ∃ ch : Nat, ch ≤ 2 ^ n ∧ cv = .int .i64 (ch : Int) ∧ av = .bool (allW c.list ch) ∧ Below (w.alloc (.cells #[v0, v1, v2, .slice p3 N q3] 36)).heap.size (w.alloc (.cells #[v0, v1, v2, .slice p3 N q3] 36)) wr) (fun _ cv _ => 2 ^ n - (intOf cv).toNat)
     case atStart => exact ⟨0, Nat.zero_le _, rfl, rfl, HB4.out⟩
     case round =>
      obtain ⟨ch, hch, rfl, rfl, hb⟩ := hrel
      have HB : Hid (Below (w.alloc (.cells #[v0, v1, v2, .slice p3 N q3] 36)).heap.size (w.alloc (.cells #[v0, v1, v2, .slice p3 N q3] 36)) wr) := hb
      obtain ⟨f0, f1, f2, f3⟩ := HC0.out wr hb
      clear hb e0 e1 e2 e3
      have hT := allW_next c.list ch
      obtain ⟨T, hTT⟩ : ∃ T, allW c.list ch = T := ⟨_, rfl⟩
      rw [hTT] at hT ⊢
      have HT : Hid (allW c.list (ch + 1) = (T && wayP (fun k => ch.testBit k) [] 0 0 c.list)) := hT
      have HTT : Hid (allW c.list ch = T) := hTT
      clear hT hTT
      by_cases hcl : ch < 2 ^ n
      ·have hc1 : (ch : Int) < (2 : Int) ^ n := by rw [HP.out]; omega
       have wc : IntKind.i64.wrap ((ch : Int) + 1) = ((ch + 1 : Nat) : Int) := by rw [IntKind.wrap_i64]; omega
       cases T
       ·go_wp2
        go_roundw
        case rel => exact ⟨ch + 1, by omega, by go_num, by rw [HT.out]; rfl, HB.out⟩
        case measure => simp [intOf]; omega
       ·obtain ⟨Q, hQ⟩ : ∃ Q, wayP (fun k => ch.testBit k) [] 0 0 c.list = Q := ⟨_, rfl⟩
        have HQ : Hid (wayP (fun k => ch.testBit k) [] 0 0 c.list = Q) := hQ
        have HWC := HW.out wr ch hcl (bel (bel_alloc _ _) HB.out)
        rw [hQ] at HWC
        have HWC' : Hid (Calls Try.prog 20 #[.agg #[v0, v1, v2, .slice p3 N q3], .int .i64 (ch : Int)] wr fun e w' => e = .returned (.bool Q) ∧ Below wr.heap.size wr w') := HWC
        clear hQ HWC
        go_wp2_with (go_at_call 20; (with_reducible refine HWC'.out.mono ?_); rintro e w9 ⟨rfl, hb9⟩)
        go_roundw
        case rel => exact ⟨ch + 1, by omega, by go_num, by rw [HT.out, HQ.out]; rfl, bel HB.out hb9⟩
        case measure => simp [intOf]; omega
      ·have hc2 : ch = 2 ^ n := by omega
       have hc1 : ¬ (ch : Int) < (2 : Int) ^ n := by rw [HP.out]; omega
       have HF : Hid (T = decide (F = 0)) := by show _ = _; rw [← HTT.out, hc2]; exact HEQ'.out
       clear hc2 hcl hch
       by_cases hF : F = 0
       ·have hT' : T = true := by rw [HF.out]; simpa using hF
        subst hT'
        have tF : (F == 0) = true := by simpa using hF
        clear hF
        go_wp2_with (go_at_call 14; (with_reducible refine (HK5.out _).mono ?_); rintro e w9 ⟨rfl, hb9⟩)
        go_ret
        exact ⟨rfl, bel (bel (bel_alloc _ _) HB.out) hb9⟩
       ·have hT' : T = false := by rw [HF.out]; simpa using hF
        subst hT'
        have tF : (F == 0) = false := by simpa using hF
        clear hF
        go_wp2_with (go_at_call 14; (with_reducible refine (HK5.out _).mono ?_); rintro e w9 ⟨rfl, hb9⟩)
        go_ret
        exact ⟨rfl, bel (bel (bel_alloc _ _) HB.out) hb9⟩
 ·have t0 : (E == 0) = false := by simpa using hE
  clear hE
  go_enter Try.func5, Try.ntmps5
  go_wp2_with (first | (go_at_call 19; (with_reducible refine (HK1.out _ (bel_alloc _ _)).mono ?_); rintro e w2 ⟨u0, u1, u2, u3, rfl, hcd, hb2⟩; have HCD : Hid (CdV w2 u0 u1 u2 u3 (preC c)) := hcd; clear hcd) | (go_at_call 18; (with_reducible refine (HK2.out _ _ _ _ _ HCD.out).mono ?_); rintro e w3 ⟨rfl, hb3⟩; have hb3' := bel hb2 hb3; obtain ⟨d0, d1, d2, d3⟩ := HC0.out w3 hb3'; clear hb3) | (go_at_call 18; (with_reducible refine (HK3.out _ (bel (bel_alloc _ _) hb3')).mono ?_); rintro e w4 ⟨rfl, hb4⟩; have hb4' := bel hb3' hb4; obtain ⟨e0, e1, e2, e3⟩ := HC0.out w4 hb4'; clear hb4 hb3' hb2 d0 d1 d2 d3) | (go_at_call 14; (with_reducible refine (HK5.out _).mono ?_); rintro e w9 ⟨rfl, hb9⟩))
  go_ret
  exact ⟨rfl, bel (bel (bel_alloc _ _) hb4') hb9⟩
theorem pre_ok {c : Cd} (co : CdOk c) (h : c.regs.length + c.list.length ≤ 140737488351232) : CdOk (preC c) := by
 refine ⟨co.signL, co.names, co.regsL, co.slotsL, ?_, co.sbits, ?_⟩
 ·show (preL 0 c.regs ++ c.list).length ≤ _
  rw [List.length_append, preL_len]
  exact h
 ·intro i hi
  rcases List.mem_append.1 (show i ∈ preL 0 c.regs ++ c.list from hi) with hi | hi
  ·have : ∀ (r : List Ty) (k : Nat), ∀ i ∈ preL k r, i.bits = 0 := by
    intro r
    induction r with
    | nil => intro k i hi; simp [preL] at hi
    | cons t r ih =>
     intro k i hi
     rcases List.mem_cons.1 hi with rfl | hi
     ·rfl
     ·exact ih _ i hi
   have := this _ _ i hi
   omega
  ·exact co.ibits i hi
theorem walk_IrWays (a0 a1 a2 a3 : Value) (c : Cd) (co : CdOk c) (cz : CdSz c) (hz : (c.regs.length + c.list.length) * 56 ≤ 140737488351232) (W : World) (cv : CdV W a0 a1 a2 a3 c) :
  Calls Try.prog 5 #[.agg #[a0, a1, a2, a3]] W fun e W' => e = .returned (.bool true) ∧ Below W.heap.size W W' := by
 obtain ⟨p3, q3, rfl, -⟩ := id cv.list
 refine ways_walk a0 a1 a2 p3 c.list.length q3 c rfl (by omega) (checkC (preC c)).1 (checkC (preC c)).2 (checkC c).1 (checkC c).2 W cv.list ?_ ?_ ?_ ?_ works_any ?_
 ·intro v hv
  exact pre_any _ _ _ _ c cz hz v (cv.below hv)
 ·intro v u0 u1 u2 u3 hc
  exact check_any _ _ _ _ _ (pre_ok co (by omega)) v hc
 ·intro v hv
  exact check_any _ _ _ _ c co v (cv.below hv)
 ·intro hE h10 v n hn hv
  have hp : 2 ^ whensP c.list ≤ 1024 := by
   have := Nat.pow_le_pow_right (show 0 < 2 by omega) h10
   simpa using this
  exact way_any _ _ _ _ c co n (by omega) (ways_main hE).2 h10 _ rfl v (cv.below hv)
 ·intro hE
  have h := (ways_main hE).1
  rw [← allW_iff] at h
  by_cases hF : (checkC c).1 = 0
  ·rw [h.1 hF]; simpa using hF
  ·have : allW c.list (2 ^ whensP c.list) = false := by
    cases e : allW c.list (2 ^ whensP c.list) with
    | false => rfl
    | true => exact absurd (h.2 e) hF
   rw [this]; simpa using hF
end Go.Proofs.Ytkdpchlehoomhaa
