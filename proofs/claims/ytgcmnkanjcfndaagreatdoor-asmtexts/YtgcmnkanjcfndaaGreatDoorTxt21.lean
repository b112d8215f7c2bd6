import Derived.Test.YtgcmnkanjcfndaaGreatDoorTxt20
import Derived.Deep.DeepCutAuto
import Derived.Test.YtgcmnkanjcfndaaGreatDoorTxt1
import Derived.OrdersHeld
namespace Go.Proofs.YtgcmnkanjcfndaaGreatDoor
set_option linter.unusedVariables false
set_option linter.unusedSimpArgs false
def txt (ls : List Bs) : Bs := ls.flatMap fun x => x ++ [10]
theorem txt_snoc (ls : List Bs) (x : Bs) : txt (ls ++ [x]) = txt ls ++ (x ++ [10]) := by simp [txt]
theorem txt_app (a b : List Bs) : txt (a ++ b) = txt a ++ txt b := by simp [txt]
def ln1 (c : Cd) : List Bs := headB :: (c.sign.map parWs).map joinW
def ln2 (c : Cd) : List Bs := ln1 c ++ (regsT 0 c.regs).map joinW
def ln3 (c : Cd) : List Bs := ln2 c ++ (slotsT 0 c.slots).map joinW
def pf1 (c : Cd) (j : Nat) : List Bs := headB :: ((c.sign.take j).map parWs).map joinW
def pf2 (c : Cd) (j : Nat) : List Bs := ln1 c ++ (regsT 0 (c.regs.take j)).map joinW
def pf3 (c : Cd) (j : Nat) : List Bs := ln2 c ++ (slotsT 0 (c.slots.take j)).map joinW
def pf4 (c : Cd) (j : Nat) : List Bs := ln3 c ++ ((c.list.take j).map insWs).map joinW
theorem regsT_app : ∀ (a b : List Ty) (n : Nat), ∃ r, regsT n (a ++ b) = regsT n a ++ r
 | [], b, n => ⟨regsT n b, by simp [regsT]⟩
 | t :: a, b, n => by
  obtain ⟨r, hr⟩ := regsT_app a b (n + 1)
  exact ⟨r, by rw [List.cons_append, regsT, regsT, hr]; rfl⟩
theorem slotsT_app : ∀ (a b : List Sl) (n : Nat), ∃ r, slotsT n (a ++ b) = slotsT n a ++ r
 | [], b, n => ⟨slotsT n b, by simp [slotsT]⟩
 | t :: a, b, n => by
  obtain ⟨r, hr⟩ := slotsT_app a b (n + 1)
  exact ⟨r, by rw [List.cons_append, slotsT, slotsT, hr]; rfl⟩
theorem textL_ln (c : Cd) : textL c = ln3 c ++ (c.list.map insWs).map joinW := by
 unfold textL bodyW ln3 ln2 ln1
 simp
theorem pf1_in (c : Cd) (j : Nat) : ∃ r, textL c = pf1 c j ++ r := by
 refine ⟨((c.sign.drop j).map parWs).map joinW ++ ((regsT 0 c.regs).map joinW ++ ((slotsT 0 c.slots).map joinW ++ (c.list.map insWs).map joinW)), ?_⟩
 rw [textL_ln]
 unfold ln3 ln2 ln1 pf1
 have : c.sign.map parWs = (c.sign.take j).map parWs ++ (c.sign.drop j).map parWs := by rw [← List.map_append, List.take_append_drop]
 rw [this, List.map_append]
 simp only [List.append_assoc, List.cons_append]
theorem pf2_in (c : Cd) (j : Nat) : ∃ r, textL c = pf2 c j ++ r := by
 obtain ⟨r, hr⟩ := regsT_app (c.regs.take j) (c.regs.drop j) 0
 rw [List.take_append_drop] at hr
 refine ⟨r.map joinW ++ ((slotsT 0 c.slots).map joinW ++ (c.list.map insWs).map joinW), ?_⟩
 rw [textL_ln]
 unfold ln3 ln2 pf2
 rw [hr]
 simp
theorem pf3_in (c : Cd) (j : Nat) : ∃ r, textL c = pf3 c j ++ r := by
 obtain ⟨r, hr⟩ := slotsT_app (c.slots.take j) (c.slots.drop j) 0
 rw [List.take_append_drop] at hr
 refine ⟨r.map joinW ++ (c.list.map insWs).map joinW, ?_⟩
 rw [textL_ln]
 unfold ln3 pf3
 rw [hr]
 simp
theorem pf4_in (c : Cd) (j : Nat) : ∃ r, textL c = pf4 c j ++ r := by
 refine ⟨((c.list.drop j).map insWs).map joinW, ?_⟩
 rw [textL_ln]
 unfold pf4
 have : c.list.map insWs = (c.list.take j).map insWs ++ (c.list.drop j).map insWs := by rw [← List.map_append, List.take_append_drop]
 rw [this]
 simp
theorem pf_short {c : Cd} (h : OkA c) {a : List Bs} (ha : ∃ r, textL c = a ++ r) : (txt a).length ≤ 1000000000 := by
 obtain ⟨r, hr⟩ := ha
 have h1 := text_short h
 have h2 : textA c = txt a ++ txt r := by rw [← txt_app, ← hr]; rfl
 rw [h2, List.length_append] at h1
 omega
theorem pf1_next {c : Cd} {j : Nat} (h : j < c.sign.length) : txt (pf1 c (j + 1)) = txt (pf1 c j) ++ (joinW (parWs c.sign[j]) ++ [10]) := by
 rw [← txt_snoc]
 unfold pf1
 rw [List.take_succ_eq_append_getElem h, List.map_append, List.map_append]
 rfl
theorem pf2_next {c : Cd} {j : Nat} (h : j < c.regs.length) : txt (pf2 c (j + 1)) = txt (pf2 c j) ++ (joinW (regWs (j : Int) c.regs[j]) ++ [10]) := by
 rw [← txt_snoc]
 unfold pf2
 rw [List.take_succ_eq_append_getElem h, regsT_snoc, List.length_take, show 0 + min j c.regs.length = j by omega]
 simp
theorem pf3_next {c : Cd} {j : Nat} (h : j < c.slots.length) : txt (pf3 c (j + 1)) = txt (pf3 c j) ++ (joinW (slotWs (j : Int) c.slots[j]) ++ [10]) := by
 rw [← txt_snoc]
 unfold pf3
 rw [List.take_succ_eq_append_getElem h, slotsT_snoc, List.length_take, show 0 + min j c.slots.length = j by omega]
 simp
theorem pf4_next {c : Cd} {j : Nat} (h : j < c.list.length) : txt (pf4 c (j + 1)) = txt (pf4 c j) ++ (joinW (insWs c.list[j]) ++ [10]) := by
 rw [← txt_snoc]
 unfold pf4
 rw [List.take_succ_eq_append_getElem h, List.map_append, List.map_append, ← List.append_assoc]
 rfl
theorem pf1_all {c : Cd} : pf1 c c.sign.length = pf2 c 0 := by unfold pf1 pf2 ln1; simp [regsT]
theorem pf2_all {c : Cd} : pf2 c c.regs.length = pf3 c 0 := by unfold pf2 pf3 ln2; simp [slotsT]
theorem pf3_all {c : Cd} : pf3 c c.slots.length = pf4 c 0 := by unfold pf3 pf4 ln3; simp
theorem pf4_all {c : Cd} : txt (pf4 c c.list.length) = textA c := by
 unfold textA
 rw [textL_ln]
 unfold pf4
 simp [txt]
theorem join_in {a b : Bs} {m : List Bs} (h : m ≠ []) : joinW [a, b, joinW m] = joinW (a :: b :: m) := by
 rw [show joinW (a :: b :: m) = a ++ 32 :: joinW (b :: m) from join_cons (by simp), join_cons h]
 rfl
theorem slot_ne (s : Sl) : ((if s.keep then keepB else localB) :: (typWs s.ty ++ [if s.ty.kind = 2 then numT s.int_ else hexT s.bits])) ≠ [] := by simp
end Go.Proofs.YtgcmnkanjcfndaaGreatDoor
namespace Go.Proofs.YtgcmnkanjcfndaaGreatDoor
open Go.RowKit
set_option linter.unusedVariables false
set_option linter.unusedSimpArgs false
theorem sof_bsA (s : ByteArray) : sof (bs s) = s := by cases s; simp [bs, sof]
theorem words_cells (w : World) (ws : List Bs) (cs : Array Value) (h : cs.toList = ws.map fun x => .string (sof x)) (i : Nat) (hi : i < ws.length) : (w.alloc (.cells cs 9)).cell? ⟨w.heap.size, i, none⟩ = some (.string (sof ws[i])) := by
 have h9 := (row_list ws w cs 9 h).cell hi
 rw [h9, List.getElem?_eq_getElem hi]
 rfl
theorem own_cells {E : Nat} {w : World} {q : Option Addr} {d : Nat} {ws : List Bs} (h : w.ownsRow E 9 1 (.slice q ws.length d) ws.length (strS ws)) (h0 : 0 < ws.length) : ∃ g : Nat, q = some ⟨g, 0, none⟩ ∧ ws.length ≤ d ∧ ∀ i (hi : i < ws.length), w.cell? ⟨g, i, none⟩ = some (.string (sof ws[i])) := by
 rcases h.2 with ⟨e1, e2⟩ | ⟨g, cap, cur, e1, hE, hg, hn, -⟩
 ·exact absurd e2 (by omega)
 ·simp only [Value.slice.injEq] at e1
  refine ⟨g, e1.1, by rw [e1.2.2]; exact hn, fun i hi => ?_⟩
  have hob : (Value.slice q ws.length d).ownBlock = some g := by rw [e1.1]; rfl
  have hc := h.cells hob i (.string (sof ws[i])) (by simp [strS, hi])
  have hadd : (⟨g, 0, none⟩ : Addr).add i = ⟨g, i, none⟩ := by unfold Addr.add; split <;> simp_all
  rw [hadd] at hc
  exact hc
theorem kind_in {p : Par} (h : mayP p = true) : p.kind = 1 ∨ p.kind = 2 := by
 unfold mayP at h
 simp only [Bool.and_eq_true, Bool.or_eq_true, beq_iff_eq] at h
 exact h.1.2
theorem len_in {p : Par} (h : mayP p = true) : 0 ≤ p.len ∧ p.len ≤ 4096 := by
 unfold mayP at h
 simp only [Bool.and_eq_true, decide_eq_true_eq] at h
 exact ⟨by omega, h.2.2⟩
theorem numT_le {n : Int} (h : n ≤ 2147483647) : (numT n).length ≤ 1000000 := Nat.le_trans (num_len h) (by decide)
theorem par_le {p : Par} (h : mayP p = true) : ∀ y ∈ ([paramB, bs p.name, kindT p.kind, numT p.len] : List Bs), y.length ≤ 1000000 := by
 intro y hy
 have h1 := len_in h
 simp only [List.mem_cons, List.not_mem_nil, or_false] at hy
 rcases hy with rfl | rfl | rfl | rfl
 ·decide
 ·unfold mayP namedP at h
  simp only [Bool.and_eq_true, decide_eq_true_eq] at h
  rw [bs_length]
  have := h.1.1.1.2
  omega
 ·rcases kind_in h with e | e <;> rw [e] <;> decide
 ·exact numT_le (by omega)
theorem reg_le {j : Nat} (hj : j ≤ 16384) {t : Ty} (h : okTy t) : ∀ y ∈ ([regB, numT (j : Int), joinW (typWs t)] : List Bs), y.length ≤ 1000000 := by
 intro y hy
 simp only [List.mem_cons, List.not_mem_nil, or_false] at hy
 rcases hy with rfl | rfl | rfl
 ·decide
 ·exact numT_le (by omega)
 ·exact Nat.le_trans (typ_le h) (by decide)
theorem slot_le {j : Nat} (hj : j ≤ 4096) {s : Sl} (h : okSl s) : ∀ y ∈ ([slotB, numT (j : Int), joinW ((if s.keep then keepB else localB) :: (typWs s.ty ++ [if s.ty.kind = 2 then numT s.int_ else hexT s.bits]))] : List Bs), y.length ≤ 1000000 := by
 intro y hy
 simp only [List.mem_cons, List.not_mem_nil, or_false] at hy
 rcases hy with rfl | rfl | rfl
 ·decide
 ·exact numT_le (by omega)
 ·rw [join_flat (typ_ne _)]
  have h1 := typ_le h.1
  have h2 : (if s.keep = true then keepB else localB).length ≤ 5 := by split <;> decide
  have h3 : (if s.ty.kind = 2 then numT s.int_ else hexT s.bits).length ≤ 10 := by
   have h4 := h.2
   split
   ·rename_i q; rw [if_pos q] at h4; exact num_len h4.2.2
   ·show (hexB s.bits).data.toList.length ≤ 10
    have := hexB_size s.bits
    rw [← bs_length] at this
    show (bs (hexB s.bits)).length ≤ 10
    omega
  simp only [List.length_append, List.length_cons]
  omega
theorem ins_six {i : Ins} (h : okIn i) : 1 ≤ (insWs i).length ∧ (insWs i).length ≤ 6 := by
 rw [ins_ws i.op.toNat (by have := h.1; omega) (by have := h.1; omega) (by have := h.1; omega)]
 have h1 := rgO_len i
 have h2 : (endS i i.op.toNat).length ≤ 1 := by unfold endS; split; simp; split <;> simp
 rw [List.length_cons, List.length_append, List.length_map]
 omega
theorem ins_le {i : Ins} (h : okIn i) : ∀ y ∈ insWs i, y.length ≤ 1000000 := by
 have h9 := h
 rw [ins_ws i.op.toNat (by have := h.1; omega) (by have := h.1; omega) (by have := h.1; omega)]
 intro y hy
 rcases List.mem_cons.1 hy with rfl | hy
 ·obtain ⟨k, hk⟩ : ∃ k : Nat, i.op = (k : Int) + 1 := ⟨(i.op - 1).toNat, by have := h.1; omega⟩
  rw [hk]
  exact Nat.le_trans (op_length k (by have := h.1; omega)) (by decide)
 rcases List.mem_append.1 hy with hy | hy
 ·obtain ⟨o, -, rfl⟩ := List.mem_map.1 hy
  show (114 :: numT _).length ≤ _
  rw [List.length_cons]
  have := num_len (getA_in h9 o).2
  omega
 ·unfold endS at hy
  split at hy
  ·rw [List.mem_singleton.1 hy]; exact numT_le (okE_n h.2.2.2.2.2).2
  split at hy
  ·rw [List.mem_singleton.1 hy]
   show (bs (hexB i.bits)).length ≤ _
   rw [bs_length, hexB_size]
   decide
  ·cases hy
set_option maxRecDepth 100000 in
set_option maxHeartbeats 64000000 in
theorem textOf_any (C : Nat) (c : Cd) (hk : OkA c) (v0 v1 v2 v3 : Value) (w : World) (hL : Laid w) (hr : w.rowIs C 27 4 (f4 v0 v1 v2 v3)) (hc : CdV w v0 v1 v2 v3 c) :
  Calls Tryz.prog 16 #[.pointer (some ⟨C, 0, none⟩)] w fun e w' => e = .returned (.string (sof (textA c))) ∧ Below w.heap.size w w' := by
 obtain ⟨q0, d0, rfl, -⟩ := id hc.sign
 obtain ⟨q1, d1, rfl, -⟩ := id hc.regs
 obtain ⟨q2, d2, rfl, -⟩ := id hc.slots
 obtain ⟨q3, d3, rfl, -⟩ := id hc.list
 obtain ⟨N0, hN0⟩ : ∃ N, c.sign.length = N := ⟨_, rfl⟩
 obtain ⟨N1, hN1⟩ : ∃ N, c.regs.length = N := ⟨_, rfl⟩
 obtain ⟨N2, hN2⟩ : ∃ N, c.slots.length = N := ⟨_, rfl⟩
 obtain ⟨N3, hN3⟩ : ∃ N, c.list.length = N := ⟨_, rfl⟩
 rw [hN0, hN1, hN2, hN3] at hc hr
 have HN := hidC (And.intro hN0 (And.intro hN1 (And.intro hN2 hN3)))
 obtain ⟨E, hE⟩ : ∃ E, w.heap.size = E := ⟨_, rfl⟩
 have HE := hidC hE
 have HK := hidC hk
 have HC : Hid (∀ x, Below E w x → x.cell? ⟨C, 0, none⟩ = some (.slice q0 N0 d0) ∧ x.cell? ⟨C, 1, none⟩ = some (.slice q1 N1 d1) ∧ x.cell? ⟨C, 2, none⟩ = some (.slice q2 N2 d2) ∧ x.cell? ⟨C, 3, none⟩ = some (.slice q3 N3 d3) ∧ CdV x (.slice q0 N0 d0) (.slice q1 N1 d1) (.slice q2 N2 d2) (.slice q3 N3 d3) c) := fun x k => by
  rw [← hE] at k
  have hr' := hr.of_block (k.block _ hr.lt)
  obtain ⟨a0, a1, a2, a3⟩ := c4 hr'
  exact ⟨a0, a1, a2, a3, hc.below k⟩
 have HLA : Hid (∀ x, Below E w x → Laid x) := fun x k => by rw [← hE] at k; exact hL.below k
 clear hN0 hN1 hN2 hN3 hr hc hk hL
 go_enter Tryz.func16, Tryz.ntmps16
 go_upto_region 2 with (first
  | (go_at_call 38; (with_reducible refine (sortWords_any _).mono ?_); rintro e w1 ⟨P0, rfl, g1, r1, b1⟩)
  | (go_at_call 39; (with_reducible refine (kindWords_any _).mono ?_); rintro e w2 ⟨P1, rfl, g2, r2, b2⟩)
  | (go_at_call 40; (with_reducible refine (typeWords_any _).mono ?_); rintro e w3 ⟨P2, rfl, g3, r3, b3⟩)
  | (go_at_call 41; (with_reducible refine (keepWords_any _).mono ?_); rintro e w4 ⟨P3, rfl, g4, r4, b4⟩)
  | (go_at_call 42; (with_reducible refine (opWords_any _).mono ?_); rintro e w5 ⟨P4, rfl, g5, r5, b5⟩))
 obtain ⟨V, hV⟩ : ∃ V, w5.alloc (.cells #[.pointer none, .slice none 0 0, .slice (some ⟨P0, 0, none⟩) 3 3, .slice (some ⟨P1, 0, none⟩) 3 3, .slice (some ⟨P2, 0, none⟩) 4 4, .slice (some ⟨P3, 0, none⟩) 2 2, .slice (some ⟨P4, 0, none⟩) 38 38] 101) = V := ⟨_, rfl⟩
 obtain ⟨WB, hWB⟩ : ∃ W, w5.heap.size = W := ⟨_, rfl⟩
 have hb0 : Below w5.heap.size w5 V := by rw [← hV]; exact bel_alloc _ _
 have c5 := b5
 have c4' := bel b4 c5
 have c3' := bel b3 c4'
 have c2' := bel b2 c3'
 have c1' := bel b1 c2'
 have hlW : E ≤ WB := by have := c1'.size; omega
 have hA : WrA E WB P0 P1 P2 P3 P4 (.pointer none) (.slice none 0 0) [] V := by
  refine ⟨⟨hlW, ?_, ⟨rfl, .inl ⟨rfl, rfl⟩⟩, .inl rfl⟩, ?_, ?_, ?_, ?_, ?_⟩
  ·rw [← hV, ← hWB]
   exact World.rowIs_alloc w5 #[.pointer none, .slice none 0 0, .slice (some ⟨P0, 0, none⟩) 3 3, .slice (some ⟨P1, 0, none⟩) 3 3, .slice (some ⟨P2, 0, none⟩) 4 4, .slice (some ⟨P3, 0, none⟩) 2 2, .slice (some ⟨P4, 0, none⟩) 38 38] _ _ (fun i hi => by
    rcases (show i = 0 ∨ i = 1 ∨ i = 2 ∨ i = 3 ∨ i = 4 ∨ i = 5 ∨ i = 6 by have : i < 7 := hi; omega) with rfl | rfl | rfl | rfl | rfl | rfl | rfl <;> rfl)
  ·exact (r1.of_block (c2'.block _ r1.lt)).of_block (hb0.block _ (Nat.lt_of_lt_of_le r1.lt c2'.size))
  ·exact (r2.of_block (c3'.block _ r2.lt)).of_block (hb0.block _ (Nat.lt_of_lt_of_le r2.lt c3'.size))
  ·exact (r3.of_block (c4'.block _ r3.lt)).of_block (hb0.block _ (Nat.lt_of_lt_of_le r3.lt c4'.size))
  ·exact (r4.of_block (c5.block _ r4.lt)).of_block (hb0.block _ (Nat.lt_of_lt_of_le r4.lt c5.size))
  ·exact r5.of_block (hb0.block _ r5.lt)
 have hBV : Below E w V := by have h9 := bel c1' hb0; rw [hE] at h9; exact h9
 have HLINE : Hid (Calls Tryz.prog 43 #[.pointer (some ⟨WB, 0, none⟩), .slice (some ⟨V.heap.size, 0, none⟩) 1 1] (V.alloc (.cells #[.string ⟨#[108, 97, 116, 104, 101, 32, 49]⟩] 9)) fun e w' => e = .returned (.tuple #[]) ∧ ((∃ p v, WrA E WB P0 P1 P2 P3 P4 p v (txt (pf1 c 0)) w') ∧ Below E w w')) := by
  have hal := bel_alloc V (.cells #[.string ⟨#[108, 97, 116, 104, 101, 32, 49]⟩] 9)
  have hEV : E ≤ V.heap.size := by have := hb0.size; omega
  refine (alinew_any E WB P0 P1 P2 P3 P4 _ _ [] V.heap.size [headB] 1 _ (hA.below hal) (by decide) (by simp) (by simp) (fun y hy => by rw [List.mem_singleton.1 hy]; decide) (fun i hi => words_cells V [headB] _ rfl i hi) (by simp)).mono ?_
  rintro e w' ⟨h1, p', v', h2, h3, h4⟩
  exact ⟨h1, ⟨p', v', h2⟩, (hBV.trans (hal.mono hEV)).trans h3⟩
 try rw [hV]
 try rw [hWB]
 clear hA hBV hlW c1' c2' c3' c4' c5 hb0 hV hWB r1 r2 r3 r4 r5 b1 b2 b3 b4 b5 g1 g2 g3 g4 g5 hE
 go_upto_region 3 with (go_at_call 43; (with_reducible refine HLINE.out.mono ?_); rintro e u4 ⟨rfl, hq4⟩; have HPRE := hidC hq4; clear hq4)
 obtain ⟨z0, z1, z2, z3, -⟩ := HC.out u4 HPRE.out.2
 go_wp2_with fail
 go_loopw [25] (fun iv wx => ∃ j : Nat, j ≤ N0 ∧ iv = .int .i64 (j : Int) ∧ Hid ((∃ p v, WrA E WB P0 P1 P2 P3 P4 p v (txt (pf1 c j)) wx) ∧ Below E w wx)) (fun iv _ => N0 - (intOf iv).toNat)
 case atStart => exact ⟨0, Nat.zero_le _, rfl, HPRE.out⟩
 case round =>
  clear z0 z1 z2 z3
  clear HPRE
  obtain ⟨j, hj, rfl, HJ⟩ := hrel
  obtain ⟨⟨p, v, hA⟩, hB⟩ := HJ.out
  by_cases hlt : j < N0
  ·have hjl : j < c.sign.length := by rw [HN.out.1]; exact hlt
   obtain ⟨-, -, -, -, hcv⟩ := HC.out wr hB
   obtain ⟨rb, ro, rfl, hcl⟩ := hcv.sign.at hjl
   have hx := HK.out.sign c.sign[j] (List.getElem_mem hjl)
   have hnext := pf1_next hjl
   obtain ⟨x, hxe⟩ : ∃ x, c.sign[j] = x := ⟨_, rfl⟩
   rw [hxe] at hcl hx hnext
   obtain ⟨V, hV⟩ : ∃ V, wr.alloc (.cells #[.string (x.name), .int .i64 (x.kind), .int .i64 (x.len)] 48) = V := ⟨_, rfl⟩
   obtain ⟨X, hXX⟩ : ∃ X, wr.heap.size = X := ⟨_, rfl⟩
   have hbV : Below wr.heap.size wr V := by rw [← hV]; exact bel_alloc _ _
   have hrX : V.rowIs X 48 3 (g3 (.string (x.name)) (.int .i64 (x.kind)) (.int .i64 (x.len))) := by rw [← hV, ← hXX]; exact q3_new _ _ _ _ _
   have hEr : E ≤ wr.heap.size := by have := hA.bd.le; have := hA.bd.row.lt; omega
   have hBV : Below E w V := hB.trans (hbV.mono hEr)
   have hAV := hA.below hbV
   have hXW : X ≠ WB := by have := hA.bd.row.lt; omega
   have y0 := hcl.at 0 (v := .string (x.name)) rfl
   rw [Nat.add_zero] at y0
   have y1 := hcl.at 1 (v := .int .i64 (x.kind)) rfl
   have y2 := hcl.at 2 (v := .int .i64 (x.len)) rfl
   have n9 : ¬ rb = wr.heap.size := by have : rb < wr.heap.size := mcell_lt y0; omega
   have i1 : (0 : Int) ≤ (j : Int) := by omega
   have i2 : (j : Int) < (N0 : Int) := by omega
   have wi : IntKind.i64.wrap ((j : Int) + 1) = ((j + 1 : Nat) : Int) := by have := HK.out.s; rw [IntKind.wrap_i64]; omega
   have hsh := pf_short HK.out (pf1_in c j)
   have HLV := hidC (HLA.out V hBV)
   obtain ⟨A0, hA0⟩ : ∃ A, sof paramB = A := ⟨_, rfl⟩
   obtain ⟨LN, hLN⟩ : ∃ A, sof (numT x.len) = A := ⟨_, rfl⟩
   obtain ⟨NM, hNM⟩ : ∃ A, x.name = A := ⟨_, rfl⟩
   obtain ⟨KD, hKD, hKD3, hKT⟩ : ∃ k : Nat, x.kind = (k : Int) ∧ k < 3 ∧ kindT x.kind = (kindL[k]?).getD [] := by
    rcases kind_in hx with e | e
    ·exact ⟨1, e, by decide, by rw [e]; rfl⟩
    ·exact ⟨2, e, by decide, by rw [e]; rfl⟩
   obtain ⟨A1, hA1⟩ : ∃ A, sof (kindT x.kind) = A := ⟨_, rfl⟩
   have hlen := len_in hx
   have hwords : (#[.string A0, .string NM, .string A1, .string LN] : Array Value).toList = ([paramB, bs x.name, kindT x.kind, numT x.len] : List Bs).map fun x => .string (sof x) := by
    show [.string A0, .string NM, .string A1, .string LN] = [Value.string (sof paramB), Value.string (sof (bs x.name)), Value.string (sof (kindT x.kind)), Value.string (sof (numT x.len))]
    rw [← hA0, ← hLN, ← hA1]
    rw [← hNM, sof_bsA]
   have hwl : ∀ y ∈ ([paramB, bs x.name, kindT x.kind, numT x.len] : List Bs), y.length ≤ 1000000 := par_le hx
   have hFA : ∀ (u : World) p' v' l', WrA E WB P0 P1 P2 P3 P4 p' v' l' u → u.rowIs X 48 3 (g3 (.string (x.name)) (.int .i64 (x.kind)) (.int .i64 (x.len))) → u.cell? ⟨WB, 2, none⟩ = some (.slice (some ⟨P0, 0, none⟩) 3 3) ∧ u.cell? ⟨P0, 0, none⟩ = some (.string A0) ∧ u.cell? ⟨WB, 3, none⟩ = some (.slice (some ⟨P1, 0, none⟩) 3 3) ∧ u.cell? ⟨P1, KD, none⟩ = some (.string A1) ∧ u.cell? ⟨X, 0, none⟩ = some (.string NM) ∧ u.cell? ⟨X, 1, none⟩ = some (.int .i64 (KD : Int)) ∧ u.cell? ⟨X, 2, none⟩ = some (.int .i64 (x.len)) := fun u p' v' l' h9 hr9 => by
    refine ⟨?_, ?_, ?_, ?_, ?_, ?_, ?_⟩
    ·exact h9.bd.row.cell (i := 2) (by decide)
    ·rw [← hA0]; exact h9.sorts.cell (i := 0) (by decide)
    ·exact h9.bd.row.cell (i := 3) (by decide)
    ·rw [← hA1, hKT]; exact h9.kinds.cell (i := KD) hKD3
    ·rw [← hNM]; exact hr9.cell (i := 0) (by decide)
    ·rw [← hKD]; exact hr9.cell (i := 1) (by decide)
    ·exact hr9.cell (i := 2) (by decide)
   have HFA := hidC hFA
   have HLINE : Hid (∀ u, Below V.heap.size V u → Calls Tryz.prog 43 #[.pointer (some ⟨WB, 0, none⟩), .slice (some ⟨u.heap.size, 0, none⟩) 4 4] (u.alloc (.cells #[.string A0, .string NM, .string A1, .string LN] 9)) fun e w' => e = .returned (.tuple #[]) ∧ ((∃ p v, WrA E WB P0 P1 P2 P3 P4 p v (txt (pf1 c (j + 1))) w') ∧ Below E w w') ∧ (w'.cell? ⟨WB, 2, none⟩ = some (.slice (some ⟨P0, 0, none⟩) 3 3) ∧ w'.cell? ⟨P0, 0, none⟩ = some (.string A0) ∧ w'.cell? ⟨WB, 3, none⟩ = some (.slice (some ⟨P1, 0, none⟩) 3 3) ∧ w'.cell? ⟨P1, KD, none⟩ = some (.string A1) ∧ w'.cell? ⟨X, 0, none⟩ = some (.string NM) ∧ w'.cell? ⟨X, 1, none⟩ = some (.int .i64 (KD : Int)) ∧ w'.cell? ⟨X, 2, none⟩ = some (.int .i64 (x.len)))) := fun u ku => by
    have hu := hAV.below ku
    have hal := bel_alloc u (.cells #[.string A0, .string NM, .string A1, .string LN] 9)
    have hu2 := hu.below hal
    have hru := (hrX.of_block (ku.block _ hrX.lt)).of_block (hal.block _ (Nat.lt_of_lt_of_le hrX.lt ku.size))
    have hEV : E ≤ V.heap.size := Nat.le_trans hEr hbV.size
    refine (alinew_any E WB P0 P1 P2 P3 P4 p v (txt (pf1 c j)) u.heap.size [paramB, bs x.name, kindT x.kind, numT x.len] 4 _ hu2 hsh (by simp) (by simp) hwl (fun i hi => words_cells u _ _ hwords i hi) (by simp)).mono ?_
    rintro e w' ⟨h1, p', v', h2, h3, h4⟩
    refine ⟨h1, ⟨⟨p', v', by rw [hnext]; exact h2⟩, ((hBV.trans (ku.mono hEV)).trans (hal.mono (Nat.le_trans hEV ku.size))).trans h3⟩, hFA w' p' v' _ h2 (h4.row hru (by decide) hXW)⟩
   have HN1 : Hid (∀ u, Laid u → Calls Tryz.prog 44 #[.int .i64 x.len] u fun e w' => e = .returned (.string LN) ∧ Below u.heap.size u w') := fun u hu => by
    rw [← hLN, ← itoa_num (by omega)]
    exact anum_any x.len (by omega) (by omega) u hu
   have HAV := hidC hAV
   have HRX := hidC hrX
   obtain ⟨s0, s1, s2, s3, s4, s5, s6⟩ := hFA V p v _ hAV hrX
   have HFV : Hid (∀ u, Below V.heap.size V u → u.cell? ⟨WB, 2, none⟩ = some (.slice (some ⟨P0, 0, none⟩) 3 3) ∧ u.cell? ⟨P0, 0, none⟩ = some (.string A0) ∧ u.cell? ⟨WB, 3, none⟩ = some (.slice (some ⟨P1, 0, none⟩) 3 3) ∧ u.cell? ⟨P1, KD, none⟩ = some (.string A1) ∧ u.cell? ⟨X, 0, none⟩ = some (.string NM) ∧ u.cell? ⟨X, 1, none⟩ = some (.int .i64 (KD : Int)) ∧ u.cell? ⟨X, 2, none⟩ = some (.int .i64 (x.len))) := fun u ku => HFA.out u p v _ (HAV.out.below ku) (HRX.out.of_block (ku.block _ HRX.out.lt))
   obtain ⟨t0, t1, t2, t3, t4, t5, t6⟩ := HFV.out V.drew (bel_d V)
   have k0 : (0 : Int) ≤ (KD : Int) := by omega
   have k3 : (KD : Int) < 3 := by omega
   clear hA hB HJ hlt hjl hcv hcl hx hnext hxe hbV hrX hEr hBV hAV hXW hsh hA0 hLN hwords hwl hFA hNM hKT hA1 hlen
   go_upto_region 6 with fail
   try rw [hNM] at hV
   try rw [hKD] at hV
   try rw [hV]
   try rw [hXX]
   clear hV hXX hKD
   refine wp_region_held_drew (S := (fun v => v.cell? ⟨WB, 2, none⟩ = some (.slice (some ⟨P0, 0, none⟩) 3 3) ∧ v.cell? ⟨P0, 0, none⟩ = some (.string A0) ∧ v.cell? ⟨WB, 3, none⟩ = some (.slice (some ⟨P1, 0, none⟩) 3 3) ∧ v.cell? ⟨P1, KD, none⟩ = some (.string A1) ∧ v.cell? ⟨X, 0, none⟩ = some (.string NM) ∧ v.cell? ⟨X, 1, none⟩ = some (.int .i64 (KD : Int)) ∧ v.cell? ⟨X, 2, none⟩ = some (.int .i64 (x.len)))) (by kernel_rfl) ?_ (fun hHeld => ?_)
   ·((try dsimp only); go_keep)
   refine tkT 0 ?_
   refine tkT 1 ?_
   refine tkT 2 ?_
   refine tkT 3 ?_
   refine tkT 4 ?_
   refine tkT 5 ?_
   refine tkT 6 ?_
   refine tkT 7 ?_
   refine tkT 8 ?_
   refine tkT 9 ?_
   refine tkT 10 ?_
   refine tkT 11 ?_
   refine tkT 12 ?_
   refine tkT 13 ?_
   clear hHeld
   refine wpAnyH_ready (rs := [14]) (by kernel_rfl) (by simp) ?_
   refine AllReadyH.cons (i := 14) (by simp only [List.getElem?_toArray, List.getElem?_cons_succ, List.getElem?_cons_zero]; rfl) (fun K hK => ?_) AllReadyH.nil
   go_simp
   (go_at_call 44; (with_reducible refine (HN1.out _ (HLV.out.below (bel_d V))).mono ?_); rintro e u2 ⟨rfl, bb2⟩; have hb3 := bel (bel_d V) bb2; have HB2 := hidC hb3; obtain ⟨m0, m1, m2, m3, m4, m5, m6⟩ := HFV.out u2 hb3; clear bb2 hb3)
   try (go_wp2_with fail)
   refine hK.out _ _ ?_ (fun hHeld => ?_)
   ·((try dsimp only); go_keep)
   clear hK K
   try simp only [Act.put, List.setIfInBounds_toArray, List.set_cons_zero, List.set_cons_succ]
   clear hHeld
   refine wpAnyH_ready (rs := [15]) (by kernel_rfl) (by simp) ?_
   refine AllReadyH.cons (i := 15) (by simp only [List.getElem?_toArray, List.getElem?_cons_succ, List.getElem?_cons_zero]; rfl) (fun K hK => ?_) AllReadyH.nil
   go_simp
   refine hK.out _ _ ?_ (fun hHeld => ?_)
   ·((try dsimp only); go_keep)
   clear hK K
   try simp only [Act.put, List.setIfInBounds_toArray, List.set_cons_zero, List.set_cons_succ]
   clear hHeld
   refine wpAnyH_ready (rs := [16]) (by kernel_rfl) (by simp) ?_
   refine AllReadyH.cons (i := 16) (by simp only [List.getElem?_toArray, List.getElem?_cons_succ, List.getElem?_cons_zero]; rfl) (fun K hK => ?_) AllReadyH.nil
   go_simp
   (go_at_call 43; (with_reducible refine (HLINE.out _ HB2.out).mono ?_); rintro e u4 ⟨rfl, hq4, o0, o1, o2, o3, o4, o5, o6⟩; have HQ4 := hidC hq4; clear hq4)
   try (go_wp2_with fail)
   refine hK.out _ _ ?_ (fun hHeld => ?_)
   ·((try dsimp only); go_keep)
   clear hK K
   try simp only [Act.put, List.setIfInBounds_toArray, List.set_cons_zero, List.set_cons_succ]
   refine wpAnyH_done (by kernel_rfl) ?_ _
   try go_wp2_with fail
   go_roundw
   case rel => exact ⟨j + 1, by omega, by go_num, HQ4.out⟩
   case measure => simp [intOf]; omega
  ·have e1 : ¬ (j : Int) < (N0 : Int) := by omega
   have hje : j = c.sign.length := by rw [HN.out.1]; omega
   rw [hje, pf1_all] at hA
   obtain ⟨z0, z1, z2, z3, -⟩ := HC.out wr hB
   have HPRE : Hid ((∃ p v, WrA E WB P0 P1 P2 P3 P4 p v (txt (pf2 c 0)) wr) ∧ Below E w wr) := ⟨⟨p, v, hA⟩, hB⟩
   clear hA hB HJ hje hlt hj
   go_wp2_with fail
   obtain ⟨W1, hW1⟩ : ∃ W, wr = W := ⟨_, rfl⟩
   go_loopw [52] (fun iv wx => ∃ j : Nat, j ≤ N1 ∧ iv = .int .i64 (j : Int) ∧ Hid ((∃ p v, WrA E WB P0 P1 P2 P3 P4 p v (txt (pf2 c j)) wx) ∧ Below E w wx)) (fun iv _ => N1 - (intOf iv).toNat)
   case atStart => exact ⟨0, Nat.zero_le _, rfl, HPRE.out⟩
   case round =>
    clear z0 z1 z2 z3 e1 hW1
    clear HPRE
    obtain ⟨j, hj, rfl, HJ⟩ := hrel
    obtain ⟨⟨p, v, hA⟩, hB⟩ := HJ.out
    by_cases hlt : j < N1
    ·have hjl : j < c.regs.length := by rw [HN.out.2.1]; exact hlt
     obtain ⟨-, -, -, -, hcv⟩ := HC.out wr hB
     obtain ⟨rb, ro, rfl, hcl⟩ := hcv.regs.at hjl
     have hx := HK.out.regs c.regs[j] (List.getElem_mem hjl)
     have hnext := pf2_next hjl
     obtain ⟨x, hxe⟩ : ∃ x, c.regs[j] = x := ⟨_, rfl⟩
     rw [hxe] at hcl hx hnext
     obtain ⟨V, hV⟩ : ∃ V, wr.alloc (.cells #[.int .i64 (x.kind), .int .i64 (x.par)] 50) = V := ⟨_, rfl⟩
     obtain ⟨X, hXX⟩ : ∃ X, wr.heap.size = X := ⟨_, rfl⟩
     have hbV : Below wr.heap.size wr V := by rw [← hV]; exact bel_alloc _ _
     have hrX : V.rowIs X 50 2 (g2 (.int .i64 (x.kind)) (.int .i64 (x.par))) := by rw [← hV, ← hXX]; exact q2_new _ _ _ _
     have hEr : E ≤ wr.heap.size := by have := hA.bd.le; have := hA.bd.row.lt; omega
     have hBV : Below E w V := hB.trans (hbV.mono hEr)
     have hAV := hA.below hbV
     have hXW : X ≠ WB := by have := hA.bd.row.lt; omega
     have y0 := hcl.at 0 (v := .int .i64 (x.kind)) rfl
     rw [Nat.add_zero] at y0
     have y1 := hcl.at 1 (v := .int .i64 (x.par)) rfl
     have n9 : ¬ rb = wr.heap.size := by have : rb < wr.heap.size := mcell_lt y0; omega
     have i1 : (0 : Int) ≤ (j : Int) := by omega
     have i2 : (j : Int) < (N1 : Int) := by omega
     have wi : IntKind.i64.wrap ((j : Int) + 1) = ((j + 1 : Nat) : Int) := by have := HK.out.r; rw [IntKind.wrap_i64]; omega
     have hsh := pf_short HK.out (pf2_in c j)
     have HLV := hidC (HLA.out V hBV)
     obtain ⟨A0, hA0⟩ : ∃ A, sof regB = A := ⟨_, rfl⟩
     obtain ⟨LN, hLN⟩ : ∃ A, sof (numT (j : Int)) = A := ⟨_, rfl⟩
     obtain ⟨TT, hTT⟩ : ∃ A, sof (joinW (typWs x)) = A := ⟨_, rfl⟩
     have hwords : (#[.string A0, .string LN, .string TT] : Array Value).toList = ([regB, numT (j : Int), joinW (typWs x)] : List Bs).map fun x => .string (sof x) := by
      show [.string A0, .string LN, .string TT] = [Value.string (sof regB), Value.string (sof (numT (j : Int))), Value.string (sof (joinW (typWs x)))]
      rw [← hA0, ← hLN, ← hTT]
     have hwl : ∀ y ∈ ([regB, numT (j : Int), joinW (typWs x)] : List Bs), y.length ≤ 1000000 := reg_le (by have := HN.out.2.1; have := HK.out.r; omega) hx
     have hFA : ∀ (u : World) p' v' l', WrA E WB P0 P1 P2 P3 P4 p' v' l' u → u.rowIs X 50 2 (g2 (.int .i64 (x.kind)) (.int .i64 (x.par))) → u.cell? ⟨WB, 2, none⟩ = some (.slice (some ⟨P0, 0, none⟩) 3 3) ∧ u.cell? ⟨P0, 1, none⟩ = some (.string A0) ∧ u.cell? ⟨X, 0, none⟩ = some (.int .i64 (x.kind)) ∧ u.cell? ⟨X, 1, none⟩ = some (.int .i64 (x.par)) := fun u p' v' l' h9 hr9 => by
      refine ⟨?_, ?_, ?_, ?_⟩
      ·exact h9.bd.row.cell (i := 2) (by decide)
      ·rw [← hA0]; exact h9.sorts.cell (i := 1) (by decide)
      ·exact hr9.cell (i := 0) (by decide)
      ·exact hr9.cell (i := 1) (by decide)
     have HFA := hidC hFA
     have HLINE : Hid (∀ u, Below V.heap.size V u → Calls Tryz.prog 43 #[.pointer (some ⟨WB, 0, none⟩), .slice (some ⟨u.heap.size, 0, none⟩) 3 3] (u.alloc (.cells #[.string A0, .string LN, .string TT] 9)) fun e w' => e = .returned (.tuple #[]) ∧ ((∃ p v, WrA E WB P0 P1 P2 P3 P4 p v (txt (pf2 c (j + 1))) w') ∧ Below E w w') ∧ (w'.cell? ⟨WB, 2, none⟩ = some (.slice (some ⟨P0, 0, none⟩) 3 3) ∧ w'.cell? ⟨P0, 1, none⟩ = some (.string A0) ∧ w'.cell? ⟨X, 0, none⟩ = some (.int .i64 (x.kind)) ∧ w'.cell? ⟨X, 1, none⟩ = some (.int .i64 (x.par)))) := fun u ku => by
      have hu := hAV.below ku
      have hal := bel_alloc u (.cells #[.string A0, .string LN, .string TT] 9)
      have hu2 := hu.below hal
      have hru := (hrX.of_block (ku.block _ hrX.lt)).of_block (hal.block _ (Nat.lt_of_lt_of_le hrX.lt ku.size))
      have hEV : E ≤ V.heap.size := Nat.le_trans hEr hbV.size
      refine (alinew_any E WB P0 P1 P2 P3 P4 p v (txt (pf2 c j)) u.heap.size [regB, numT (j : Int), joinW (typWs x)] 3 _ hu2 hsh (by simp) (by simp) hwl (fun i hi => words_cells u _ _ hwords i hi) (by simp)).mono ?_
      rintro e w' ⟨h1, p', v', h2, h3, h4⟩
      refine ⟨h1, ⟨⟨p', v', by rw [hnext]; rw [join_in (typ_ne _)] at h2; exact h2⟩, ((hBV.trans (ku.mono hEV)).trans (hal.mono (Nat.le_trans hEV ku.size))).trans h3⟩, hFA w' p' v' _ h2 (h4.row hru (by decide) hXW)⟩
     have HN1 : Hid (∀ u, Laid u → Calls Tryz.prog 44 #[.int .i64 (j : Int)] u fun e w' => e = .returned (.string LN) ∧ Below u.heap.size u w') := fun u hu => by
      rw [← hLN, ← itoa_num (by omega)]
      exact anum_any (j : Int) (by omega) (by have := HN.out.2.1; have := HK.out.r; omega) u hu
     have HTY : Hid (∀ u, Below V.heap.size V u → Calls Tryz.prog 45 #[.pointer (some ⟨WB, 0, none⟩), .agg #[.int .i64 x.kind, .int .i64 x.par]] u fun e w' => e = .returned (.string TT) ∧ Below u.heap.size u w') := fun u ku => by rw [← hTT]; exact atyped_any E WB P0 P1 P2 P3 P4 p v _ x hx u (HLV.out.below ku) (hAV.below ku)
     have HAV := hidC hAV
     have HRX := hidC hrX
     obtain ⟨s0, s1, s2, s3⟩ := hFA V p v _ hAV hrX
     have HFV : Hid (∀ u, Below V.heap.size V u → u.cell? ⟨WB, 2, none⟩ = some (.slice (some ⟨P0, 0, none⟩) 3 3) ∧ u.cell? ⟨P0, 1, none⟩ = some (.string A0) ∧ u.cell? ⟨X, 0, none⟩ = some (.int .i64 (x.kind)) ∧ u.cell? ⟨X, 1, none⟩ = some (.int .i64 (x.par))) := fun u ku => HFA.out u p v _ (HAV.out.below ku) (HRX.out.of_block (ku.block _ HRX.out.lt))
     obtain ⟨t0, t1, t2, t3⟩ := HFV.out V.drew (bel_d V)
     clear hA hB HJ hlt hjl hcv hcl hx hnext hxe hbV hrX hEr hBV hAV hXW hsh hA0 hLN hwords hwl hFA hTT
     go_upto_region 11 with fail
     try rw [hV]
     try rw [hXX]
     clear hV hXX 
     refine wp_region_held_drew (S := (fun v => v.cell? ⟨WB, 2, none⟩ = some (.slice (some ⟨P0, 0, none⟩) 3 3) ∧ v.cell? ⟨P0, 1, none⟩ = some (.string A0) ∧ v.cell? ⟨X, 0, none⟩ = some (.int .i64 (x.kind)) ∧ v.cell? ⟨X, 1, none⟩ = some (.int .i64 (x.par)))) (by kernel_rfl) ?_ (fun hHeld => ?_)
     ·((try dsimp only); go_keep)
     refine tkT 0 ?_
     refine tkT 1 ?_
     refine tkT 2 ?_
     refine tkT 3 ?_
     refine tkT 4 ?_
     refine tkT 6 ?_
     clear hHeld
     refine wpAnyH_ready (rs := [5]) (by kernel_rfl) (by simp) ?_
     refine AllReadyH.cons (i := 5) (by simp only [List.getElem?_toArray, List.getElem?_cons_succ, List.getElem?_cons_zero]; rfl) (fun K hK => ?_) AllReadyH.nil
     go_simp
     (go_at_call 44; (with_reducible refine (HN1.out _ (HLV.out.below (bel_d V))).mono ?_); rintro e u2 ⟨rfl, bb2⟩; have hb3 := bel (bel_d V) bb2; have HB2 := hidC hb3; obtain ⟨m0, m1, m2, m3⟩ := HFV.out u2 hb3; clear bb2 hb3)
     try (go_wp2_with fail)
     refine hK.out _ _ ?_ (fun hHeld => ?_)
     ·((try dsimp only); go_keep)
     clear hK K
     try simp only [Act.put, List.setIfInBounds_toArray, List.set_cons_zero, List.set_cons_succ]
     clear hHeld
     refine wpAnyH_ready (rs := [7]) (by kernel_rfl) (by simp) ?_
     refine AllReadyH.cons (i := 7) (by simp only [List.getElem?_toArray, List.getElem?_cons_succ, List.getElem?_cons_zero]; rfl) (fun K hK => ?_) AllReadyH.nil
     go_simp
     (go_at_call 45; (with_reducible refine (HTY.out _ HB2.out).mono ?_); rintro e u3 ⟨rfl, bb3⟩; have hb4 := bel HB2.out bb3; have HB3 := hidC hb4; clear m0 m1 m2 m3; obtain ⟨m0, m1, m2, m3⟩ := HFV.out u3 hb4; clear bb3 hb4)
     try (go_wp2_with fail)
     refine hK.out _ _ ?_ (fun hHeld => ?_)
     ·((try dsimp only); go_keep)
     clear hK K
     try simp only [Act.put, List.setIfInBounds_toArray, List.set_cons_zero, List.set_cons_succ]
     clear hHeld
     refine wpAnyH_ready (rs := [8]) (by kernel_rfl) (by simp) ?_
     refine AllReadyH.cons (i := 8) (by simp only [List.getElem?_toArray, List.getElem?_cons_succ, List.getElem?_cons_zero]; rfl) (fun K hK => ?_) AllReadyH.nil
     go_simp
     refine hK.out _ _ ?_ (fun hHeld => ?_)
     ·((try dsimp only); go_keep)
     clear hK K
     try simp only [Act.put, List.setIfInBounds_toArray, List.set_cons_zero, List.set_cons_succ]
     clear hHeld
     refine wpAnyH_ready (rs := [9]) (by kernel_rfl) (by simp) ?_
     refine AllReadyH.cons (i := 9) (by simp only [List.getElem?_toArray, List.getElem?_cons_succ, List.getElem?_cons_zero]; rfl) (fun K hK => ?_) AllReadyH.nil
     go_simp
     (go_at_call 43; (with_reducible refine (HLINE.out _ HB3.out).mono ?_); rintro e u4 ⟨rfl, hq4, o0, o1, o2, o3⟩; have HQ4 := hidC hq4; clear hq4)
     try (go_wp2_with fail)
     refine hK.out _ _ ?_ (fun hHeld => ?_)
     ·((try dsimp only); go_keep)
     clear hK K
     try simp only [Act.put, List.setIfInBounds_toArray, List.set_cons_zero, List.set_cons_succ]
     refine wpAnyH_done (by kernel_rfl) ?_ _
     try go_wp2_with fail
     go_roundw
     case rel => exact ⟨j + 1, by omega, by go_num, HQ4.out⟩
     case measure => simp [intOf]; omega
    ·have e1 : ¬ (j : Int) < (N1 : Int) := by omega
     have hje : j = c.regs.length := by rw [HN.out.2.1]; omega
     rw [hje, pf2_all] at hA
     obtain ⟨z0, z1, z2, z3, -⟩ := HC.out wr hB
     have HPRE : Hid ((∃ p v, WrA E WB P0 P1 P2 P3 P4 p v (txt (pf3 c 0)) wr) ∧ Below E w wr) := ⟨⟨p, v, hA⟩, hB⟩
     clear hA hB HJ hje hlt hj
     go_wp2_with fail
     obtain ⟨W2, hW2⟩ : ∃ W, wr = W := ⟨_, rfl⟩
     go_loopw [73] (fun iv wx => ∃ j : Nat, j ≤ N2 ∧ iv = .int .i64 (j : Int) ∧ Hid ((∃ p v, WrA E WB P0 P1 P2 P3 P4 p v (txt (pf3 c j)) wx) ∧ Below E w wx)) (fun iv _ => N2 - (intOf iv).toNat)
     case atStart => exact ⟨0, Nat.zero_le _, rfl, HPRE.out⟩
     case round =>
      clear z0 z1 z2 z3 e1 hW2
      clear HPRE
      obtain ⟨j, hj, rfl, HJ⟩ := hrel
      obtain ⟨⟨p, v, hA⟩, hB⟩ := HJ.out
      by_cases hlt : j < N2
      ·have hjl : j < c.slots.length := by rw [HN.out.2.2.1]; exact hlt
       obtain ⟨-, -, -, -, hcv⟩ := HC.out wr hB
       obtain ⟨rb, ro, rfl, hcl⟩ := hcv.slots.at hjl
       have hx := HK.out.slots c.slots[j] (List.getElem_mem hjl)
       have hnext := pf3_next hjl
       obtain ⟨x, hxe⟩ : ∃ x, c.slots[j] = x := ⟨_, rfl⟩
       rw [hxe] at hcl hx hnext
       obtain ⟨V, hV⟩ : ∃ V, wr.alloc (.cells #[.int .i64 (x.ty.kind), .int .i64 (x.ty.par), .bool (x.keep), .int .u32 (x.bits), .int .i64 (x.int_)] 60) = V := ⟨_, rfl⟩
       obtain ⟨X, hXX⟩ : ∃ X, wr.heap.size = X := ⟨_, rfl⟩
       have hbV : Below wr.heap.size wr V := by rw [← hV]; exact bel_alloc _ _
       have hrX : V.rowIs X 60 5 (g5 (.int .i64 (x.ty.kind)) (.int .i64 (x.ty.par)) (.bool (x.keep)) (.int .u32 (x.bits)) (.int .i64 (x.int_))) := by rw [← hV, ← hXX]; exact q5_new _ _ _ _ _ _ _
       have hEr : E ≤ wr.heap.size := by have := hA.bd.le; have := hA.bd.row.lt; omega
       have hBV : Below E w V := hB.trans (hbV.mono hEr)
       have hAV := hA.below hbV
       have hXW : X ≠ WB := by have := hA.bd.row.lt; omega
       have y0 := hcl.at 0 (v := .int .i64 (x.ty.kind)) rfl
       rw [Nat.add_zero] at y0
       have y1 := hcl.at 1 (v := .int .i64 (x.ty.par)) rfl
       have y2 := hcl.at 2 (v := .bool (x.keep)) rfl
       have y3 := hcl.at 3 (v := .int .u32 (x.bits)) rfl
       have y4 := hcl.at 4 (v := .int .i64 (x.int_)) rfl
       have n9 : ¬ rb = wr.heap.size := by have : rb < wr.heap.size := mcell_lt y0; omega
       have i1 : (0 : Int) ≤ (j : Int) := by omega
       have i2 : (j : Int) < (N2 : Int) := by omega
       have wi : IntKind.i64.wrap ((j : Int) + 1) = ((j + 1 : Nat) : Int) := by have := HK.out.l; rw [IntKind.wrap_i64]; omega
       have hsh := pf_short HK.out (pf3_in c j)
       have HLV := hidC (HLA.out V hBV)
       obtain ⟨A0, hA0⟩ : ∃ A, sof slotB = A := ⟨_, rfl⟩
       obtain ⟨LN, hLN⟩ : ∃ A, sof (numT (j : Int)) = A := ⟨_, rfl⟩
       obtain ⟨TT, hTT⟩ : ∃ A, sof (joinW ((if x.keep then keepB else localB) :: (typWs x.ty ++ [if x.ty.kind = 2 then numT x.int_ else hexT x.bits]))) = A := ⟨_, rfl⟩
       have hwords : (#[.string A0, .string LN, .string TT] : Array Value).toList = ([slotB, numT (j : Int), joinW ((if x.keep then keepB else localB) :: (typWs x.ty ++ [if x.ty.kind = 2 then numT x.int_ else hexT x.bits]))] : List Bs).map fun x => .string (sof x) := by
        show [.string A0, .string LN, .string TT] = [Value.string (sof slotB), Value.string (sof (numT (j : Int))), Value.string (sof (joinW ((if x.keep then keepB else localB) :: (typWs x.ty ++ [if x.ty.kind = 2 then numT x.int_ else hexT x.bits]))))]
        rw [← hA0, ← hLN, ← hTT]
       have hwl : ∀ y ∈ ([slotB, numT (j : Int), joinW ((if x.keep then keepB else localB) :: (typWs x.ty ++ [if x.ty.kind = 2 then numT x.int_ else hexT x.bits]))] : List Bs), y.length ≤ 1000000 := slot_le (by have := HN.out.2.2.1; have := HK.out.l; omega) hx
       have hFA : ∀ (u : World) p' v' l', WrA E WB P0 P1 P2 P3 P4 p' v' l' u → u.rowIs X 60 5 (g5 (.int .i64 (x.ty.kind)) (.int .i64 (x.ty.par)) (.bool (x.keep)) (.int .u32 (x.bits)) (.int .i64 (x.int_))) → u.cell? ⟨WB, 2, none⟩ = some (.slice (some ⟨P0, 0, none⟩) 3 3) ∧ u.cell? ⟨P0, 2, none⟩ = some (.string A0) ∧ u.cell? ⟨X, 0, none⟩ = some (.int .i64 (x.ty.kind)) ∧ u.cell? ⟨X, 1, none⟩ = some (.int .i64 (x.ty.par)) ∧ u.cell? ⟨X, 2, none⟩ = some (.bool (x.keep)) ∧ u.cell? ⟨X, 3, none⟩ = some (.int .u32 (x.bits)) ∧ u.cell? ⟨X, 4, none⟩ = some (.int .i64 (x.int_)) := fun u p' v' l' h9 hr9 => by
        refine ⟨?_, ?_, ?_, ?_, ?_, ?_, ?_⟩
        ·exact h9.bd.row.cell (i := 2) (by decide)
        ·rw [← hA0]; exact h9.sorts.cell (i := 2) (by decide)
        ·exact hr9.cell (i := 0) (by decide)
        ·exact hr9.cell (i := 1) (by decide)
        ·exact hr9.cell (i := 2) (by decide)
        ·exact hr9.cell (i := 3) (by decide)
        ·exact hr9.cell (i := 4) (by decide)
       have HFA := hidC hFA
       have HLINE : Hid (∀ u, Below V.heap.size V u → Calls Tryz.prog 43 #[.pointer (some ⟨WB, 0, none⟩), .slice (some ⟨u.heap.size, 0, none⟩) 3 3] (u.alloc (.cells #[.string A0, .string LN, .string TT] 9)) fun e w' => e = .returned (.tuple #[]) ∧ ((∃ p v, WrA E WB P0 P1 P2 P3 P4 p v (txt (pf3 c (j + 1))) w') ∧ Below E w w') ∧ (w'.cell? ⟨WB, 2, none⟩ = some (.slice (some ⟨P0, 0, none⟩) 3 3) ∧ w'.cell? ⟨P0, 2, none⟩ = some (.string A0) ∧ w'.cell? ⟨X, 0, none⟩ = some (.int .i64 (x.ty.kind)) ∧ w'.cell? ⟨X, 1, none⟩ = some (.int .i64 (x.ty.par)) ∧ w'.cell? ⟨X, 2, none⟩ = some (.bool (x.keep)) ∧ w'.cell? ⟨X, 3, none⟩ = some (.int .u32 (x.bits)) ∧ w'.cell? ⟨X, 4, none⟩ = some (.int .i64 (x.int_)))) := fun u ku => by
        have hu := hAV.below ku
        have hal := bel_alloc u (.cells #[.string A0, .string LN, .string TT] 9)
        have hu2 := hu.below hal
        have hru := (hrX.of_block (ku.block _ hrX.lt)).of_block (hal.block _ (Nat.lt_of_lt_of_le hrX.lt ku.size))
        have hEV : E ≤ V.heap.size := Nat.le_trans hEr hbV.size
        refine (alinew_any E WB P0 P1 P2 P3 P4 p v (txt (pf3 c j)) u.heap.size [slotB, numT (j : Int), joinW ((if x.keep then keepB else localB) :: (typWs x.ty ++ [if x.ty.kind = 2 then numT x.int_ else hexT x.bits]))] 3 _ hu2 hsh (by simp) (by simp) hwl (fun i hi => words_cells u _ _ hwords i hi) (by simp)).mono ?_
        rintro e w' ⟨h1, p', v', h2, h3, h4⟩
        refine ⟨h1, ⟨⟨p', v', by rw [hnext]; rw [join_in (slot_ne _)] at h2; exact h2⟩, ((hBV.trans (ku.mono hEV)).trans (hal.mono (Nat.le_trans hEV ku.size))).trans h3⟩, hFA w' p' v' _ h2 (h4.row hru (by decide) hXW)⟩
       have HN1 : Hid (∀ u, Laid u → Calls Tryz.prog 44 #[.int .i64 (j : Int)] u fun e w' => e = .returned (.string LN) ∧ Below u.heap.size u w') := fun u hu => by
        rw [← hLN, ← itoa_num (by omega)]
        exact anum_any (j : Int) (by omega) (by have := HN.out.2.2.1; have := HK.out.l; omega) u hu
       have HTY : Hid (∀ u, Below V.heap.size V u → Calls Tryz.prog 46 #[.pointer (some ⟨WB, 0, none⟩), .agg #[.int .i64 x.ty.kind, .int .i64 x.ty.par, .bool x.keep, .int .u32 x.bits, .int .i64 x.int_]] u fun e w' => e = .returned (.string TT) ∧ Below u.heap.size u w') := fun u ku => by rw [← hTT]; exact aslotw_any E WB P0 P1 P2 P3 P4 p v _ x hx u (HLV.out.below ku) (hAV.below ku)
       have HAV := hidC hAV
       have HRX := hidC hrX
       obtain ⟨s0, s1, s2, s3, s4, s5, s6⟩ := hFA V p v _ hAV hrX
       have HFV : Hid (∀ u, Below V.heap.size V u → u.cell? ⟨WB, 2, none⟩ = some (.slice (some ⟨P0, 0, none⟩) 3 3) ∧ u.cell? ⟨P0, 2, none⟩ = some (.string A0) ∧ u.cell? ⟨X, 0, none⟩ = some (.int .i64 (x.ty.kind)) ∧ u.cell? ⟨X, 1, none⟩ = some (.int .i64 (x.ty.par)) ∧ u.cell? ⟨X, 2, none⟩ = some (.bool (x.keep)) ∧ u.cell? ⟨X, 3, none⟩ = some (.int .u32 (x.bits)) ∧ u.cell? ⟨X, 4, none⟩ = some (.int .i64 (x.int_))) := fun u ku => HFA.out u p v _ (HAV.out.below ku) (HRX.out.of_block (ku.block _ HRX.out.lt))
       obtain ⟨t0, t1, t2, t3, t4, t5, t6⟩ := HFV.out V.drew (bel_d V)
       clear hA hB HJ hlt hjl hcv hcl hx hnext hxe hbV hrX hEr hBV hAV hXW hsh hA0 hLN hwords hwl hFA hTT
       go_upto_region 16 with fail
       try rw [hV]
       try rw [hXX]
       clear hV hXX 
       refine wp_region_held_drew (S := (fun v => v.cell? ⟨WB, 2, none⟩ = some (.slice (some ⟨P0, 0, none⟩) 3 3) ∧ v.cell? ⟨P0, 2, none⟩ = some (.string A0) ∧ v.cell? ⟨X, 0, none⟩ = some (.int .i64 (x.ty.kind)) ∧ v.cell? ⟨X, 1, none⟩ = some (.int .i64 (x.ty.par)) ∧ v.cell? ⟨X, 2, none⟩ = some (.bool (x.keep)) ∧ v.cell? ⟨X, 3, none⟩ = some (.int .u32 (x.bits)) ∧ v.cell? ⟨X, 4, none⟩ = some (.int .i64 (x.int_)))) (by kernel_rfl) ?_ (fun hHeld => ?_)
       ·((try dsimp only); go_keep)
       refine tkT 0 ?_
       refine tkT 1 ?_
       refine tkT 2 ?_
       refine tkT 3 ?_
       refine tkT 4 ?_
       refine tkT 6 ?_
       clear hHeld
       refine wpAnyH_ready (rs := [5]) (by kernel_rfl) (by simp) ?_
       refine AllReadyH.cons (i := 5) (by simp only [List.getElem?_toArray, List.getElem?_cons_succ, List.getElem?_cons_zero]; rfl) (fun K hK => ?_) AllReadyH.nil
       go_simp
       (go_at_call 44; (with_reducible refine (HN1.out _ (HLV.out.below (bel_d V))).mono ?_); rintro e u2 ⟨rfl, bb2⟩; have hb3 := bel (bel_d V) bb2; have HB2 := hidC hb3; obtain ⟨m0, m1, m2, m3, m4, m5, m6⟩ := HFV.out u2 hb3; clear bb2 hb3)
       try (go_wp2_with fail)
       refine hK.out _ _ ?_ (fun hHeld => ?_)
       ·((try dsimp only); go_keep)
       clear hK K
       try simp only [Act.put, List.setIfInBounds_toArray, List.set_cons_zero, List.set_cons_succ]
       clear hHeld
       refine wpAnyH_ready (rs := [7]) (by kernel_rfl) (by simp) ?_
       refine AllReadyH.cons (i := 7) (by simp only [List.getElem?_toArray, List.getElem?_cons_succ, List.getElem?_cons_zero]; rfl) (fun K hK => ?_) AllReadyH.nil
       go_simp
       (go_at_call 46; (with_reducible refine (HTY.out _ HB2.out).mono ?_); rintro e u3 ⟨rfl, bb3⟩; have hb4 := bel HB2.out bb3; have HB3 := hidC hb4; clear m0 m1 m2 m3 m4 m5 m6; obtain ⟨m0, m1, m2, m3, m4, m5, m6⟩ := HFV.out u3 hb4; clear bb3 hb4)
       try (go_wp2_with fail)
       refine hK.out _ _ ?_ (fun hHeld => ?_)
       ·((try dsimp only); go_keep)
       clear hK K
       try simp only [Act.put, List.setIfInBounds_toArray, List.set_cons_zero, List.set_cons_succ]
       clear hHeld
       refine wpAnyH_ready (rs := [8]) (by kernel_rfl) (by simp) ?_
       refine AllReadyH.cons (i := 8) (by simp only [List.getElem?_toArray, List.getElem?_cons_succ, List.getElem?_cons_zero]; rfl) (fun K hK => ?_) AllReadyH.nil
       go_simp
       refine hK.out _ _ ?_ (fun hHeld => ?_)
       ·((try dsimp only); go_keep)
       clear hK K
       try simp only [Act.put, List.setIfInBounds_toArray, List.set_cons_zero, List.set_cons_succ]
       clear hHeld
       refine wpAnyH_ready (rs := [9]) (by kernel_rfl) (by simp) ?_
       refine AllReadyH.cons (i := 9) (by simp only [List.getElem?_toArray, List.getElem?_cons_succ, List.getElem?_cons_zero]; rfl) (fun K hK => ?_) AllReadyH.nil
       go_simp
       (go_at_call 43; (with_reducible refine (HLINE.out _ HB3.out).mono ?_); rintro e u4 ⟨rfl, hq4, o0, o1, o2, o3, o4, o5, o6⟩; have HQ4 := hidC hq4; clear hq4)
       try (go_wp2_with fail)
       refine hK.out _ _ ?_ (fun hHeld => ?_)
       ·((try dsimp only); go_keep)
       clear hK K
       try simp only [Act.put, List.setIfInBounds_toArray, List.set_cons_zero, List.set_cons_succ]
       refine wpAnyH_done (by kernel_rfl) ?_ _
       try go_wp2_with fail
       go_roundw
       case rel => exact ⟨j + 1, by omega, by go_num, HQ4.out⟩
       case measure => simp [intOf]; omega
      ·have e1 : ¬ (j : Int) < (N2 : Int) := by omega
       have hje : j = c.slots.length := by rw [HN.out.2.2.1]; omega
       rw [hje, pf3_all] at hA
       obtain ⟨z0, z1, z2, z3, -⟩ := HC.out wr hB
       have HPRE : Hid ((∃ p v, WrA E WB P0 P1 P2 P3 P4 p v (txt (pf4 c 0)) wr) ∧ Below E w wr) := ⟨⟨p, v, hA⟩, hB⟩
       clear hA hB HJ hje hlt hj
       go_wp2_with fail
       obtain ⟨W3, hW3⟩ : ∃ W, wr = W := ⟨_, rfl⟩
       go_loopw [94] (fun iv wx => ∃ j : Nat, j ≤ N3 ∧ iv = .int .i64 (j : Int) ∧ Hid ((∃ p v, WrA E WB P0 P1 P2 P3 P4 p v (txt (pf4 c j)) wx) ∧ Below E w wx)) (fun iv _ => N3 - (intOf iv).toNat)
       case atStart => exact ⟨0, Nat.zero_le _, rfl, HPRE.out⟩
       case round =>
        clear z0 z1 z2 z3 e1 hW3
        clear HPRE
        obtain ⟨j, hj, rfl, HJ⟩ := hrel
        obtain ⟨⟨p, v, hA⟩, hB⟩ := HJ.out
        by_cases hlt : j < N3
        ·have hjl : j < c.list.length := by rw [HN.out.2.2.2]; exact hlt
         obtain ⟨-, -, -, -, hcv⟩ := HC.out wr hB
         obtain ⟨rb, ro, rfl, hcl⟩ := hcv.list.at hjl
         have hx := HK.out.list c.list[j] (List.getElem_mem hjl)
         have hnext := pf4_next hjl
         obtain ⟨x, hxe⟩ : ∃ x, c.list[j] = x := ⟨_, rfl⟩
         rw [hxe] at hcl hx hnext
         obtain ⟨V, hV⟩ : ∃ V, wr.alloc (.cells #[.int .i64 (x.op), .int .i64 (x.d), .int .i64 (x.a), .int .i64 (x.b), .int .i64 (x.c), .int .i64 (x.n), .int .u32 (x.bits)] 46) = V := ⟨_, rfl⟩
         obtain ⟨X, hXX⟩ : ∃ X, wr.heap.size = X := ⟨_, rfl⟩
         have hbV : Below wr.heap.size wr V := by rw [← hV]; exact bel_alloc _ _
         have hrX : V.rowIs X 46 7 (g7 (.int .i64 (x.op)) (.int .i64 (x.d)) (.int .i64 (x.a)) (.int .i64 (x.b)) (.int .i64 (x.c)) (.int .i64 (x.n)) (.int .u32 (x.bits))) := by rw [← hV, ← hXX]; exact q7_new _ _ _ _ _ _ _ _ _
         have hEr : E ≤ wr.heap.size := by have := hA.bd.le; have := hA.bd.row.lt; omega
         have hBV : Below E w V := hB.trans (hbV.mono hEr)
         have hAV := hA.below hbV
         have hXW : X ≠ WB := by have := hA.bd.row.lt; omega
         have y0 := hcl.at 0 (v := .int .i64 (x.op)) rfl
         rw [Nat.add_zero] at y0
         have y1 := hcl.at 1 (v := .int .i64 (x.d)) rfl
         have y2 := hcl.at 2 (v := .int .i64 (x.a)) rfl
         have y3 := hcl.at 3 (v := .int .i64 (x.b)) rfl
         have y4 := hcl.at 4 (v := .int .i64 (x.c)) rfl
         have y5 := hcl.at 5 (v := .int .i64 (x.n)) rfl
         have y6 := hcl.at 6 (v := .int .u32 (x.bits)) rfl
         have n9 : ¬ rb = wr.heap.size := by have : rb < wr.heap.size := mcell_lt y0; omega
         have i1 : (0 : Int) ≤ (j : Int) := by omega
         have i2 : (j : Int) < (N3 : Int) := by omega
         have wi : IntKind.i64.wrap ((j : Int) + 1) = ((j + 1 : Nat) : Int) := by have := HK.out.i; rw [IntKind.wrap_i64]; omega
         have hsh := pf_short HK.out (pf4_in c j)
         have HLV := hidC (HLA.out V hBV)
         have KI := ainsw_any E WB P0 P1 P2 P3 P4 p v _ x hx V HLV.out hAV
         have hil := ins_six hx
         have HIN := hidC KI
         have HLINE : Hid (∀ u q d, Below V.heap.size V u → u.ownsRow V.heap.size 9 1 (.slice q (insWs x).length d) (insWs x).length (strS (insWs x)) → Calls Tryz.prog 43 #[.pointer (some ⟨WB, 0, none⟩), .slice q (insWs x).length d] u fun e w' => e = .returned (.tuple #[]) ∧ ((∃ p v, WrA E WB P0 P1 P2 P3 P4 p v (txt (pf4 c (j + 1))) w') ∧ Below E w w')) := fun u q d ku ho => by
          have hu := hAV.below ku
          have hEV : E ≤ V.heap.size := Nat.le_trans hEr hbV.size
          obtain ⟨g, e1, hcap, hcc⟩ := own_cells ho (by omega)
          subst e1
          refine (alinew_any E WB P0 P1 P2 P3 P4 p v (txt (pf4 c j)) g (insWs x) d u hu hsh (by omega) hil.2 (ins_le hx) hcc hcap).mono ?_
          rintro e w' ⟨h1, p', v', h2, h3, h4⟩
          exact ⟨h1, ⟨p', v', by rw [hnext]; exact h2⟩, (hBV.trans (ku.mono hEV)).trans h3⟩
         obtain ⟨Z0, Z1, Z2, Z3, Z4, Z5, Z6⟩ := c7 hrX
         clear hA hB HJ hlt hjl hcv hcl hx hnext hxe hbV hrX hEr hBV hAV hXW hsh KI hil
         go_upto_region 21 with fail
         try rw [hV]
         try rw [hXX]
         clear hXX
         clear hV
         go_wp2_with (first
          | (go_at_call 47; (with_reducible refine HIN.out.mono ?_); rintro e u3 ⟨q, d, rfl, ho3, bb3⟩; have H3 := hidC (And.intro ho3 bb3); clear ho3 bb3)
          | (go_at_call 43; (with_reducible refine (HLINE.out _ _ _ H3.out.2 H3.out.1).mono ?_); rintro e u4 ⟨rfl, hq4⟩; have HQ4 := hidC hq4; clear hq4))
         go_roundw
         case rel => exact ⟨j + 1, by omega, by go_num, HQ4.out⟩
         case measure => simp [intOf]; omega
        ·have e1 : ¬ (j : Int) < (N3 : Int) := by omega
         have hje : j = c.list.length := by rw [HN.out.2.2.2]; omega
         rw [hje, pf4_all] at hA
         have hne : textA c ≠ [] := by unfold textA textL; simp [headB]
         have HST := hidC (stringT_any E WB _ 5 _ _ _ _ hne wr hA.bd)
         have HBB := hidC hB
         clear hA hB HJ hje hlt hj hne
         go_wp2_with (go_at_call 48; (with_reducible refine HST.out.mono ?_); rintro e w6 ⟨rfl, b6⟩; have H6 := hidC (HBB.out.trans b6); clear b6)
         refine bodyPost_ret (by simp [results, Tryz.results16, go_sem, *]; try rfl) rfl ?_
         exact ⟨rfl, by rw [HE.out]; exact H6.out⟩
end Go.Proofs.YtgcmnkanjcfndaaGreatDoor
namespace Go.Proofs.YtgcmnkanjcfndaaGreatDoor
open Go.RowKit
set_option linter.unusedVariables false
set_option linter.unusedSimpArgs false
set_option maxRecDepth 100000 in
set_option maxHeartbeats 8000000 in
theorem aText_any (v0 v1 v2 v3 : Value) (c : Cd) (hk : CdOk c) (w : World) (hL : Laid w) (hc : CdV w v0 v1 v2 v3 c) :
  Calls Tryz.prog 8 #[.agg #[v0, v1, v2, v3]] w fun e w' => e = .returned (.tuple #[.string (if (checkC c).1 = 0 then sof (textA c) else ⟨#[]⟩), .int .i64 (if (checkC c).1 = 0 then 0 else 160)]) ∧ Below w.heap.size w w' := by
 obtain ⟨q0, d0, rfl, -⟩ := id hc.sign
 obtain ⟨q1, d1, rfl, -⟩ := id hc.regs
 obtain ⟨q2, d2, rfl, -⟩ := id hc.slots
 obtain ⟨q3, d3, rfl, -⟩ := id hc.list
 obtain ⟨V, hV⟩ : ∃ V, w.alloc (.cells #[.slice q0 c.sign.length d0, .slice q1 c.regs.length d1, .slice q2 c.slots.length d2, .slice q3 c.list.length d3] 27) = V := ⟨_, rfl⟩
 obtain ⟨X, hXX⟩ : ∃ X, w.heap.size = X := ⟨_, rfl⟩
 have hb0 : Below w.heap.size w V := by rw [← hV]; exact bel_alloc _ _
 have hr : V.rowIs X 27 4 (f4 (.slice q0 c.sign.length d0) (.slice q1 c.regs.length d1) (.slice q2 c.slots.length d2) (.slice q3 c.list.length d3)) := by rw [← hV, ← hXX]; exact q4_new _ _ _ _ _ _
 have hcv := hc.below hb0
 have HLV := hidC (hL.below hb0)
 have HB0 := hidC hb0
 have HR := hidC hr
 have HCV := hidC hcv
 have KC := check_any _ _ _ _ c hk V hcv
 obtain ⟨x0, x1, x2, x3⟩ := c4 hr
 obtain ⟨p, hp⟩ : ∃ p, (checkC c).2 = p := ⟨_, rfl⟩
 rw [hp] at KC
 by_cases q : (checkC c).1 = 0
 ·rw [if_pos q, if_pos q]
  have HOK := hidC (okA_of q hk.sbits hk.ibits)
  rw [q] at KC
  have HKC := hidC KC
  obtain ⟨S, hS⟩ : ∃ S, sof (textA c) = S := ⟨_, rfl⟩
  rw [hS]
  have HS := hidC hS
  have HT : Hid (∀ x, Below V.heap.size V x → Calls Tryz.prog 16 #[.pointer (some ⟨X, 0, none⟩)] x fun e w' => e = .returned (.string S) ∧ Below x.heap.size x w') := fun x k => by
   rw [← HS.out]
   exact textOf_any X c HOK.out _ _ _ _ x (HLV.out.below k) (HR.out.of_block (k.block _ HR.out.lt)) (HCV.out.below k)
  clear hb0 hr hcv KC hp q hk hL hc hS
  go_enter Tryz.func8, Tryz.ntmps8
  go_upto_region 1 with fail
  try rw [hV]
  try rw [hXX]
  clear hV hXX
  go_wp2_with (first
   | (go_at_call 15; (with_reducible refine HKC.out.mono ?_); rintro e w1 ⟨rfl, b1⟩; have HB1 := hidC b1; clear b1)
   | (go_at_call 16; (with_reducible refine (HT.out _ HB1.out).mono ?_); rintro e w2 ⟨rfl, b2⟩; have HB2 := hidC (bel HB1.out b2); clear b2))
  refine bodyPost_ret (by simp [results, Tryz.results8, go_sem, *]; try rfl) rfl ?_
  exact ⟨rfl, bel HB0.out HB2.out⟩
 ·rw [if_neg q, if_neg q]
  obtain ⟨e, he⟩ : ∃ e, (checkC c).1 = e := ⟨_, rfl⟩
  rw [he] at KC q
  have HKC := hidC KC
  have e2 : (e != 0) = true := by simpa using q
  have e3 : (e == 0) = false := by simpa using q
  clear hb0 hr hcv KC hp q hk hL hc he
  go_enter Tryz.func8, Tryz.ntmps8
  go_upto_region 1 with fail
  try rw [hV]
  try rw [hXX]
  clear hV hXX
  go_wp2_with (go_at_call 15; (with_reducible refine HKC.out.mono ?_); rintro e w1 ⟨rfl, b1⟩; have HB1 := hidC b1; clear b1)
  refine bodyPost_ret (by simp [results, Tryz.results8, go_sem, *]; try rfl) rfl ?_
  exact ⟨rfl, bel HB0.out HB1.out⟩
def echoC : Cd := ⟨[⟨⟨#[119]⟩, 1, 2⟩], [⟨3, 0⟩], [], [⟨29, 0, 0, 0, 0, 0, 0⟩, ⟨31, 0, 0, 0, 0, 0, 0⟩]⟩
def echoT : Bs := textA echoC
def moreT : Bs := [103, 114, 97, 100, 32, 114, 48, 48, 32, 48, 10]
theorem echo_ok : (checkC echoC).1 = 0 := by decide +kernel
theorem echo_okA : OkA echoC := okA_of echo_ok (fun s hs => (nomatch hs)) (fun i hi => by
 simp only [echoC, List.mem_cons, List.not_mem_nil, or_false] at hi
 rcases hi with rfl | rfl <;> decide)
theorem echo_read : parseA echoT = (echoC, 0, 0) := parse_back echo_ok echo_okA
theorem echo_more : (parseA (echoT ++ moreT)).2.1 = 250 ∧ (parseA (echoT ++ moreT)).2.2 = 6 := by decide +kernel
theorem echo_text : echoT = [108, 97, 116, 104, 101, 32, 49, 10, 112, 97, 114, 97, 109, 32, 119, 32, 114, 101, 97, 108, 32, 50, 10, 114, 101, 103, 32, 48, 32, 118, 101, 99, 116, 111, 114, 32, 48, 10, 103, 114, 97, 100, 32, 114, 48, 32, 48, 10, 111, 117, 116, 32, 114, 48, 32, 48, 10] := by decide +kernel
end Go.Proofs.YtgcmnkanjcfndaaGreatDoor
