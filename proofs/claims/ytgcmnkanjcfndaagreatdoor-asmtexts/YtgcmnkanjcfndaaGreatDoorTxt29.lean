import Derived.Test.YtgcmnkanjcfndaaGreatDoorTxt23
import Derived.Test.YtgcmnkanjcfndaaGreatDoorTxt21
import Derived.Test.YtgcmnkanjcfndaaGreatDoorTxt28
import Derived.OrdersHeld
import Derived.Lib.SmallJoins
import Derived.Lib.SlBytesConst
import Derived.Deep.DeepCutAuto
import Derived.Test.YtgcmnkanjcfndaaGreatDoorTxt22
import Derived.Test.YtgcmnkanjcfndaaGreatDoorTxt8
import Derived.Test.YtgcmnkanjcfndaaGreatDoorRows
import Derived.WalkKit
import Derived.ProofKit
import Derived.OpenShut
import Derived.JoinedCond
import Derived.Deep.Slices
import Derived.Deep.Strs
import Derived.SizedLaws
import Derived.Test.YtgcmnkanjcfndaaGreatDoorTxt11
import Derived.Lay
import Derived.LaidMore
import Derived.Stop.LaidErr
import Derived.Lib.LaidTab
import Derived.Shelf.Vars
import Derived.Deep.DeepHandedRow
namespace Go.Proofs.YtgcmnkanjcfndaaGreatDoor
open Go.RowKit
set_option linter.unusedVariables false
set_option linter.unusedSimpArgs false
theorem strCells_sof (L : Bs) : Lib.strCells (sof L) = Lib.byteCells L := by
 unfold Lib.strCells Lib.byteCells
 simp [sof]
theorem own_lineR {E : Nat} {w : World} {q : Option Addr} {N d : Nat} {l : Bs} (h : w.ownsRow E 5 1 (.slice q N d) N (Lib.byteCells l)) (hN : N = l.length) (hE : E ≤ w.heap.size) (L : Bs) (hn : N + L.length ≤ 2000000000) :
  ∃ q' d' w', (Builtin.append_ #[55, 9] 55 #[.slice q N d, .string (sof L)]).run Tryz.prog w = .ok (.slice q' (N + L.length) d') w' ∧ w'.ownsRow E 5 1 (.slice q' (N + L.length) d') (N + L.length) (Lib.byteCells (l ++ L)) ∧ Below E w w' := by
 obtain ⟨v', w', h1, h2, h3⟩ := own_strT h hE (sof L) (by rw [sof_size]; omega) 55
 rw [sof_size, strCells_sof, ← bytes_app] at h2
 obtain ⟨p, t, rfl⟩ := own_len h2
 exact ⟨p, t, w', h1, h2, (Below.refl E w).grown h3 hE (fun k hk => (h.lt k hk).1)⟩
def RowT (E : Nat) (w : World) (q : Option Addr) (N d : Nat) (l : Bs) : Prop :=
 w.ownsRow E 5 1 (.slice q N d) N (Lib.byteCells l) ∨ ∃ (g : Nat) (cs : Array Value) (fr : Nat × Nat), q = some ⟨g, 0, none⟩ ∧ d = N ∧ 0 < N ∧ E ≤ g ∧ w.heap[g]? = some (.cells cs 5 fr) ∧ cs.toList = Lib.byteCells l
theorem RowT.below {E N d : Nat} {w w' : World} {q : Option Addr} {l : Bs} (h : RowT E w q N d l) (k : Below w.heap.size w w') : RowT E w' q N d l := by
 rcases h with h | ⟨g, cs, fr, h1, h2, h3, h4, h5, h6⟩
 ·exact .inl (own_below h k)
 ·refine .inr ⟨g, cs, fr, h1, h2, h3, h4, ?_, h6⟩
  rw [k.block g (Array.getElem?_eq_some_iff.1 h5).1]
  exact h5
theorem RowT.cells {E N d : Nat} {w : World} {q : Option Addr} {l : Bs} (h : RowT E w q N d l) (hN : N = l.length) (hn : 0 < N) : ∃ g : Nat, q = some ⟨g, 0, none⟩ ∧ ∀ j u, (Lib.byteCells l)[j]? = some u → w.cell? ((⟨g, 0, none⟩ : Addr).add j) = some u := by
 rcases h with h | ⟨g, cs, fr, h1, h2, h3, h4, h5, h6⟩
 ·rcases h.2 with ⟨-, e2⟩ | ⟨g, cap, cur, e1, -⟩
  ·omega
  ·simp only [Value.slice.injEq] at e1
   obtain ⟨rfl, -, rfl⟩ := e1
   exact ⟨g, rfl, h.cells rfl⟩
 ·refine ⟨g, h1, fun j u hu => ?_⟩
  have hadd : (⟨g, 0, none⟩ : Addr).add j = ⟨g, j, none⟩ := by unfold Addr.add; split <;> simp_all
  rw [hadd, show w.cell? ⟨g, j, none⟩ = cs[j]? by simp [World.cell?, h5], ← Array.getElem?_toList, h6]
  exact hu
theorem rowT_line {E : Nat} {w : World} {q : Option Addr} {N d : Nat} {l : Bs} (h : RowT E w q N d l) (hN : N = l.length) (hE : E ≤ w.heap.size) (L : Bs) (hn : N + L.length ≤ 2000000000) (hL : 0 < L.length) :
  ∃ q' d' w', (Builtin.append_ #[55, 9] 55 #[.slice q N d, .string (sof L)]).run Tryz.prog w = .ok (.slice q' (N + L.length) d') w' ∧ RowT E w' q' (N + L.length) d' (l ++ L) ∧ Below E w w' := by
 rcases h with h | h
 ·obtain ⟨q', d', w', h1, h2, h3⟩ := own_lineR h hN hE L hn
  exact ⟨q', d', w', h1, .inl h2, h3⟩
 ·obtain ⟨g0, rfl, hcl⟩ := RowT.cells (.inr h) hN (by obtain ⟨_, _, _, _, _, h3, _⟩ := h; exact h3)
  obtain ⟨g, cs, fr, h1, h2, h3, h4, h5, h6⟩ := h
  subst h2
  obtain ⟨i0, hi0, hz0, hz1, hz2⟩ := info_parts info_byte
  have hs := sof_size L
  have hbl : (Lib.byteCells l).length = d := by rw [hN]; simp [Lib.byteCells]
  have hlen : (Lib.byteCells l ++ Lib.strCells (sof L)).length = (d + (sof L).size) * 1 := by rw [List.length_append, hbl, Lib.strCells_length, Nat.mul_one]
  have hr := Lib.run_append_grow_string (P := Tryz.prog) w 55 9 55 5 i0 (.int .u8 0) Tryz.underlying55 Tryz.underlying9 hi0 hz0 ⟨g0, 0, none⟩ d d (Lib.byteCells l) (by rw [hz1, hbl]; omega) hcl (sof L) (by omega) (by omega) (by rw [hz2]; exact growslice_fits (by omega) (by omega))
  have hge := grownCap_ge w (d + (sof L).size) d 5
  have hcm : grownCap w (d + (sof L).size) d 5 ≤ maxLen := grownCap_le_maxLen w (d + (sof L).size) d 5 (by unfold maxLen; omega)
  rw [hs] at hr hge hcm hlen
  refine ⟨_, _, _, hr, .inl ⟨by simp [Lib.byteCells, hN], .inr ⟨w.heap.size, _, _, rfl, hE, heap_alloc_new w.drew _, hge, hcm, ?_, ?_⟩⟩, (Below.refl E w).grown (row := none) ⟨rfl, rfl, rfl, by simp, fun k hk _ => heap_alloc_old w.drew _ hk⟩ hE (fun k hk => by cases hk)⟩
  ·have hz1 : (Value.int IntKind.u8 0).cells.size = 1 := rfl
   simp only [Array.size_append, List.size_toArray, size_zeroCells, hz1, hbl, Lib.strCells_length, hs]
   omega
  ·rw [bytes_app, ← strCells_sof L]
   simp only [Array.toList_append, List.append_assoc]
   rw [← List.append_assoc, ← hlen]
   exact List.take_left
theorem rowT_str {E : Nat} {w : World} {q : Option Addr} {N d : Nat} {l : Bs} (h : RowT E w q N d l) (hN : N = l.length) (hn : 0 < N) :
  (convert 55 9 (.slice q N d)).run Tryz.prog w = .ok (.string (sof l)) w := by
 obtain ⟨g, rfl, hc⟩ := h.cells hN hn
 subst hN
 exact run_convert_bytes_back (P := Tryz.prog) w 55 9 5 ⟨g, 0, none⟩ d l Tryz.underlying55 Tryz.underlying5 Tryz.underlying9 (fun j hj => hc j (.int .u8 ((l[j].toNat : Nat) : Int)) (by simp [Lib.byteCells, hj]))
set_option maxRecDepth 100000 in
set_option maxHeartbeats 64000000 in
theorem rText25_any (v0 v1 v2 v3 : Value) (c : Cd) (hk : CdOk c) (w : World) (hc : CdV w v0 v1 v2 v3 c) :
  Calls Tryz.prog 9 #[.agg #[v0, v1, v2, v3]] w fun e w' => e = .returned (.tuple #[.string (if (checkC c).1 = 0 then sof (textA c) else ⟨#[]⟩), .int .i64 (if (checkC c).1 = 0 then 0 else 160)]) ∧ Below w.heap.size w w' := by
 obtain ⟨q0, d0, rfl, -⟩ := id hc.sign
 obtain ⟨q1, d1, rfl, -⟩ := id hc.regs
 obtain ⟨q2, d2, rfl, -⟩ := id hc.slots
 obtain ⟨q3, d3, rfl, -⟩ := id hc.list
 obtain ⟨N0, hN0⟩ : ∃ N, c.sign.length = N := ⟨_, rfl⟩
 obtain ⟨N1, hN1⟩ : ∃ N, c.regs.length = N := ⟨_, rfl⟩
 obtain ⟨N2, hN2⟩ : ∃ N, c.slots.length = N := ⟨_, rfl⟩
 obtain ⟨N3, hN3⟩ : ∃ N, c.list.length = N := ⟨_, rfl⟩
 rw [hN0, hN1, hN2, hN3] at hc ⊢
 have HN := hidC (And.intro hN0 (And.intro hN1 (And.intro hN2 hN3)))
 obtain ⟨V, hV⟩ : ∃ V, w.alloc (.cells #[.slice q0 N0 d0, .slice q1 N1 d1, .slice q2 N2 d2, .slice q3 N3 d3] 27) = V := ⟨_, rfl⟩
 obtain ⟨X, hXX⟩ : ∃ X, w.heap.size = X := ⟨_, rfl⟩
 have hb0 : Below w.heap.size w V := by rw [← hV]; exact bel_alloc _ _
 have hr : V.rowIs X 27 4 (f4 (.slice q0 N0 d0) (.slice q1 N1 d1) (.slice q2 N2 d2) (.slice q3 N3 d3)) := by rw [← hV, ← hXX]; exact q4_new _ _ _ _ _ _
 have hcv := hc.below hb0
 have HB0 := hidC hb0
 have KC := rcheck16_any _ _ _ _ c hk V hcv
 obtain ⟨x0, x1, x2, x3⟩ := c4 hr
 obtain ⟨p, hp⟩ : ∃ p, (checkC c).2 = p := ⟨_, rfl⟩
 rw [hp] at KC
 by_cases q : (checkC c).1 = 0
 ·rw [if_pos q, if_pos q]
  have HK := hidC (okA_of q hk.sbits hk.ibits)
  rw [q] at KC
  have HKC := hidC KC
  obtain ⟨E, hE⟩ : ∃ E, V.heap.size = E := ⟨_, rfl⟩
  have HE : Hid (E ≤ V.heap.size) := by show _ ≤ _; omega
  have HEE := hidC hE
  have HC : Hid (∀ x, Below E V x → x.cell? ⟨X, 0, none⟩ = some (.slice q0 N0 d0) ∧ x.cell? ⟨X, 1, none⟩ = some (.slice q1 N1 d1) ∧ x.cell? ⟨X, 2, none⟩ = some (.slice q2 N2 d2) ∧ x.cell? ⟨X, 3, none⟩ = some (.slice q3 N3 d3) ∧ CdV x (.slice q0 N0 d0) (.slice q1 N1 d1) (.slice q2 N2 d2) (.slice q3 N3 d3) c) := fun x k => by
   rw [← hE] at k
   have hr' := hr.of_block (k.block _ hr.lt)
   obtain ⟨a0, a1, a2, a3⟩ := c4 hr'
   exact ⟨a0, a1, a2, a3, hcv.below k⟩
  clear hb0 hr hcv KC hp q hk hc hN0 hN1 hN2 hN3 hE
  go_enter Tryz.func9, Tryz.ntmps9
  go_upto_region 1 with fail
  try rw [hV]
  try rw [hXX]
  clear hV hXX
  go_upto_region 4 with (go_at_call 14; (with_reducible refine HKC.out.mono ?_); rintro e w1 ⟨rfl, b1⟩; have HB1 := hidC b1; clear b1)
  have HNEW : Hid (8 = (txt (pf1 c 0)).length ∧ RowT E (w1.alloc (.cells #[.int .u8 108, .int .u8 97, .int .u8 116, .int .u8 104, .int .u8 101, .int .u8 32, .int .u8 49, .int .u8 10] 5 (8, 9))) (some ⟨w1.heap.size, 0, none⟩) 8 8 (txt (pf1 c 0)) ∧ Below E V (w1.alloc (.cells #[.int .u8 108, .int .u8 97, .int .u8 116, .int .u8 104, .int .u8 101, .int .u8 32, .int .u8 49, .int .u8 10] 5 (8, 9)))) :=
   ⟨rfl, .inr ⟨w1.heap.size, _, _, rfl, rfl, by decide, by have := HB1.out.size; have := HEE.out; omega, heap_alloc_new _ _, rfl⟩, by have h9 := bel HB1.out (bel_alloc w1 (.cells #[.int .u8 108, .int .u8 97, .int .u8 116, .int .u8 104, .int .u8 101, .int .u8 32, .int .u8 49, .int .u8 10] 5 (8, 9))); rw [HEE.out] at h9; exact h9⟩
  have kc1 := Lib.run_convert_bytes_const (P := Tryz.prog) w1 55 5 #[.int .u8 108, .int .u8 97, .int .u8 116, .int .u8 104, .int .u8 101, .int .u8 32, .int .u8 49, .int .u8 10] 8 8 Tryz.underlying55 Tryz.underlying5
  clear x0 x1 x2 x3
  obtain ⟨x0, x1, x2, x3, -⟩ := HC.out w1 (by have := HB1.out; rw [HEE.out] at this; exact this)
  go_upto_region 5 with fail
  obtain ⟨W1, hW1⟩ : ∃ W, (w1.alloc (.cells #[.int .u8 108, .int .u8 97, .int .u8 116, .int .u8 104, .int .u8 101, .int .u8 32, .int .u8 49, .int .u8 10] 5 (8, 9))) = W := ⟨_, rfl⟩
  obtain ⟨Y1, hY1⟩ : ∃ W, w1.heap.size = W := ⟨_, rfl⟩
  rw [hW1, hY1] at HNEW
  try rw [hW1]
  try rw [hY1]
  have HPRE := HNEW
  clear hW1 hY1 HNEW x0 x1 x2 x3
  go_wp2_with fail
  go_loopw [6, 7] (fun bv iv wx => ∃ (j N : Nat) (q : Option Addr) (d : Nat), j ≤ N0 ∧ iv = .int .i64 (j : Int) ∧ bv = .slice q N d ∧ Hid (N = (txt (pf1 c j)).length ∧ RowT E wx q N d (txt (pf1 c j)) ∧ Below E V wx)) (fun _ iv _ => N0 - (intOf iv).toNat)
  case atStart => exact ⟨0, _, _, _, Nat.zero_le _, rfl, rfl, HPRE.out⟩
  case round =>
   clear HPRE
   obtain ⟨j, N, q, d, hj, rfl, rfl, HJ⟩ := hrel
   obtain ⟨hN, hA, hB⟩ := HJ.out
   obtain ⟨z0, z1, z2, z3, hcv⟩ := HC.out wr hB
   by_cases hlt : j < N0
   ·have hjl : j < c.sign.length := by rw [HN.out.1]; exact hlt
    obtain ⟨rb, ro, rfl, hcl⟩ := hcv.sign.at hjl
    have hx := HK.out.sign c.sign[j] (List.getElem_mem hjl)
    have hnext := pf1_next hjl
    obtain ⟨x, hxe⟩ : ∃ x, c.sign[j] = x := ⟨_, rfl⟩
    rw [hxe] at hcl hx hnext
    have y0 := hcl.at 0 (v := .string x.name) rfl
    rw [Nat.add_zero] at y0
    have y1 := hcl.at 1 (v := .int .i64 x.kind) rfl
    have y2 := hcl.at 2 (v := .int .i64 x.len) rfl
    have hEr : E ≤ wr.heap.size := Nat.le_trans HE.out hB.size
    have i1 : (0 : Int) ≤ (j : Int) := by omega
    have i2 : (j : Int) < (N0 : Int) := by omega
    have hbd : c.sign.length ≤ 16384 ∧ c.regs.length ≤ 16384 ∧ c.slots.length ≤ 16384 ∧ c.list.length ≤ 2147483647 := by have h1 := HK.out.s; have h2 := HK.out.r; have h3 := HK.out.l; have h4 := HK.out.i; refine ⟨?_, ?_, ?_, ?_⟩ <;> omega
    have wi : IntKind.i64.wrap ((j : Int) + 1) = ((j + 1 : Nat) : Int) := by rw [IntKind.wrap_i64]; omega
    have HJB : Hid (j ≤ 2147483647) := by show _ ≤ _; omega
    have hsh := pf_short HK.out (pf1_in c (j + 1))
    have hnx2 := congrArg List.length hnext
    rw [List.length_append] at hnx2
    obtain ⟨L, hL⟩ : ∃ L, joinW (parWs x) = L := ⟨_, rfl⟩
    rw [hL] at hnext hnx2
    obtain ⟨S, hS⟩ : ∃ S, sof L = S := ⟨_, rfl⟩
    have sS : S.size = L.length := by rw [← hS]; exact sof_size L
    rw [List.length_append, List.length_singleton] at hnx2
    have s1 : ¬ 9223372036854775807 < S.size + 1 := by omega
    have HP : Hid (∀ u, Calls Tryz.prog 17 #[.agg #[.string x.name, .int .i64 x.kind, .int .i64 x.len]] u fun e w' => e = .returned (.string S) ∧ Below u.heap.size u w') := fun u => by rw [← hS, ← hL]; exact rparam_any x hx u
    have HG : Hid (∀ u, Below wr.heap.size wr u → ∃ q' d' w', (Builtin.append_ #[55, 9] 55 #[.slice q N d, .string (S ++ (⟨#[10]⟩ : ByteArray))]).run Tryz.prog u = .ok (.slice q' (N + (L.length + 1)) d') w' ∧ N + (L.length + 1) = (txt (pf1 c (j + 1))).length ∧ RowT E w' q' (N + (L.length + 1)) d' (txt (pf1 c (j + 1))) ∧ Below E V w') := fun u ku => by
     obtain ⟨q', d', w', g1, g2, g3⟩ := rowT_line (hA.below ku) hN (Nat.le_trans hEr ku.size) (L ++ [10]) (by rw [List.length_append, List.length_singleton]; omega) (by simp)
     rw [List.length_append, List.length_singleton] at g1 g2
     refine ⟨q', d', w', ?_, by omega, ?_, (hB.trans (ku.mono hEr)).trans g3⟩
     ·rw [← hS]
      show (Builtin.append_ _ _ #[_, .string (sof L ++ sof [10])]).run Tryz.prog u = _
      rw [sof_app]
      exact g1
     ·rw [hnext]; exact g2
    clear hA hB hN HJ hlt hjl hcv hcl hx hnext hxe hsh hnx2 hL hS sS hEr hbd
    go_wp2_with (first
     | (go_at_call 17; (with_reducible refine (HP.out _).mono ?_); rintro e u3 ⟨rfl, bb3⟩; obtain ⟨q', d', w8, hrun, k1, k2, k3⟩ := HG.out u3 bb3; have HRUN := hidC hrun; have H8 := hidC (And.intro k1 (And.intro k2 k3)); clear hrun k1 k2 k3 bb3)
     | (at_builtin; refine appT_op (by rfl) _ _ _ _ (by rfl) _ _ _ (by rfl) (by rfl) HRUN.out ?_; try simp only [Act.put, List.setIfInBounds_toArray, List.set_cons_zero, List.set_cons_succ]))
    go_roundw
    case rel => exact ⟨j + 1, _, q', d', by omega, by go_num, rfl, H8.out⟩
    case measure => simp [intOf]; omega
   ·have e1 : ¬ (j : Int) < (N0 : Int) := by omega
    have hje : j = c.sign.length := by rw [HN.out.1]; omega
    rw [hje, pf1_all] at hA hN
    have HPRE := hidC (And.intro hN (And.intro hA hB))
    clear hA hB hN HJ hje hlt hj hcv
    go_wp2_with fail
    go_loopw [6, 8] (fun bv iv wx => ∃ (j N : Nat) (q : Option Addr) (d : Nat), j ≤ N1 ∧ iv = .int .i64 (j : Int) ∧ bv = .slice q N d ∧ Hid (N = (txt (pf2 c j)).length ∧ RowT E wx q N d (txt (pf2 c j)) ∧ Below E V wx)) (fun _ iv _ => N1 - (intOf iv).toNat)
    case atStart => exact ⟨0, _, _, _, Nat.zero_le _, rfl, rfl, HPRE.out⟩
    case round =>
     clear z0 z1 z2 z3 e1
     clear HPRE
     obtain ⟨j, N, q, d, hj, rfl, rfl, HJ⟩ := hrel
     obtain ⟨hN, hA, hB⟩ := HJ.out
     obtain ⟨z0, z1, z2, z3, hcv⟩ := HC.out wr hB
     by_cases hlt : j < N1
     ·have hjl : j < c.regs.length := by rw [HN.out.2.1]; exact hlt
      obtain ⟨rb, ro, rfl, hcl⟩ := hcv.regs.at hjl
      have hx := HK.out.regs c.regs[j] (List.getElem_mem hjl)
      have hnext := pf2_next hjl
      obtain ⟨x, hxe⟩ : ∃ x, c.regs[j] = x := ⟨_, rfl⟩
      rw [hxe] at hcl hx hnext
      have y0 := hcl.at 0 (v := .int .i64 x.kind) rfl
      rw [Nat.add_zero] at y0
      have y1 := hcl.at 1 (v := .int .i64 x.par) rfl
      have hEr : E ≤ wr.heap.size := Nat.le_trans HE.out hB.size
      have i1 : (0 : Int) ≤ (j : Int) := by omega
      have i2 : (j : Int) < (N1 : Int) := by omega
      have hbd : c.sign.length ≤ 16384 ∧ c.regs.length ≤ 16384 ∧ c.slots.length ≤ 16384 ∧ c.list.length ≤ 2147483647 := by have h1 := HK.out.s; have h2 := HK.out.r; have h3 := HK.out.l; have h4 := HK.out.i; refine ⟨?_, ?_, ?_, ?_⟩ <;> omega
      have wi : IntKind.i64.wrap ((j : Int) + 1) = ((j + 1 : Nat) : Int) := by rw [IntKind.wrap_i64]; omega
      have HJB : Hid (j ≤ 16384) := by show _ ≤ _; omega
      have hsh := pf_short HK.out (pf2_in c (j + 1))
      have hnx2 := congrArg List.length hnext
      rw [List.length_append] at hnx2
      obtain ⟨L, hL⟩ : ∃ L, joinW (regWs (j : Int) x) = L := ⟨_, rfl⟩
      rw [hL] at hnext hnx2
      obtain ⟨S, hS⟩ : ∃ S, sof L = S := ⟨_, rfl⟩
      have sS : S.size = L.length := by rw [← hS]; exact sof_size L
      rw [List.length_append, List.length_singleton] at hnx2
      have s1 : ¬ 9223372036854775807 < S.size + 1 := by omega
      have HP : Hid (∀ u, Calls Tryz.prog 18 #[.int .i64 (j : Int), .agg #[.int .i64 x.kind, .int .i64 x.par]] u fun e w' => e = .returned (.string S) ∧ Below u.heap.size u w') := fun u => by rw [← hS, ← hL]; exact rreg25_any j HJB.out x hx u
      have HG : Hid (∀ u, Below wr.heap.size wr u → ∃ q' d' w', (Builtin.append_ #[55, 9] 55 #[.slice q N d, .string (S ++ (⟨#[10]⟩ : ByteArray))]).run Tryz.prog u = .ok (.slice q' (N + (L.length + 1)) d') w' ∧ N + (L.length + 1) = (txt (pf2 c (j + 1))).length ∧ RowT E w' q' (N + (L.length + 1)) d' (txt (pf2 c (j + 1))) ∧ Below E V w') := fun u ku => by
       obtain ⟨q', d', w', g1, g2, g3⟩ := rowT_line (hA.below ku) hN (Nat.le_trans hEr ku.size) (L ++ [10]) (by rw [List.length_append, List.length_singleton]; omega) (by simp)
       rw [List.length_append, List.length_singleton] at g1 g2
       refine ⟨q', d', w', ?_, by omega, ?_, (hB.trans (ku.mono hEr)).trans g3⟩
       ·rw [← hS]
        show (Builtin.append_ _ _ #[_, .string (sof L ++ sof [10])]).run Tryz.prog u = _
        rw [sof_app]
        exact g1
       ·rw [hnext]; exact g2
      clear hA hB hN HJ hlt hjl hcv hcl hx hnext hxe hsh hnx2 hL hS sS hEr hbd
      go_wp2_with (first
       | (go_at_call 18; (with_reducible refine (HP.out _).mono ?_); rintro e u3 ⟨rfl, bb3⟩; obtain ⟨q', d', w8, hrun, k1, k2, k3⟩ := HG.out u3 bb3; have HRUN := hidC hrun; have H8 := hidC (And.intro k1 (And.intro k2 k3)); clear hrun k1 k2 k3 bb3)
       | (at_builtin; refine appT_op (by rfl) _ _ _ _ (by rfl) _ _ _ (by rfl) (by rfl) HRUN.out ?_; try simp only [Act.put, List.setIfInBounds_toArray, List.set_cons_zero, List.set_cons_succ]))
      go_roundw
      case rel => exact ⟨j + 1, _, q', d', by omega, by go_num, rfl, H8.out⟩
      case measure => simp [intOf]; omega
     ·have e1 : ¬ (j : Int) < (N1 : Int) := by omega
      have hje : j = c.regs.length := by rw [HN.out.2.1]; omega
      rw [hje, pf2_all] at hA hN
      have HPRE := hidC (And.intro hN (And.intro hA hB))
      clear hA hB hN HJ hje hlt hj hcv
      go_wp2_with fail
      go_loopw [6, 9] (fun bv iv wx => ∃ (j N : Nat) (q : Option Addr) (d : Nat), j ≤ N2 ∧ iv = .int .i64 (j : Int) ∧ bv = .slice q N d ∧ Hid (N = (txt (pf3 c j)).length ∧ RowT E wx q N d (txt (pf3 c j)) ∧ Below E V wx)) (fun _ iv _ => N2 - (intOf iv).toNat)
      case atStart => exact ⟨0, _, _, _, Nat.zero_le _, rfl, rfl, HPRE.out⟩
      case round =>
       clear z0 z1 z2 z3 e1
       clear HPRE
       obtain ⟨j, N, q, d, hj, rfl, rfl, HJ⟩ := hrel
       obtain ⟨hN, hA, hB⟩ := HJ.out
       obtain ⟨z0, z1, z2, z3, hcv⟩ := HC.out wr hB
       by_cases hlt : j < N2
       ·have hjl : j < c.slots.length := by rw [HN.out.2.2.1]; exact hlt
        obtain ⟨rb, ro, rfl, hcl⟩ := hcv.slots.at hjl
        have hx := HK.out.slots c.slots[j] (List.getElem_mem hjl)
        have hnext := pf3_next hjl
        obtain ⟨x, hxe⟩ : ∃ x, c.slots[j] = x := ⟨_, rfl⟩
        rw [hxe] at hcl hx hnext
        have y0 := hcl.at 0 (v := .int .i64 x.ty.kind) rfl
        rw [Nat.add_zero] at y0
        have y1 := hcl.at 1 (v := .int .i64 x.ty.par) rfl
        have y2 := hcl.at 2 (v := .bool x.keep) rfl
        have y3 := hcl.at 3 (v := .int .u32 x.bits) rfl
        have y4 := hcl.at 4 (v := .int .i64 x.int_) rfl
        have hEr : E ≤ wr.heap.size := Nat.le_trans HE.out hB.size
        have i1 : (0 : Int) ≤ (j : Int) := by omega
        have i2 : (j : Int) < (N2 : Int) := by omega
        have hbd : c.sign.length ≤ 16384 ∧ c.regs.length ≤ 16384 ∧ c.slots.length ≤ 16384 ∧ c.list.length ≤ 2147483647 := by have h1 := HK.out.s; have h2 := HK.out.r; have h3 := HK.out.l; have h4 := HK.out.i; refine ⟨?_, ?_, ?_, ?_⟩ <;> omega
        have wi : IntKind.i64.wrap ((j : Int) + 1) = ((j + 1 : Nat) : Int) := by rw [IntKind.wrap_i64]; omega
        have HJB : Hid (j ≤ 16384) := by show _ ≤ _; omega
        have hsh := pf_short HK.out (pf3_in c (j + 1))
        have hnx2 := congrArg List.length hnext
        rw [List.length_append] at hnx2
        obtain ⟨L, hL⟩ : ∃ L, joinW (slotWs (j : Int) x) = L := ⟨_, rfl⟩
        rw [hL] at hnext hnx2
        obtain ⟨S, hS⟩ : ∃ S, sof L = S := ⟨_, rfl⟩
        have sS : S.size = L.length := by rw [← hS]; exact sof_size L
        rw [List.length_append, List.length_singleton] at hnx2
        have s1 : ¬ 9223372036854775807 < S.size + 1 := by omega
        have HP : Hid (∀ u, Calls Tryz.prog 19 #[.int .i64 (j : Int), .agg #[.int .i64 x.ty.kind, .int .i64 x.ty.par, .bool x.keep, .int .u32 x.bits, .int .i64 x.int_]] u fun e w' => e = .returned (.string S) ∧ Below u.heap.size u w') := fun u => by rw [← hS, ← hL]; exact rslot25_any j HJB.out x hx u
        have HG : Hid (∀ u, Below wr.heap.size wr u → ∃ q' d' w', (Builtin.append_ #[55, 9] 55 #[.slice q N d, .string (S ++ (⟨#[10]⟩ : ByteArray))]).run Tryz.prog u = .ok (.slice q' (N + (L.length + 1)) d') w' ∧ N + (L.length + 1) = (txt (pf3 c (j + 1))).length ∧ RowT E w' q' (N + (L.length + 1)) d' (txt (pf3 c (j + 1))) ∧ Below E V w') := fun u ku => by
         obtain ⟨q', d', w', g1, g2, g3⟩ := rowT_line (hA.below ku) hN (Nat.le_trans hEr ku.size) (L ++ [10]) (by rw [List.length_append, List.length_singleton]; omega) (by simp)
         rw [List.length_append, List.length_singleton] at g1 g2
         refine ⟨q', d', w', ?_, by omega, ?_, (hB.trans (ku.mono hEr)).trans g3⟩
         ·rw [← hS]
          show (Builtin.append_ _ _ #[_, .string (sof L ++ sof [10])]).run Tryz.prog u = _
          rw [sof_app]
          exact g1
         ·rw [hnext]; exact g2
        clear hA hB hN HJ hlt hjl hcv hcl hx hnext hxe hsh hnx2 hL hS sS hEr hbd
        go_wp2_with (first
         | (go_at_call 19; (with_reducible refine (HP.out _).mono ?_); rintro e u3 ⟨rfl, bb3⟩; obtain ⟨q', d', w8, hrun, k1, k2, k3⟩ := HG.out u3 bb3; have HRUN := hidC hrun; have H8 := hidC (And.intro k1 (And.intro k2 k3)); clear hrun k1 k2 k3 bb3)
         | (at_builtin; refine appT_op (by rfl) _ _ _ _ (by rfl) _ _ _ (by rfl) (by rfl) HRUN.out ?_; try simp only [Act.put, List.setIfInBounds_toArray, List.set_cons_zero, List.set_cons_succ]))
        go_roundw
        case rel => exact ⟨j + 1, _, q', d', by omega, by go_num, rfl, H8.out⟩
        case measure => simp [intOf]; omega
       ·have e1 : ¬ (j : Int) < (N2 : Int) := by omega
        have hje : j = c.slots.length := by rw [HN.out.2.2.1]; omega
        rw [hje, pf3_all] at hA hN
        have HPRE := hidC (And.intro hN (And.intro hA hB))
        clear hA hB hN HJ hje hlt hj hcv
        go_wp2_with fail
        go_loopw [6, 10] (fun bv iv wx => ∃ (j N : Nat) (q : Option Addr) (d : Nat), j ≤ N3 ∧ iv = .int .i64 (j : Int) ∧ bv = .slice q N d ∧ Hid (N = (txt (pf4 c j)).length ∧ RowT E wx q N d (txt (pf4 c j)) ∧ Below E V wx)) (fun _ iv _ => N3 - (intOf iv).toNat)
        case atStart => exact ⟨0, _, _, _, Nat.zero_le _, rfl, rfl, HPRE.out⟩
        case round =>
         clear z0 z1 z2 z3 e1
         clear HPRE
         obtain ⟨j, N, q, d, hj, rfl, rfl, HJ⟩ := hrel
         obtain ⟨hN, hA, hB⟩ := HJ.out
         obtain ⟨z0, z1, z2, z3, hcv⟩ := HC.out wr hB
         by_cases hlt : j < N3
         ·have hjl : j < c.list.length := by rw [HN.out.2.2.2]; exact hlt
          obtain ⟨rb, ro, rfl, hcl⟩ := hcv.list.at hjl
          have hx := HK.out.list c.list[j] (List.getElem_mem hjl)
          have hnext := pf4_next hjl
          obtain ⟨x, hxe⟩ : ∃ x, c.list[j] = x := ⟨_, rfl⟩
          rw [hxe] at hcl hx hnext
          have y0 := hcl.at 0 (v := .int .i64 x.op) rfl
          rw [Nat.add_zero] at y0
          have y1 := hcl.at 1 (v := .int .i64 x.d) rfl
          have y2 := hcl.at 2 (v := .int .i64 x.a) rfl
          have y3 := hcl.at 3 (v := .int .i64 x.b) rfl
          have y4 := hcl.at 4 (v := .int .i64 x.c) rfl
          have y5 := hcl.at 5 (v := .int .i64 x.n) rfl
          have y6 := hcl.at 6 (v := .int .u32 x.bits) rfl
          have hEr : E ≤ wr.heap.size := Nat.le_trans HE.out hB.size
          have i1 : (0 : Int) ≤ (j : Int) := by omega
          have i2 : (j : Int) < (N3 : Int) := by omega
          have hbd : c.sign.length ≤ 16384 ∧ c.regs.length ≤ 16384 ∧ c.slots.length ≤ 16384 ∧ c.list.length ≤ 2147483647 := by have h1 := HK.out.s; have h2 := HK.out.r; have h3 := HK.out.l; have h4 := HK.out.i; refine ⟨?_, ?_, ?_, ?_⟩ <;> omega
          have wi : IntKind.i64.wrap ((j : Int) + 1) = ((j + 1 : Nat) : Int) := by rw [IntKind.wrap_i64]; omega
          have HJB : Hid (j ≤ 2147483647) := by show _ ≤ _; omega
          have hsh := pf_short HK.out (pf4_in c (j + 1))
          have hnx2 := congrArg List.length hnext
          rw [List.length_append] at hnx2
          obtain ⟨L, hL⟩ : ∃ L, joinW (insWs x) = L := ⟨_, rfl⟩
          rw [hL] at hnext hnx2
          obtain ⟨S, hS⟩ : ∃ S, sof L = S := ⟨_, rfl⟩
          have sS : S.size = L.length := by rw [← hS]; exact sof_size L
          rw [List.length_append, List.length_singleton] at hnx2
          have s1 : ¬ 9223372036854775807 < S.size + 1 := by omega
          have HP : Hid (∀ u, Calls Tryz.prog 20 #[.agg #[.int .i64 x.op, .int .i64 x.d, .int .i64 x.a, .int .i64 x.b, .int .i64 x.c, .int .i64 x.n, .int .u32 x.bits]] u fun e w' => e = .returned (.string S) ∧ Below u.heap.size u w') := fun u => by rw [← hS, ← hL]; exact rline25_any x hx u
          have HG : Hid (∀ u, Below wr.heap.size wr u → ∃ q' d' w', (Builtin.append_ #[55, 9] 55 #[.slice q N d, .string (S ++ (⟨#[10]⟩ : ByteArray))]).run Tryz.prog u = .ok (.slice q' (N + (L.length + 1)) d') w' ∧ N + (L.length + 1) = (txt (pf4 c (j + 1))).length ∧ RowT E w' q' (N + (L.length + 1)) d' (txt (pf4 c (j + 1))) ∧ Below E V w') := fun u ku => by
           obtain ⟨q', d', w', g1, g2, g3⟩ := rowT_line (hA.below ku) hN (Nat.le_trans hEr ku.size) (L ++ [10]) (by rw [List.length_append, List.length_singleton]; omega) (by simp)
           rw [List.length_append, List.length_singleton] at g1 g2
           refine ⟨q', d', w', ?_, by omega, ?_, (hB.trans (ku.mono hEr)).trans g3⟩
           ·rw [← hS]
            show (Builtin.append_ _ _ #[_, .string (sof L ++ sof [10])]).run Tryz.prog u = _
            rw [sof_app]
            exact g1
           ·rw [hnext]; exact g2
          clear hA hB hN HJ hlt hjl hcv hcl hx hnext hxe hsh hnx2 hL hS sS hEr hbd
          go_wp2_with (first
           | (go_at_call 20; (with_reducible refine (HP.out _).mono ?_); rintro e u3 ⟨rfl, bb3⟩; obtain ⟨q', d', w8, hrun, k1, k2, k3⟩ := HG.out u3 bb3; have HRUN := hidC hrun; have H8 := hidC (And.intro k1 (And.intro k2 k3)); clear hrun k1 k2 k3 bb3)
           | (at_builtin; refine appT_op (by rfl) _ _ _ _ (by rfl) _ _ _ (by rfl) (by rfl) HRUN.out ?_; try simp only [Act.put, List.setIfInBounds_toArray, List.set_cons_zero, List.set_cons_succ]))
          go_roundw
          case rel => exact ⟨j + 1, _, q', d', by omega, by go_num, rfl, H8.out⟩
          case measure => simp [intOf]; omega
         ·have e1 : ¬ (j : Int) < (N3 : Int) := by omega
          have hje : j = c.list.length := by rw [HN.out.2.2.2]; omega
          rw [hje, pf4_all] at hA hN
          have HCV := hidC (rowT_str hA hN (by rw [hN]; unfold textA textL headB; simp))
          have HBB := hidC hB
          clear hA hB hN HJ hje hlt hj hcv
          have hcv := HCV.out
          go_wp2_with fail
          refine bodyPost_ret (by simp [results, Tryz.results9, go_sem, *]; try rfl) rfl ?_
          exact ⟨rfl, bel HB0.out (HEE.out ▸ HBB.out)⟩
 ·rw [if_neg q, if_neg q]
  obtain ⟨e, he⟩ : ∃ e, (checkC c).1 = e := ⟨_, rfl⟩
  rw [he] at KC q
  have HKC := hidC KC
  have e2 : (e != 0) = true := by simpa using q
  have e3 : (e == 0) = false := by simpa using q
  clear hb0 hr hcv KC hp q hk hc he hN0 hN1 hN2 hN3
  go_enter Tryz.func9, Tryz.ntmps9
  go_upto_region 1 with fail
  try rw [hV]
  try rw [hXX]
  clear hV hXX
  go_wp2_with (go_at_call 14; (with_reducible refine HKC.out.mono ?_); rintro e w1 ⟨rfl, b1⟩; have HB1 := hidC b1; clear b1)
  refine bodyPost_ret (by simp [results, Tryz.results9, go_sem, *]; try rfl) rfl ?_
  exact ⟨rfl, bel HB0.out HB1.out⟩
end Go.Proofs.YtgcmnkanjcfndaaGreatDoor
namespace Go.Proofs.YtgcmnkanjcfndaaGreatDoor
open Go.RowKit
set_option linter.unusedVariables false
set_option linter.unusedSimpArgs false
set_option maxRecDepth 100000 in
set_option maxHeartbeats 16000000 in
theorem walk_AsmTexts (v0 v1 v2 v3 : Value) (c : Cd) (hk : CdOk c) (hz : CdSz c) (w : World) (hL : Laid w) (hv : CdV w v0 v1 v2 v3 c) :
  Calls Tryz.prog 3 #[.agg #[v0, v1, v2, v3]] w fun e w' => e = .returned (.bool true) ∧ Below w.heap.size w w' := by
 have HL := hidC hL
 have KS : Hid (∀ v, Below w.heap.size w v → Calls Tryz.prog 10 #[] v fun e w' => e = .returned (.bool true) ∧ Below v.heap.size v w') := fun v k => sure25_any v (HL.out.below k)
 have HK := hidC hk
 obtain ⟨q0, d0, rfl, -⟩ := id hv.sign
 obtain ⟨q1, d1, rfl, -⟩ := id hv.regs
 obtain ⟨q2, d2, rfl, -⟩ := id hv.slots
 obtain ⟨q3, d3, rfl, -⟩ := id hv.list
 obtain ⟨N0, hN0⟩ : ∃ N, c.sign.length = N := ⟨_, rfl⟩
 obtain ⟨N1, hN1⟩ : ∃ N, c.regs.length = N := ⟨_, rfl⟩
 obtain ⟨N2, hN2⟩ : ∃ N, c.slots.length = N := ⟨_, rfl⟩
 obtain ⟨N3, hN3⟩ : ∃ N, c.list.length = N := ⟨_, rfl⟩
 rw [hN0, hN1, hN2, hN3] at hv ⊢
 obtain ⟨V, hV⟩ : ∃ V, w.alloc (.cells #[.slice q0 N0 d0, .slice q1 N1 d1, .slice q2 N2 d2, .slice q3 N3 d3] 27) = V := ⟨_, rfl⟩
 obtain ⟨X, hXX⟩ : ∃ X, w.heap.size = X := ⟨_, rfl⟩
 have hb0 : Below w.heap.size w V := by rw [← hV]; exact bel_alloc _ _
 have hr : V.rowIs X 27 4 (f4 (.slice q0 N0 d0) (.slice q1 N1 d1) (.slice q2 N2 d2) (.slice q3 N3 d3)) := by rw [← hV, ← hXX]; exact q4_new _ _ _ _ _ _
 have HCV := hidC (hv.below hb0)
 have HB0 := hidC hb0
 have HR := hidC hr
 have HXC : Hid (∀ v, Below V.heap.size V v → v.cell? ⟨X, 0, none⟩ = some (.slice q0 N0 d0) ∧ v.cell? ⟨X, 1, none⟩ = some (.slice q1 N1 d1) ∧ v.cell? ⟨X, 2, none⟩ = some (.slice q2 N2 d2) ∧ v.cell? ⟨X, 3, none⟩ = some (.slice q3 N3 d3)) := fun v k => c4 (HR.out.of_block (k.block _ HR.out.lt))
 have KT := aText_any _ _ _ _ c hk V (HL.out.below hb0) HCV.out
 have KU : ∀ v, Below V.heap.size V v → _ := fun v k => rText25_any _ _ _ _ c hk v (HCV.out.below k)
 obtain ⟨S, hS⟩ : ∃ S, (if (checkC c).1 = 0 then sof (textA c) else ⟨#[]⟩ : ByteArray) = S := ⟨_, rfl⟩
 obtain ⟨F, hF⟩ : ∃ F, (if (checkC c).1 = 0 then 0 else 160 : Int) = F := ⟨_, rfl⟩
 simp only [hS, hF] at KT KU
 obtain ⟨x0, x1, x2, x3⟩ := c4 hr
 have HT := hidC KT
 have HU := hidC KU
 clear hL hk hz hv hb0 hr KT KU hS hF hN0 hN1 hN2 hN3
 go_enter Tryz.func3, Tryz.ntmps3
 go_upto_region 1 with fail
 try rw [hV]
 try rw [hXX]
 clear hV hXX
 go_wp2_with (first
  | (go_at_call 8; (with_reducible refine HT.out.mono ?_); rintro e w2 ⟨rfl, b2⟩; have H2 := hidC b2; obtain ⟨y0, y1, y2, y3⟩ := HXC.out _ b2; clear b2)
  | (go_at_call 9; (with_reducible refine (HU.out _ H2.out).mono ?_); rintro e w3 ⟨rfl, b3⟩; have H3 := hidC (bel HB0.out (bel H2.out b3)); clear b3 y0 y1 y2 y3)
  | (go_at_call 10; (with_reducible refine (KS.out _ H3.out).mono ?_); rintro e w7 ⟨rfl, b7⟩; have H7 := hidC (bel H3.out b7); clear b7))
 refine bodyPost_ret (by simp [results, Tryz.results3, go_sem, *]; try rfl) rfl ?_
 exact ⟨rfl, H7.out⟩
end Go.Proofs.YtgcmnkanjcfndaaGreatDoor
namespace Go.Proofs.YtgcmnkanjcfndaaGreatDoor
open Go.ChangeShapes Go.WideShapes Go.ChangeAt Go.RowKit
set_option linter.unusedVariables false
set_option maxRecDepth 100000
theorem cells_Inst : Tryz.prog.cellsOf 46 = 7 := by kernel_rfl
theorem cells_Param : Tryz.prog.cellsOf 48 = 3 := by kernel_rfl
theorem cells_Type : Tryz.prog.cellsOf 50 = 2 := by kernel_rfl
theorem cells_Slot : Tryz.prog.cellsOf 60 = 5 := by kernel_rfl
theorem cells_Code : Tryz.prog.cellsOf 27 = 4 := by kernel_rfl
theorem bytes_Inst : Tryz.prog.bytesOf 46 = 56 := by kernel_rfl
theorem bytes_Param : Tryz.prog.bytesOf 48 = 32 := by kernel_rfl
theorem bytes_Type : Tryz.prog.bytesOf 50 = 16 := by kernel_rfl
theorem bytes_Slot : Tryz.prog.bytesOf 60 = 32 := by kernel_rfl
theorem weights_mem_all {H : Type} {P : Program} {e : TypeId} : ∀ {l : List (DataW H)} {d : DataW H}, d ∈ l → ∀ n ∈ d.weights P e, n ∈ DataW.weightsAll P e l
 | [], d, h, n, hn => by cases h
 | x :: r, d, h, n, hn => by
  simp only [DataW.weightsAll, List.mem_append]
  rcases List.mem_cons.1 h with rfl | h
  ·exact .inl hn
  ·exact .inr (weights_mem_all h n hn)
section
variable {H : Type} {enc : TypeId × Value → H} {w : World} {base : Nat} {held : Bool}
def InsOk (i : Ins) : Prop := 0 ≤ i.bits ∧ i.bits < 4294967296
theorem open_Ins {fuel : Nat} {cs : List Value} {x : DataW H × List MemPlace} (h : DataW.trod enc Tryz.prog w base (fun _ => true) held fuel 46 cs = some x) : ∃ i : Ins, cs = inC i ∧ InsOk i := by
 obtain ⟨xs, n, hfn, hx, hl, hxl, hf⟩ := DataW.trod_struct Tryz.underlying46 h
 rw [cells_Inst] at hl
 match cs, hl with
 | [v0, v1, v2, v3, v4, v5, v6], _ =>
 match xs, hxl with
 | [y0, y1, y2, y3, y4, y5, y6], _ =>
  have e0 : DataW.trod enc Tryz.prog w base (fun _ => true) held n 3 [v0] = some y0 := hf 0 _ rfl
  have e1 : DataW.trod enc Tryz.prog w base (fun _ => true) held n 3 [v1] = some y1 := hf 1 _ rfl
  have e2 : DataW.trod enc Tryz.prog w base (fun _ => true) held n 3 [v2] = some y2 := hf 2 _ rfl
  have e3 : DataW.trod enc Tryz.prog w base (fun _ => true) held n 3 [v3] = some y3 := hf 3 _ rfl
  have e4 : DataW.trod enc Tryz.prog w base (fun _ => true) held n 3 [v4] = some y4 := hf 4 _ rfl
  have e5 : DataW.trod enc Tryz.prog w base (fun _ => true) held n 3 [v5] = some y5 := hf 5 _ rfl
  have e6 : DataW.trod enc Tryz.prog w base (fun _ => true) held n 44 [v6] = some y6 := hf 6 _ rfl
  obtain ⟨a0, c0, -, w0⟩ := DataW.trod_int Tryz.underlying3 e0
  obtain ⟨a1, c1, -, w1⟩ := DataW.trod_int Tryz.underlying3 e1
  obtain ⟨a2, c2, -, w2⟩ := DataW.trod_int Tryz.underlying3 e2
  obtain ⟨a3, c3, -, w3⟩ := DataW.trod_int Tryz.underlying3 e3
  obtain ⟨a4, c4, -, w4⟩ := DataW.trod_int Tryz.underlying3 e4
  obtain ⟨a5, c5, -, w5⟩ := DataW.trod_int Tryz.underlying3 e5
  obtain ⟨a6, c6, -, w6⟩ := DataW.trod_int Tryz.underlying44 e6
  simp only [List.cons.injEq, and_true] at c0 c1 c2 c3 c4 c5 c6
  subst c0 c1 c2 c3 c4 c5 c6
  exact ⟨⟨a0, a1, a2, a3, a4, a5, a6⟩, rfl, (bounds_u32 w6).1, Int.lt_add_one_of_le (bounds_u32 w6).2⟩
theorem open_Par {fuel : Nat} {cs : List Value} {x : DataW H × List MemPlace} (h : DataW.trod enc Tryz.prog w base (fun _ => true) held fuel 48 cs = some x) (hw : ∀ n ∈ x.1.weights Tryz.prog 48, n ≤ reachBytes) :
  ∃ p : Par, cs = parCells p ∧ p.name.size ≤ 140737488351232 := by
 obtain ⟨xs, n, hfn, hx, hl, hxl, hf⟩ := DataW.trod_struct Tryz.underlying48 h
 rw [cells_Param] at hl
 match cs, hl with
 | [v0, v1, v2], _ =>
 match xs, hxl with
 | [y0, y1, y2], _ =>
  have e0 : DataW.trod enc Tryz.prog w base (fun _ => true) held n 9 [v0] = some y0 := hf 0 _ rfl
  have e1 : DataW.trod enc Tryz.prog w base (fun _ => true) held n 3 [v1] = some y1 := hf 1 _ rfl
  have e2 : DataW.trod enc Tryz.prog w base (fun _ => true) held n 3 [v2] = some y2 := hf 2 _ rfl
  obtain ⟨a0, c0, hd0, w0⟩ := DataW.trod_string Tryz.underlying9 e0
  obtain ⟨a1, c1, hd1, w1⟩ := DataW.trod_int Tryz.underlying3 e1
  obtain ⟨a2, c2, hd2, w2⟩ := DataW.trod_int Tryz.underlying3 e2
  simp only [List.cons.injEq, and_true] at c0 c1 c2
  subst c0 c1 c2
  subst hx
  have hws : ∀ (j : Nat) (t : TypeId) (d : DataW H), [9, 3, 3][j]? = some t → [y0.1, y1.1, y2.1][j]? = some d → ∀ n ∈ d.weights Tryz.prog t, n ≤ reachBytes := fun j t d ht hd n hn => by
   refine hw n ?_
   show n ∈ DataW.weights Tryz.prog 48 (.agg [y0.1, y1.1, y2.1])
   rw [DataW.weights, Tryz.underlying48]
   exact DataW.weights_mem_each (ts := [9, 3, 3]) ht hd n hn
  have s1 : a0.size ≤ 140737488351232 := by
   have := hws 0 _ _ rfl rfl a0.data.toList.length (by rw [hd0]; simp [DataW.weights])
   simpa [reachBytes] using this
  exact ⟨⟨a0, a1, a2⟩, rfl, s1⟩
theorem open_Ty {fuel : Nat} {cs : List Value} {x : DataW H × List MemPlace} (h : DataW.trod enc Tryz.prog w base (fun _ => true) held fuel 50 cs = some x) : ∃ t : Ty, cs = tyC t ∧ True := by
 obtain ⟨xs, n, hfn, hx, hl, hxl, hf⟩ := DataW.trod_struct Tryz.underlying50 h
 rw [cells_Type] at hl
 match cs, hl with
 | [v0, v1], _ =>
 match xs, hxl with
 | [y0, y1], _ =>
  have e0 : DataW.trod enc Tryz.prog w base (fun _ => true) held n 3 [v0] = some y0 := hf 0 _ rfl
  have e1 : DataW.trod enc Tryz.prog w base (fun _ => true) held n 3 [v1] = some y1 := hf 1 _ rfl
  obtain ⟨a0, c0, -, w0⟩ := DataW.trod_int Tryz.underlying3 e0
  obtain ⟨a1, c1, -, w1⟩ := DataW.trod_int Tryz.underlying3 e1
  simp only [List.cons.injEq, and_true] at c0 c1
  subst c0 c1
  exact ⟨⟨a0, a1⟩, rfl, trivial⟩
def SlOk (s : Sl) : Prop := 0 ≤ s.bits ∧ s.bits < 4294967296
theorem open_Sl {fuel : Nat} {cs : List Value} {x : DataW H × List MemPlace} (h : DataW.trod enc Tryz.prog w base (fun _ => true) held fuel 60 cs = some x) : ∃ s : Sl, cs = slC s ∧ SlOk s := by
 obtain ⟨xs, n, hfn, hx, hl, hxl, hf⟩ := DataW.trod_struct Tryz.underlying60 h
 rw [cells_Slot] at hl
 match cs, hl with
 | [v0, v1, v2, v3, v4], _ =>
 match xs, hxl with
 | [y0, y1, y2, y3], _ =>
  have e0 : DataW.trod enc Tryz.prog w base (fun _ => true) held n 50 [v0, v1] = some y0 := hf 0 _ rfl
  have e1 : DataW.trod enc Tryz.prog w base (fun _ => true) held n 4 [v2] = some y1 := hf 1 _ rfl
  have e2 : DataW.trod enc Tryz.prog w base (fun _ => true) held n 44 [v3] = some y2 := hf 2 _ rfl
  have e3 : DataW.trod enc Tryz.prog w base (fun _ => true) held n 3 [v4] = some y3 := hf 3 _ rfl
  obtain ⟨t, ht, -⟩ := open_Ty e0
  obtain ⟨a1, c1, -⟩ := DataW.trod_bool Tryz.underlying4 e1
  obtain ⟨a2, c2, -, w2⟩ := DataW.trod_int Tryz.underlying44 e2
  obtain ⟨a3, c3, -, w3⟩ := DataW.trod_int Tryz.underlying3 e3
  obtain ⟨K, P⟩ := t
  simp only [tyC, List.cons.injEq, and_true] at ht c1 c2 c3
  obtain ⟨rfl, rfl⟩ := ht
  subst c1 c2 c3
  exact ⟨⟨⟨K, P⟩, a1, a2, a3⟩, rfl, (bounds_u32 w2).1, Int.lt_add_one_of_le (bounds_u32 w2).2⟩
theorem open_rowG {α : Type} [Inhabited α] {f : α → List Value} {k bytes : Nat} {t e : TypeId} {Good : α → Prop} (hk : 0 < k) (hf : ∀ x, (f x).length = k) (ht : Tryz.prog.underlying t = some (.slice e)) (hce : Tryz.prog.cellsOf e = k) (hby : Tryz.prog.bytesOf e = bytes) (hb0 : 0 < bytes)
  (hop : ∀ {fuel : Nat} {cs : List Value} {x : DataW H × List MemPlace}, DataW.trod enc Tryz.prog w base (fun _ => true) held fuel e cs = some x → (∀ n ∈ x.1.weights Tryz.prog e, n ≤ reachBytes) → ∃ a : α, cs = f a ∧ Good a)
  {fuel : Nat} {v : Value} {x : DataW H × List MemPlace} (h : DataW.trod enc Tryz.prog w base (fun _ => true) held fuel t [v] = some x) (hw : ∀ n ∈ x.1.weights Tryz.prog t, n ≤ reachBytes) :
  ∃ l : List α, RowG k f w v l ∧ l.length * bytes ≤ 140737488351232 ∧ ∀ a ∈ l, Good a := by
 rcases DataW.trod_slice ht h with ⟨hcs, hx⟩ | ⟨a, len, cap, elems, rest, m, hm, hcs, hx, _, hl, _, hel, hread, _, _⟩
 ·simp only [List.cons.injEq, and_true] at hcs
  subst hcs
  exact ⟨[], ⟨none, 0, rfl, .inl rfl⟩, by simp, fun a h => by cases h⟩
 ·simp only [List.cons.injEq, and_true] at hcs
  subst hcs
  subst hx
  have key : ∀ i, i < len → ∃ q : α, (∀ j, j < k → w.cell? (a.add (i * k + j)) = (f q)[j]?) ∧ Good q := by
   intro i hi
   have h1 := hread i hi
   rw [hce] at h1
   have hie : i < elems.length := by omega
   rw [List.getElem?_eq_getElem hie] at h1
   obtain ⟨cs', h2, h3⟩ := Option.bind_eq_some_iff.1 h1
   obtain ⟨_, hlen3, hcell⟩ := World.cells?_some h2
   obtain ⟨q, hcs, hok⟩ := hop h3 (fun n hn => hw n (by
    rw [DataW.weights, ht]
    exact List.mem_cons_of_mem _ (List.mem_append_left _ (weights_mem_all (List.mem_map.2 ⟨elems[i], List.getElem_mem hie, rfl⟩) n hn))))
   refine ⟨q, fun j hj => ?_, hok⟩
   have := hcell j hj
   rw [Go.Deep.add_add, hcs] at this
   exact this
  obtain ⟨g, hg⟩ := Go.Deep.choose_lt key
  have hTl : ((List.range len).map g).length = len := by simp
  have hbig : len * bytes ≤ 140737488351232 := by
   have := hw _ (by rw [DataW.weights, ht]; exact List.mem_cons_self)
   rw [hby] at this
   simp only [List.length_map, reachBytes] at this
   have hln : elems.length = len := by omega
   simp only [hln] at this
   exact Nat.le_trans (Nat.mul_le_mul_right _ (Nat.le_add_right _ _)) this
  refine ⟨(List.range len).map g, ?_, by rw [hTl]; exact hbig, ?_⟩
  ·refine ⟨some a, cap, by rw [hTl], ?_⟩
   by_cases hl0 : len = 0
   ·left; simp [hl0]
   ·obtain ⟨b, off, spot⟩ := a
    have hne : 0 < (f (g 0)).length := by rw [hf]; exact hk
    have hspot : spot = none := by
     have := (hg 0 (by omega)).1 0 hk
     rw [List.getElem?_eq_getElem hne] at this
     simpa [Addr.add] using World.cell?_spot this
    subst hspot
    refine .inr ⟨b, off, rfl, fun i hi j hj => ?_⟩
    have hi' : i < len := by rw [hTl] at hi; exact hi
    obtain ⟨q, -⟩ := hg i hi'
    have e : ((List.range len).map g)[i] = g i := by simp
    have hj2 : j < (f (g i)).length := by simpa [e] using hj
    have hj3 : j < k := by rw [← hf (g i)]; exact hj2
    have q' := q j hj3
    rw [add_none, ← Nat.add_assoc] at q'
    rw [q', List.getElem?_eq_getElem hj2]
    congr 1
    simp [e]
  ·intro q hq
   obtain ⟨i, hi, rfl⟩ := List.mem_map.1 hq
   exact (hg i (List.mem_range.1 hi)).2
instance : Inhabited Ins := ⟨⟨0, 0, 0, 0, 0, 0, 0⟩⟩
instance : Inhabited Ty := ⟨⟨0, 0⟩⟩
instance : Inhabited Sl := ⟨⟨⟨0, 0⟩, false, 0, 0⟩⟩
instance : Inhabited Par := ⟨⟨⟨#[]⟩, 0, 0⟩⟩
theorem open_Code {r : Reach} {b0 : Nat} {v : Value} {d : DataW H} {pl : List MemPlace} (hv : Value.okWide Tryz.prog w r b0 27 v) (h : DataW.Trod enc Tryz.prog w base (fun _ => true) held 27 v d pl) (hw : ∀ n ∈ d.weights Tryz.prog 27, n ≤ reachBytes) :
  ∃ (v0 v1 v2 v3 : Value) (c : Cd), v = .agg #[v0, v1, v2, v3] ∧ CdV w v0 v1 v2 v3 c ∧ CdOk c ∧ c.sign.length * 32 ≤ 140737488351232 ∧ c.regs.length * 16 ≤ 140737488351232 ∧ c.slots.length * 32 ≤ 140737488351232 ∧ c.list.length * 56 ≤ 140737488351232 := by
 obtain ⟨cs, rfl, hsz⟩ := okWide_struct Tryz.underlying27 hv
 obtain ⟨fuel, hf0⟩ := h
 obtain ⟨xs, n, hfn, hx, hl, hxl, hf⟩ := DataW.trod_struct Tryz.underlying27 hf0
 rw [cells_Code] at hl
 obtain ⟨cl, hcl⟩ : ∃ cl, (Value.agg cs).cells.toList = cl := ⟨_, rfl⟩
 rw [hcl] at hl hf
 have hcs : cs.toList = cl := by rw [← hcl]; simp [Value.cells]
 match cl, hl with
 | [v0, v1, v2, v3], _ =>
 match xs, hxl with
 | [y0, y1, y2, y3], _ =>
  have e0 : DataW.trod enc Tryz.prog w base (fun _ => true) held n 22 [v0] = some y0 := hf 0 _ rfl
  have e1 : DataW.trod enc Tryz.prog w base (fun _ => true) held n 23 [v1] = some y1 := hf 1 _ rfl
  have e2 : DataW.trod enc Tryz.prog w base (fun _ => true) held n 24 [v2] = some y2 := hf 2 _ rfl
  have e3 : DataW.trod enc Tryz.prog w base (fun _ => true) held n 25 [v3] = some y3 := hf 3 _ rfl
  have hd : d = .agg [y0.1, y1.1, y2.1, y3.1] := congrArg Prod.fst hx
  have hws : ∀ (j : Nat) (t : TypeId) (d : DataW H), [22, 23, 24, 25][j]? = some t → [y0.1, y1.1, y2.1, y3.1][j]? = some d → ∀ n ∈ d.weights Tryz.prog t, n ≤ reachBytes := fun j t d' ht hd' n hn => by
   refine hw n ?_
   rw [hd]
   show n ∈ DataW.weights Tryz.prog 27 (.agg [y0.1, y1.1, y2.1, y3.1])
   rw [DataW.weights, Tryz.underlying27]
   exact DataW.weights_mem_each (ts := [22, 23, 24, 25]) ht hd' n hn
  obtain ⟨l0, r0, s0, g0⟩ := open_rowG (Good := fun p : Par => p.name.size ≤ 140737488351232) (by decide) parC_len Tryz.underlying22 cells_Param bytes_Param (by decide) (fun h hw => open_Par h hw) e0 (hws 0 _ _ rfl rfl)
  obtain ⟨l1, r1, s1, g1⟩ := open_rowG (Good := fun _ : Ty => True) (by decide) tyC_len Tryz.underlying23 cells_Type bytes_Type (by decide) (fun h _ => open_Ty h) e1 (hws 1 _ _ rfl rfl)
  obtain ⟨l2, r2, s2, g2⟩ := open_rowG (Good := SlOk) (by decide) slC_len Tryz.underlying24 cells_Slot bytes_Slot (by decide) (fun h _ => open_Sl h) e2 (hws 2 _ _ rfl rfl)
  obtain ⟨l3, r3, s3, g3⟩ := open_rowG (Good := InsOk) (by decide) inC_len Tryz.underlying25 cells_Inst bytes_Inst (by decide) (fun h _ => open_Ins h) e3 (hws 3 _ _ rfl rfl)
  refine ⟨v0, v1, v2, v3, ⟨l0, l1, l2, l3⟩, ?_, ⟨r0, r1, r2, r3⟩, ⟨by show l0.length ≤ _; omega, g0, by show l1.length ≤ _; omega, by show l2.length ≤ _; omega, by show l3.length ≤ _; omega, g2, g3⟩, s0, s1, s2, s3⟩
  rw [Value.agg.injEq]
  apply Array.toList_inj.1
  exact hcs
end
end Go.Proofs.YtgcmnkanjcfndaaGreatDoor
namespace Go.Proofs.YtgcmnkanjcfndaaGreatDoor
open Go.ChangeShapes Go.WideShapes Go.ChangeAt Go.RowKit
set_option linter.unusedVariables false
theorem t_tab : (Tryz.prog.globals[1]?).map (·.type) = some 208 := by kernel_rfl
theorem c_tab : Tryz.prog.cellsOf 208 = 20 := by kernel_rfl
theorem c_u64 : Tryz.prog.cellsOf 178 = 1 := by kernel_rfl
theorem c_str : Tryz.prog.cellsOf 9 = 1 := by kernel_rfl
theorem c_es : Tryz.prog.cellsOf 232 = 1 := by kernel_rfl
theorem g_syn : Tryz.prog.globalNamed "strconv.ErrSyntax" = some 4 := by kernel_rfl
theorem g_rng : Tryz.prog.globalNamed "strconv.ErrRange" = some 5 := by kernel_rfl
theorem t_syn : (Tryz.prog.globals[4]?).map (·.type) = some 138 := by kernel_rfl
theorem t_rng : (Tryz.prog.globals[5]?).map (·.type) = some 138 := by kernel_rfl
theorem star : "*" ++ "errors.errorString" = "*errors.errorString" := by decide
theorem one_row (u : TypeId) (h : Tryz.prog.typeName? 3 u = some "*errors.errorString") : u = 230 :=
 typeName_ptr_named (nm := "errors.errorString") (by rw [star]; kernel_rfl) (by kernel_rfl) (by decide) u (by rw [star]; exact h)
theorem max_len {W : World} (h : W.ShapedOpen Tryz.prog) : ∃ m, W.cell? ⟨0, 0, none⟩ = some (.int .i64 m) :=
 cell_of_shapedOpen_int (zero := #[.int .i64 0]) h (of_decide_eq_true (by kernel_rfl)) (by kernel_rfl) rfl (by kernel_rfl) (by kernel_rfl) Tryz.underlying3
theorem laid_of {W : World} (hsh : W.ShapedOpen Tryz.prog) (h : laidMetH Tryz.prog Rows.asmBackRow.laid W) : Laid W := by
 rw [MakeChecks.laidMetH_plain _ _ _ (by kernel_rfl)] at h
 have h0 : laidMet Tryz.prog (("math/bits.deBruijn32tab", Rows.laid_math_bits_deBruijn32tab) :: ("math/bits.deBruijn64tab", Rows.laid_math_bits_deBruijn64tab) :: ("internal/strconv.uint64pow10", Lib.tabData .u64 Lib.pow10Tab) :: ("strconv.ErrRange", Rows.laid_strconv_ErrRange) :: [("strconv.ErrSyntax", Rows.laid_strconv_ErrSyntax)]) W := h
 have h2 := h0.tail.tail
 have h4 := h2.tail
 obtain ⟨a0, s0, hv0, -, -, -⟩ := laid_sentinel h4 g_rng t_rng Tryz.underlying138 one_row Tryz.underlying230 Tryz.underlying232 rfl rfl Tryz.underlying9 c_es c_str
 obtain ⟨a1, s1, hv1, -, -, -⟩ := laid_sentinel h4.tail g_syn t_syn Tryz.underlying138 one_row Tryz.underlying230 Tryz.underlying232 rfl rfl Tryz.underlying9 c_es c_str
 refine ⟨max_len hsh, Lib.tabIs_of_head g_tab t_tab Tryz.underlying208 Tryz.underlying178 c_u64 c_tab h2, ⟨230, .pointer (some a1), ?_⟩, ⟨230, .pointer (some a0), ?_⟩⟩
 ·have e := World.var?_cell g_syn hv1 0
  simpa using e
 ·have e := World.var?_cell g_rng hv0 0
  simpa using e
noncomputable def wlA (os : Os) : World := World.laidAll Tryz.prog os Rows.asmBackRow.laid
theorem wl_met (os : Os) (args : Array Value) : laidMetH Tryz.prog Rows.asmBackRow.laid ((wlA os).forCall (fun _ _ => 0) ⟨#[], args, []⟩).memory := by
 rw [MakeChecks.laidMetH_plain _ _ _ (by kernel_rfl)]
 exact laidMet_laidAll _ (by kernel_rfl) (by kernel_rfl)
theorem wl_shaped (os : Os) (args : Array Value) : ((wlA os).forCall (fun _ _ => 0) ⟨#[], args, []⟩).Shaped Tryz.prog :=
 World.shaped_of_ZipB (by kernel_rfl) (by kernel_rfl)
theorem witness_wl {H : Type} {enc : TypeId × Value → H} {os : Os} {f : FuncId} {fn : Func} {s : OpenSpec} {conds : List PathCond} {apart : Bool} {laid : List (String × DataW Unit)} (args : Array Value)
  (hok : Input.okWideB Tryz.prog ((wlA os).forCall (fun _ _ => 0) ⟨#[], args, []⟩) f ⟨#[], args, []⟩ = true)
  (hrow : s.preRow enc Tryz.prog fn conds apart laid ((wlA os).forCall (fun _ _ => 0) ⟨#[], args, []⟩).memory args) :
  ∃ (w : World) (tape : Tape) (i : Input), w.os = os ∧ (w.forCall tape i).Shaped Tryz.prog ∧ i.vars = [] ∧ Input.okWide Tryz.prog (w.forCall tape i) .any w.heap.size f i ∧
   s.preRow enc Tryz.prog fn conds apart laid (w.forCall tape i).memory i.args ∧ ({} : Assume).holds Tryz.prog (lone (Frame.enter Tryz.prog f i.args .normal) [] (w.forCall tape i)) :=
 ⟨wlA os, fun _ _ => 0, ⟨#[], args, []⟩, World.laidAll_os _ _ _, wl_shaped os args, rfl, (Input.okWide_of_okWideB hok).2, hrow, by
  simp only [Assume.holds]
  exact ⟨by simp, by simp, by simp, by simp, by simp⟩⟩
end Go.Proofs.YtgcmnkanjcfndaaGreatDoor
