import Derived.Test.YtgcmnkanjcfndaaGreatDoorTxt1
import Derived.Test.YtgcmnkanjcfndaaGreatDoorTxt16
import Derived.OrdersHeld
import Derived.Deep.DeepCutAuto
namespace Go.Proofs.YtgcmnkanjcfndaaGreatDoor
open Go.RowKit
set_option linter.unusedVariables false
set_option linter.unusedSimpArgs false
def in7 (i : Ins) (j : Nat) : Value := if j = 0 then .int .i64 i.op else if j = 1 then .int .i64 i.d else if j = 2 then .int .i64 i.a else if j = 3 then .int .i64 i.b else if j = 4 then .int .i64 i.c else if j = 5 then .int .i64 i.n else .int .u32 i.bits
theorem in7_setA (i : Ins) {o : Nat} (h1 : 1 ≤ o) (h2 : o ≤ 4) (v : Int) (j : Nat) (hj : j < 7) : (if j = o then Value.int .i64 v else in7 i j) = in7 (setA i o v) j := by
 rcases (show o = 1 ∨ o = 2 ∨ o = 3 ∨ o = 4 by omega) with rfl | rfl | rfl | rfl <;> rcases (show j = 0 ∨ j = 1 ∨ j = 2 ∨ j = 3 ∨ j = 4 ∨ j = 5 ∨ j = 6 by omega) with rfl | rfl | rfl | rfl | rfl | rfl | rfl <;> rfl
theorem in7_n (i : Ins) (v : Int) (j : Nat) (hj : j < 7) : (if j = 5 then Value.int .i64 v else in7 i j) = in7 { i with n := v } j := by
 rcases (show j = 0 ∨ j = 1 ∨ j = 2 ∨ j = 3 ∨ j = 4 ∨ j = 5 ∨ j = 6 by omega) with rfl | rfl | rfl | rfl | rfl | rfl | rfl <;> rfl
theorem in7_bits (i : Ins) (v : Int) (j : Nat) (hj : j < 7) : (if j = 6 then Value.int .u32 v else in7 i j) = in7 { i with bits := v } j := by
 rcases (show j = 0 ∨ j = 1 ∨ j = 2 ∨ j = 3 ∨ j = 4 ∨ j = 5 ∨ j = 6 by omega) with rfl | rfl | rfl | rfl | rfl | rfl | rfl <;> rfl
theorem in7_cells {w : World} {X : Nat} {i : Ins} (h : w.rowIs X 46 7 (in7 i)) : CellsAt w X 0 (inC i) := fun j hj => by
 have hj' : j < 7 := hj
 have h9 := h.cell hj'
 rw [Nat.zero_add, h9]
 rcases (show j = 0 ∨ j = 1 ∨ j = 2 ∨ j = 3 ∨ j = 4 ∨ j = 5 ∨ j = 6 by omega) with rfl | rfl | rfl | rfl | rfl | rfl | rfl <;> rfl
theorem in7_at {w : World} {X : Nat} {i : Ins} (h : w.rowIs X 46 7 (in7 i)) {o : Nat} (h1 : 1 ≤ o) (h2 : o ≤ 4) : ∃ v, w.cell? ⟨X, o, none⟩ = some (.int .i64 v) := by
 have h9 := h.cell (i := o) (by omega)
 rcases (show o = 1 ∨ o = 2 ∨ o = 3 ∨ o = 4 by omega) with rfl | rfl | rfl | rfl <;> exact ⟨_, h9⟩
theorem in7_seven {w : World} {X : Nat} {i : Ins} (h : w.rowIs X 46 7 (in7 i)) : w.cell? ⟨X, 0, none⟩ = some (.int .i64 i.op) ∧ w.cell? ⟨X, 1, none⟩ = some (.int .i64 i.d) ∧ w.cell? ⟨X, 2, none⟩ = some (.int .i64 i.a) ∧ w.cell? ⟨X, 3, none⟩ = some (.int .i64 i.b) ∧ w.cell? ⟨X, 4, none⟩ = some (.int .i64 i.c) ∧ w.cell? ⟨X, 5, none⟩ = some (.int .i64 i.n) ∧ w.cell? ⟨X, 6, none⟩ = some (.int .u32 i.bits) :=
 ⟨h.cell (i := 0) (by decide), h.cell (i := 1) (by decide), h.cell (i := 2) (by decide), h.cell (i := 3) (by decide), h.cell (i := 4) (by decide), h.cell (i := 5) (by decide), h.cell (i := 6) (by decide)⟩
theorem rgO_in {i : Ins} : ∀ o ∈ rgO i, 1 ≤ o ∧ o ≤ 4 := fun o ho => by
 unfold rgO at ho
 rcases List.mem_append.1 ho with ho | ho
 ·split at ho <;> simp at ho; omega
 ·have := List.mem_of_mem_take ho
  simp at this
  omega
theorem rgO_len (i : Ins) : (rgO i).length ≤ 4 := by
 unfold rgO
 rw [List.length_append]
 have h1 : (if (rowP i.op).d != 0 then [1] else [] : List Nat).length ≤ 1 := by split <;> simp
 have h2 : ([2, 3, 4].take (readsP i (rowP i.op)).length).length ≤ 3 := by rw [List.length_take]; simp; omega
 omega
theorem meanA_lt {L : List Bs} {n : Nat} {s : Bs} (h : 0 < n) : (meanA L n s).getD 0 < n := by
 cases e : meanA L n s with
 | none => exact h
 | some j => exact (meanA_some e).1
theorem RdA.lenI {E B m0 m1 m2 m3 m4 : Nat} {w : World} {c : Cd} {ln st : Int} {u0 u1 u2 u3 : Value} (h : RdA E B m0 m1 m2 m3 m4 w c ln st u0 u1 u2 u3) : ∃ p q, u3 = .slice p c.list.length q := own_len h.own.list
set_option maxRecDepth 100000 in
set_option maxHeartbeats 16000000 in
theorem rinsA_any (E B WB m0 m1 m2 m3 m4 : Nat) (c : Cd) (ln st : Int) (u0 u1 u2 u3 : Value) (ws : List Bs) (w : World) (hL : LaidE E w) (hE : E ≤ WB) (h : RdA E B m0 m1 m2 m3 m4 w c ln st u0 u1 u2 u3) (hw : WdM WB ws false w) (hl : c.list.length ≤ 4194304) :
  Calls Tryz.prog 90 #[.pointer (some ⟨B, 0, none⟩), .pointer (some ⟨WB, 0, none⟩)] w (LineT E B WB m0 m1 m2 m3 m4 ln st ((insLn ws).map fun i => ⟨c.sign, c.regs, c.slots, c.list ++ [i]⟩) w) := by
 obtain ⟨N, hN⟩ : ∃ N, c.list.length = N := ⟨_, rfl⟩
 obtain ⟨p1, q1, hu1⟩ := h.lenI
 rw [hN] at hu1
 have HN := hidC (And.intro hN hu1)
 have HLn := hidC hl
 have HX := hidC (And.intro hE (And.intro hL h))
 have HW := hidC hw
 obtain ⟨T9, -, -, hrow9⟩ := hw.row
 have HROW0 := hidC hrow9
 have v10 : w.cell? ⟨B, 10, none⟩ = some (.map (some m4)) := h.row.cell (i := 10) (by decide)
 obtain ⟨O, hO⟩ : ∃ O, (meanA opsB 38 (nxW ws).1).getD 0 = O := ⟨_, rfl⟩
 have HOO := hidC hO
 have HO38 : Hid (O < 38) := by rw [← hO]; exact meanA_lt (by decide)
 have KM := wmean_any WB m4 ws false (meanA opsB 38) w hL.laid hw h.maps.ops.1
 rw [hO] at KM
 have HKM := hidC KM
 clear hN hu1 hl hE hL h hw hrow9 hO KM
 go_enter Tryz.func90, Tryz.ntmps90
 go_upto_region 1 with (go_at_call 120; (with_reducible refine HKM.out.mono ?_); rintro e w4 ⟨rfl, h4, k4⟩; have H4 := hidC (And.intro h4 k4); clear h4 k4; clear v10)
 obtain ⟨X, hX⟩ : ∃ X, w4.heap.size = X := ⟨_, rfl⟩
 obtain ⟨V4, hV4⟩ : ∃ V, w4.alloc (.cells #[.int .i64 (O : Int), .int .i64 0, .int .i64 0, .int .i64 0, .int .i64 0, .int .i64 0, .int .u32 0] 46) = V := ⟨_, rfl⟩
 have hb : Below w4.heap.size w4 V4 := by rw [← hV4]; exact bel_alloc _ _
 have hr4 : V4.rowIs X 46 7 (in7 (insA0 O)) := by
  rw [← hV4, ← hX]
  exact World.rowIs_alloc w4 #[.int .i64 (O : Int), .int .i64 0, .int .i64 0, .int .i64 0, .int .i64 0, .int .i64 0, .int .u32 0] 46 _ (fun i hi => by
   rcases (show i = 0 ∨ i = 1 ∨ i = 2 ∨ i = 3 ∨ i = 4 ∨ i = 5 ∨ i = 6 by have : i < 7 := hi; omega) with rfl | rfl | rfl | rfl | rfl | rfl | rfl <;> rfl)
 have HO4 : Hid (OfB WB w V4) := H4.out.2.trans (OfB.of hb)
 have HW4 := hidC (H4.out.1.below hb)
 have l4 := H4.out.2.size
 have lW := HW.out.lt
 have HXW : Hid (w.heap.size ≤ X ∧ WB < X ∧ X ≠ WB) := by refine ⟨?_, ?_, ?_⟩ <;> omega
 have HR4 := hidC hr4
 have KF := regsOf_any X (insA0 O) (by show (0 : Int) ≤ (O : Int); omega) V4 (in7_cells hr4)
 obtain ⟨ws0, hws0⟩ : ∃ r, (nxW ws).2 = r := ⟨_, rfl⟩
 obtain ⟨bad, hbad⟩ : ∃ r, (false || !(meanA opsB 38 (nxW ws).1).isSome) = r := ⟨_, rfl⟩
 rw [hws0, hbad] at HW4
 have HWS := hidC (And.intro hws0 hbad)
 obtain ⟨F, hF⟩ : ∃ F, rgO (insA0 O) = F := ⟨_, rfl⟩
 rw [hF] at KF
 have HFI : Hid ((∀ o ∈ F, 1 ≤ o ∧ o ≤ 4) ∧ rgO (insA0 O) = F) := by rw [← hF]; exact ⟨rgO_in, rfl⟩
 have hF4 : F.length ≤ 4 := by rw [← hF]; exact rgO_len _
 obtain ⟨NF, hNF⟩ : ∃ N, F.length = N := ⟨_, rfl⟩
 rw [hNF] at KF hF4
 have HNF := hidC hNF
 have KF' := hidC KF
 try rw [hV4]
 try rw [hX]
 clear hX hV4 hb hr4 l4 lW KF hF hNF hws0 hbad
 go_upto_block 0 with (go_at_call 82; (with_reducible refine KF'.out.mono ?_); rintro e9 w5 ⟨q5, d5, rfl, ho5, hb5⟩; have HB5 := hidC hb5; have HF5 := hidC ho5; clear hb5 ho5)
 have HPC : Hid (∀ (u : World), (∀ b, V4.heap.size ≤ b → b < w5.heap.size → u.heap[b]? = w5.heap[b]?) → ∀ j (hj : j < F.length), ∃ gb, q5 = some ⟨gb, 0, none⟩ ∧ u.cell? ⟨gb, j, none⟩ = some (.pointer (some ⟨X, F[j], none⟩))) := fun u hu j hj => by
  have hF5 := HF5.out
  rcases hF5.2 with ⟨e1, e2⟩ | ⟨gb, cap, cur, e1, -, -⟩
  ·exact absurd e2 (by have := HNF.out; omega)
  ·simp only [Value.slice.injEq] at e1
   have hq : q5 = some ⟨gb, 0, none⟩ := e1.1
   have hob : (Value.slice q5 NF d5).ownBlock = some gb := by rw [hq]; rfl
   have hlt := hF5.lt gb hob
   have hc := hF5.cells hob j (.pointer (some ⟨X, F[j], none⟩)) (by simp [ptrN, hj])
   have hadd : (⟨gb, 0, none⟩ : Addr).add j = ⟨gb, j, none⟩ := by unfold Addr.add; split <;> simp_all
   rw [hadd] at hc
   exact ⟨gb, hq, (World.cell?_of_block (hu gb hlt.1 hlt.2) (a := ⟨gb, j, none⟩)).trans hc⟩
 have HST : Hid (OfB WB w w5 ∧ WdM WB ws0 bad w5 ∧ w5.rowIs X 46 7 (in7 (insA0 O))) := ⟨HO4.out.trans (OfB.of HB5.out), HW4.out.below HB5.out, HR4.out.of_block (HB5.out.block _ HR4.out.lt)⟩
 have HRV : Hid (X < V4.heap.size ∧ V4.heap.size ≤ w5.heap.size) := ⟨HR4.out.lt, HB5.out.size⟩
 clear HB5 HF5 HR4 KF' HW4 HO4
 go_wp2_with fail
 go_loopw [16] (fun iv wx => ∃ (j : Nat) (i : Ins) (ws' : List Bs) (b' : Bool), j ≤ NF ∧ iv = .int .i64 (j : Int) ∧ Hid (InsI F (insA0 O) ws0 bad j i ws' b' ∧ OfB WB w wx ∧ WdM WB ws' b' wx ∧ wx.rowIs X 46 7 (in7 i) ∧ (∀ b, V4.heap.size ≤ b → b < w5.heap.size → wx.heap[b]? = w5.heap[b]?) ∧ w5.heap.size ≤ wx.heap.size)) (fun iv _ => NF - (intOf iv).toNat)
 case atStart => exact ⟨0, insA0 O, ws0, bad, Nat.zero_le _, rfl, InsI.start _ _ _ _, HST.out.1, HST.out.2.1, HST.out.2.2, fun _ _ _ => rfl, Nat.le_refl _⟩
 case round =>
  clear HST
  obtain ⟨j, i, ws1, b1, hj, rfl, HJ⟩ := hrel
  obtain ⟨j0, j1, j2, j3, j4, j5⟩ := HJ.out
  by_cases hlt : j < NF
  ·have hjl : j < F.length := by have := HNF.out; omega
   have e1 : (j : Int) < (NF : Int) := by omega
   have i1 : (0 : Int) ≤ (j : Int) := by omega
   obtain ⟨gb, rfl, hgc⟩ := HPC.out wr j4 j hjl
   obtain ⟨ho1, ho2⟩ := HFI.out.1 F[j] (List.getElem_mem hjl)
   obtain ⟨o, hoe⟩ : ∃ o, F[j] = o := ⟨_, rfl⟩
   have HOE := hidC hoe
   rw [hoe] at hgc ho1 ho2
   have KN := hidC (wreg_any E WB ws1 b1 wr (HX.out.2.1.ofB HX.out.1 j1) HX.out.1 j2)
   have HG : Hid (∀ (n : Int) (w' : World), OfB WB wr w' → w'.rowIs X 46 7 (in7 i) ∧ (∀ b, V4.heap.size ≤ b → b < w5.heap.size → w'.heap[b]? = w5.heap[b]?) ∧ w5.heap.size ≤ w'.heap.size ∧ OfB WB w w') := fun n w' k => ⟨j3.of_block (k.oth _ j3.lt HXW.out.2.2), fun x h1 h2 => (k.oth x (by omega) (by have := HXW.out.2.1; have := HRV.out.1; omega)).trans (j4 x h1 h2), Nat.le_trans j5 k.size, j1.trans k⟩
   have HI := hidC j0
   have wi : IntKind.i64.wrap ((j : Int) + 1) = ((j + 1 : Nat) : Int) := by rw [IntKind.wrap_i64]; omega
   clear j0 j1 j2 j3 j4 j5 HJ hoe HPC
   go_wp2_with (go_at_call 125; (with_reducible refine KN.out.mono ?_); rintro e9 w7 ⟨n, rfl, hm, h7, k7⟩; obtain ⟨z7, u7, s7, o7⟩ := HG.out n _ k7; have H7 := hidC (And.intro h7 hm); have HO7 := hidC o7; obtain ⟨vo, y7⟩ := in7_at z7 ho1 ho2; have f7 := z7.frozen o; have pz : Hid (PutR X w7 (w7.setCell ⟨X, o, none⟩ (.int .i64 n))) := PutR.one X o w7 (.int .i64 n); have HZ7 : Hid ((w7.setCell ⟨X, o, none⟩ (.int .i64 n)).rowIs X 46 7 (in7 (setA i o n))) := (z7.set o (.int .i64 n)).congr (in7_setA i ho1 ho2 n); have HU7 : Hid ((∀ b, V4.heap.size ≤ b → b < w5.heap.size → (w7.setCell ⟨X, o, none⟩ (.int .i64 n)).heap[b]? = w5.heap[b]?) ∧ w5.heap.size ≤ (w7.setCell ⟨X, o, none⟩ (.int .i64 n)).heap.size) := ⟨fun b h1 h2 => (Below.heap_setCell _ _ _ _ (by show b ≠ X; have := HRV.out.1; omega)).trans (u7 b h1 h2), by simpa using s7⟩; clear h7 k7 hm z7 u7 s7 o7)
   go_roundw
   case rel => exact ⟨j + 1, setA i o n, _, _, by omega, by go_num, by rw [← HOE.out]; exact HI.out.step hjl H7.out.2, HO7.out.putN pz.out HXW.out.1, H7.out.1.putN pz.out (Ne.symm HXW.out.2.2), HZ7.out, HU7.out.1, HU7.out.2⟩
   case measure => simp [intOf]; omega
  ·have e1 : ¬ (j : Int) < (NF : Int) := by omega
   have hjN : j = F.length := by have := HNF.out; omega
   have HIE : Hid (InsI (rgO (insA0 O)) (insA0 O) (nxW ws).2 (false || !(meanA opsB 38 (nxW ws).1).isSome) (rgO (insA0 O)).length i ws1 b1) := by
    show InsI _ _ _ _ _ _ _ _
    rw [HWS.out.1, HWS.out.2, HFI.out.2, ← hjN]
    exact j0
   have HRS := hidC j0.rest
   have HRS : Hid (i.op = (O : Int) ∧ i.n = 0 ∧ i.bits = 0) := HRS.out
   have HL := hidC (HX.out.2.1.ofB HX.out.1 j1)
   have HV0 := hidC (And.intro j1 (And.intro j2 j3))
   have HRW := hidC j3
   have KH := hidC (fun v => ahasN_any O v)
   have KB := hidC (fun v => ahasB_any O v)
   obtain ⟨iop, d, a, b, e, n, z⟩ := i
   have hop : iop = (O : Int) := HRS.out.1
   have hn0 : n = 0 := HRS.out.2.1
   have hz0 : z = 0 := HRS.out.2.2
   subst hop hn0 hz0
   obtain ⟨x0, x1, x2, x3, x4, x5, x6⟩ := in7_seven j3
   clear hjN HJ HPC hlt j0 j1 j2 j3 j4 j5
   cases hnb : nmB O with
   | true =>
    have hO1 : decide (O = 1) = false := by
     by_cases q : O = 1
     ·subst q; exact absurd hnb (by decide)
     ·simpa using q
    have HNB := hidC hnb
    rw [hnb] at KH
    rw [hO1] at KB
    clear hnb hO1
    have KN := hidC (wnum_any WB ws1 b1 wr HL.out.laid HV0.out.2.1 (fun v k => (HL.out.ofB HX.out.1 k).laid))
    go_upto_region 8 with (first
     | (go_at_call 121; (with_reducible refine KN.out.mono ?_); rintro e9 w6 ⟨m, rfl, hm, h6, k6⟩; have H6 := hidC (And.intro h6 (And.intro k6 hm)); clear h6 k6 hm; have y6 := HRW.out.of_block (H6.out.2.1.oth _ HRW.out.lt HXW.out.2.2); have HY6 := hidC y6; clear x0; obtain ⟨x0, x1, x2, x3, x4, x5, x6⟩ := in7_seven y6; have f5 := y6.frozen 5; clear y6)
     | (go_at_call 83; (with_reducible refine (KH.out _).mono ?_); rintro e9 w7 ⟨rfl, hw7⟩; have hw8 := hw7.symm; subst hw8)
     | (go_at_call 84; (with_reducible refine (KB.out _).mono ?_); rintro e9 w7 ⟨rfl, hw7⟩; have hw8 := hw7.symm; subst hw8))
    obtain ⟨V, hV⟩ : ∃ V, w6.setCell ⟨X, 5, none⟩ (.int .i64 m) = V := ⟨_, rfl⟩
    have pz : PutR X w6 V := by rw [← hV]; exact PutR.one X 5 w6 (.int .i64 m)
    have hz7 : V.rowIs X 46 7 (in7 ⟨(O : Int), d, a, b, e, m, 0⟩) := by rw [← hV]; exact (HY6.out.set 5 (.int .i64 m)).congr (in7_n _ m)
    have HV : Hid (OfB WB w V ∧ WdM WB (nxW ws1).2 (b1 || !(numW (nxW ws1).1).isSome) V ∧ V.rowIs X 46 7 (in7 ⟨(O : Int), d, a, b, e, m, 0⟩)) := ⟨(HV0.out.1.trans H6.out.2.1).putN pz HXW.out.1, H6.out.1.putN pz (Ne.symm HXW.out.2.2), hz7⟩
    try rw [hV]
    clear x0 x1 x2 x3 x4 x5 x6 f5 pz hV hz7
    obtain ⟨x0, x1, x2, x3, x4, x5, x6⟩ := in7_seven HV.out.2.2
    go_upto_region 10 with (go_at_call 84; (with_reducible refine (KB.out _).mono ?_); rintro e9 w7 ⟨rfl, hw7⟩; have hw8 := hw7.symm; subst hw8)
    clear x0 x1 x2 x3 x4 x5 x6
    have hpd := HV.out.2.2.of_block (w' := V.drew) rfl
    obtain ⟨x0, x1, x2, x3, x4, x5, x6⟩ := in7_seven hpd
    have HOD : Hid (OfB WB w V.drew) := HV.out.1.trans (OfB.of (bel_d V))
    have HWDd : Hid (WdM WB ((nxW ws1).2) (b1 || !(numW (nxW ws1).1).isSome) V.drew) := HV.out.2.1.below (bel_d V)
    have HRD : Hid (RdA E B m0 m1 m2 m3 m4 V.drew c ln st u0 u1 u2 u3) := HX.out.2.2.ofB HROW0.out HOD.out
    have bx0 : (V.drew.alloc (.cells #[.int .i64 (O : Int), .int .i64 d, .int .i64 a, .int .i64 b, .int .i64 e, .int .i64 m, .int .u32 0] 46)).cell? ⟨X, 0, none⟩ = some (.int .i64 (O : Int)) := kc (bel_alloc _ _) x0
    have HEND : Hid (SayT ((insLn ws).map fun i => ⟨c.sign, c.regs, c.slots, c.list ++ [i]⟩) ⟨c.sign, c.regs, c.slots, c.list ++ [⟨(O : Int), d, a, b, e, m, 0⟩]⟩ ((nxW ws1).2) (b1 || !(numW (nxW ws1).1).isSome)) := ins_end HOO.out HIE.out ⟨⟨rfl, rfl, rfl, rfl, rfl⟩, by
     rw [if_pos HNB.out]; exact ⟨H6.out.2.2, rfl, rfl, rfl⟩⟩
    clear hpd
    obtain ⟨g, q, w8, hrun, hrow8, hrd8, hwd8, hbe8⟩ := HRD.out.ins HWDd.out ⟨(O : Int), d, a, b, e, m, 0⟩ (by have := HLn.out; omega) 25
    have H8 := hidC (And.intro hrd8 (And.intro hwd8 hbe8))
    clear hrd8 hwd8 hbe8
    rw [HN.out.2, HN.out.1] at hrun
    have hrun5 : (Builtin.append_ #[25, 25] 25 #[.slice p1 N q1, .slice (some ⟨V.drew.heap.size, 0, none⟩) 1 1]).run Tryz.prog (V.drew.alloc (.cells #[.int .i64 (O : Int), .int .i64 d, .int .i64 a, .int .i64 b, .int .i64 e, .int .i64 m, .int .u32 0] 46)) = .ok (.slice (some ⟨g, 0, none⟩) (N + 1) q) w8 := hrun
    have HRUN := hidC hrun5
    clear hrun hrun5
    have z8 := hrow8.frozen 3
    have c8 := hrow8.cell (i := 3) (by decide)
    have c8' : w8.cell? ⟨B, 3, none⟩ = some u3 := c8
    rw [HN.out.2] at c8'
    clear c8 hrow8
    have vd : V.drew.cell? ⟨B, 3, none⟩ = some (.slice p1 N q1) := by rw [HRD.out.row.cell (i := 3) (by decide), ← HN.out.2]; rfl
    have va : (V.drew.alloc (.cells #[.int .i64 (O : Int), .int .i64 d, .int .i64 a, .int .i64 b, .int .i64 e, .int .i64 m, .int .u32 0] 46)).cell? ⟨B, 3, none⟩ = some (.slice p1 N q1) := kc (bel_alloc _ _) vd
    have va' : (V.alloc (.cells #[.int .i64 (O : Int), .int .i64 d, .int .i64 a, .int .i64 b, .int .i64 e, .int .i64 m, .int .u32 0] 46)).drew.cell? ⟨B, 3, none⟩ = some (.slice p1 N q1) := va
    refine wp_region_held_drew (S := (fun _ => True)) (by kernel_rfl) ?_ (fun hHeld => ?_)
    ·trivial
    refine tkT 0 ?_
    refine tkT 1 ?_
    refine tkT 2 ?_
    refine tkT 3 ?_
    refine tkT 4 ?_
    clear hHeld
    refine wpAnyH_ready (rs := [5, 6]) (by kernel_rfl) (by simp) ?_
    refine AllReadyH.cons (i := 5) (by simp only [List.getElem?_toArray, List.getElem?_cons_succ, List.getElem?_cons_zero]; rfl) (fun K hK => ?_) ?_
    ·go_simp
     refine hK.out _ _ ?_ (fun hHeld => ?_)
     ·trivial
     clear hK K
     try simp only [Act.put, List.setIfInBounds_toArray, List.set_cons_zero, List.set_cons_succ]
     clear hHeld
     refine wpAnyH_ready (rs := [6]) (by kernel_rfl) (by simp) ?_
     refine AllReadyH.cons (i := 6) (by simp only [List.getElem?_toArray, List.getElem?_cons_succ, List.getElem?_cons_zero]; rfl) (fun K hK => ?_) AllReadyH.nil
     go_simp
     refine hK.out _ _ ?_ (fun hHeld => ?_)
     ·trivial
     clear hK K
     try simp only [Act.put, List.setIfInBounds_toArray, List.set_cons_zero, List.set_cons_succ]
     clear hHeld
     refine wpAnyH_ready (rs := [7]) (by kernel_rfl) (by simp) ?_
     refine AllReadyH.cons (i := 7) (by simp only [List.getElem?_toArray, List.getElem?_cons_succ, List.getElem?_cons_zero]; rfl) (fun K hK => ?_) AllReadyH.nil
     go_simp
     refine hK.out _ _ ?_ (fun hHeld => ?_)
     ·trivial
     clear hK K
     try simp only [Act.put, List.setIfInBounds_toArray, List.set_cons_zero, List.set_cons_succ]
     clear hHeld
     refine wpAnyH_ready (rs := [8]) (by kernel_rfl) (by simp) ?_
     refine AllReadyH.cons (i := 8) (by simp only [List.getElem?_toArray, List.getElem?_cons_succ, List.getElem?_cons_zero]; rfl) (fun K hK => ?_) AllReadyH.nil
     refine ready_appA _ _ _ _ (by rfl) _ _ _ (by rfl) (by rfl) HRUN.out ?_ _ (by rfl)
     refine hK.out _ _ ?_ (fun hHeld => ?_)
     ·trivial
     clear hK K
     try simp only [Act.put, List.setIfInBounds_toArray, List.set_cons_zero, List.set_cons_succ]
     refine tkT 9 ?_
     refine tkT 10 ?_
     refine tkT 11 ?_
     clear hHeld
     refine wpAnyH_ready (rs := [12]) (by kernel_rfl) (by simp) ?_
     refine AllReadyH.cons (i := 12) (by simp only [List.getElem?_toArray, List.getElem?_cons_succ, List.getElem?_cons_zero]; rfl) (fun K hK => ?_) AllReadyH.nil
     go_simp
     refine hK.out _ _ ?_ (fun hHeld => ?_)
     ·trivial
     clear hK K
     try simp only [Act.put, List.setIfInBounds_toArray, List.set_cons_zero, List.set_cons_succ]
     refine wpAnyH_done (by kernel_rfl) ?_ _
     refine bodyPost_end (by simp [results, Tryz.results90, go_sem, *]; try rfl) rfl ?_
     have r8 := H8.out.1
     have d8 := H8.out.2.1
     have e8 := H8.out.2.2
     rw [HN.out.1] at r8 d8 e8
     exact ⟨rfl, _, _, _, _, _, _, _, r8, d8, (HOD.out.bel E HX.out.1 HX.out.2.1.le).trans e8, HEND.out⟩
    refine AllReadyH.cons (i := 6) (by simp only [List.getElem?_toArray, List.getElem?_cons_succ, List.getElem?_cons_zero]; rfl) (fun K hK => ?_) AllReadyH.nil
    go_simp
    refine hK.out _ _ ?_ (fun hHeld => ?_)
    ·trivial
    clear hK K
    try simp only [Act.put, List.setIfInBounds_toArray, List.set_cons_zero, List.set_cons_succ]
    clear hHeld
    refine wpAnyH_ready (rs := [5, 7]) (by kernel_rfl) (by simp) ?_
    refine AllReadyH.cons (i := 5) (by simp only [List.getElem?_toArray, List.getElem?_cons_succ, List.getElem?_cons_zero]; rfl) (fun K hK => ?_) ?_
    ·go_simp
     refine hK.out _ _ ?_ (fun hHeld => ?_)
     ·trivial
     clear hK K
     try simp only [Act.put, List.setIfInBounds_toArray, List.set_cons_zero, List.set_cons_succ]
     clear hHeld
     refine wpAnyH_ready (rs := [7]) (by kernel_rfl) (by simp) ?_
     refine AllReadyH.cons (i := 7) (by simp only [List.getElem?_toArray, List.getElem?_cons_succ, List.getElem?_cons_zero]; rfl) (fun K hK => ?_) AllReadyH.nil
     go_simp
     refine hK.out _ _ ?_ (fun hHeld => ?_)
     ·trivial
     clear hK K
     try simp only [Act.put, List.setIfInBounds_toArray, List.set_cons_zero, List.set_cons_succ]
     clear hHeld
     refine wpAnyH_ready (rs := [8]) (by kernel_rfl) (by simp) ?_
     refine AllReadyH.cons (i := 8) (by simp only [List.getElem?_toArray, List.getElem?_cons_succ, List.getElem?_cons_zero]; rfl) (fun K hK => ?_) AllReadyH.nil
     refine ready_appA _ _ _ _ (by rfl) _ _ _ (by rfl) (by rfl) HRUN.out ?_ _ (by rfl)
     refine hK.out _ _ ?_ (fun hHeld => ?_)
     ·trivial
     clear hK K
     try simp only [Act.put, List.setIfInBounds_toArray, List.set_cons_zero, List.set_cons_succ]
     refine tkT 9 ?_
     refine tkT 10 ?_
     refine tkT 11 ?_
     clear hHeld
     refine wpAnyH_ready (rs := [12]) (by kernel_rfl) (by simp) ?_
     refine AllReadyH.cons (i := 12) (by simp only [List.getElem?_toArray, List.getElem?_cons_succ, List.getElem?_cons_zero]; rfl) (fun K hK => ?_) AllReadyH.nil
     go_simp
     refine hK.out _ _ ?_ (fun hHeld => ?_)
     ·trivial
     clear hK K
     try simp only [Act.put, List.setIfInBounds_toArray, List.set_cons_zero, List.set_cons_succ]
     refine wpAnyH_done (by kernel_rfl) ?_ _
     refine bodyPost_end (by simp [results, Tryz.results90, go_sem, *]; try rfl) rfl ?_
     have r8 := H8.out.1
     have d8 := H8.out.2.1
     have e8 := H8.out.2.2
     rw [HN.out.1] at r8 d8 e8
     exact ⟨rfl, _, _, _, _, _, _, _, r8, d8, (HOD.out.bel E HX.out.1 HX.out.2.1.le).trans e8, HEND.out⟩
    refine AllReadyH.cons (i := 7) (by simp only [List.getElem?_toArray, List.getElem?_cons_succ, List.getElem?_cons_zero]; rfl) (fun K hK => ?_) AllReadyH.nil
    go_simp
    refine hK.out _ _ ?_ (fun hHeld => ?_)
    ·trivial
    clear hK K
    try simp only [Act.put, List.setIfInBounds_toArray, List.set_cons_zero, List.set_cons_succ]
    clear hHeld
    refine wpAnyH_ready (rs := [5]) (by kernel_rfl) (by simp) ?_
    refine AllReadyH.cons (i := 5) (by simp only [List.getElem?_toArray, List.getElem?_cons_succ, List.getElem?_cons_zero]; rfl) (fun K hK => ?_) AllReadyH.nil
    go_simp
    refine hK.out _ _ ?_ (fun hHeld => ?_)
    ·trivial
    clear hK K
    try simp only [Act.put, List.setIfInBounds_toArray, List.set_cons_zero, List.set_cons_succ]
    clear hHeld
    refine wpAnyH_ready (rs := [8]) (by kernel_rfl) (by simp) ?_
    refine AllReadyH.cons (i := 8) (by simp only [List.getElem?_toArray, List.getElem?_cons_succ, List.getElem?_cons_zero]; rfl) (fun K hK => ?_) AllReadyH.nil
    refine ready_appA _ _ _ _ (by rfl) _ _ _ (by rfl) (by rfl) HRUN.out ?_ _ (by rfl)
    refine hK.out _ _ ?_ (fun hHeld => ?_)
    ·trivial
    clear hK K
    try simp only [Act.put, List.setIfInBounds_toArray, List.set_cons_zero, List.set_cons_succ]
    refine tkT 9 ?_
    refine tkT 10 ?_
    refine tkT 11 ?_
    clear hHeld
    refine wpAnyH_ready (rs := [12]) (by kernel_rfl) (by simp) ?_
    refine AllReadyH.cons (i := 12) (by simp only [List.getElem?_toArray, List.getElem?_cons_succ, List.getElem?_cons_zero]; rfl) (fun K hK => ?_) AllReadyH.nil
    go_simp
    refine hK.out _ _ ?_ (fun hHeld => ?_)
    ·trivial
    clear hK K
    try simp only [Act.put, List.setIfInBounds_toArray, List.set_cons_zero, List.set_cons_succ]
    refine wpAnyH_done (by kernel_rfl) ?_ _
    refine bodyPost_end (by simp [results, Tryz.results90, go_sem, *]; try rfl) rfl ?_
    have r8 := H8.out.1
    have d8 := H8.out.2.1
    have e8 := H8.out.2.2
    rw [HN.out.1] at r8 d8 e8
    exact ⟨rfl, _, _, _, _, _, _, _, r8, d8, (HOD.out.bel E HX.out.1 HX.out.2.1.le).trans e8, HEND.out⟩
   | false =>
    have HNB := hidC hnb
    rw [hnb] at KH
    clear hnb
    by_cases q1 : O = 1
    ·have HQ := hidC q1
     have hO1 : decide (O = 1) = true := by simpa using q1
     rw [hO1] at KB
     clear q1 hO1
     have KN := hidC (wpat_any WB ws1 b1 wr HL.out.laid HV0.out.2.1)
     go_upto_region 10 with (first
      | (go_at_call 124; (with_reducible refine KN.out.mono ?_); rintro e9 w6 ⟨m, rfl, hm, h6, k6⟩; have H6 := hidC (And.intro h6 (And.intro k6 hm)); clear h6 k6 hm; have y6 := HRW.out.of_block (H6.out.2.1.oth _ HRW.out.lt HXW.out.2.2); have HY6 := hidC y6; clear x0; obtain ⟨x0, x1, x2, x3, x4, x5, x6⟩ := in7_seven y6; have f6 := y6.frozen 6; clear y6)
      | (go_at_call 83; (with_reducible refine (KH.out _).mono ?_); rintro e9 w7 ⟨rfl, hw7⟩; have hw8 := hw7.symm; subst hw8)
      | (go_at_call 84; (with_reducible refine (KB.out _).mono ?_); rintro e9 w7 ⟨rfl, hw7⟩; have hw8 := hw7.symm; subst hw8))
     obtain ⟨V, hV⟩ : ∃ V, w6.setCell ⟨X, 6, none⟩ (.int .u32 m) = V := ⟨_, rfl⟩
     have pz : PutR X w6 V := by rw [← hV]; exact PutR.one X 6 w6 (.int .u32 m)
     have hz7 : V.rowIs X 46 7 (in7 ⟨(O : Int), d, a, b, e, 0, m⟩) := by rw [← hV]; exact (HY6.out.set 6 (.int .u32 m)).congr (in7_bits _ m)
     have HV : Hid (OfB WB w V ∧ WdM WB (nxW ws1).2 (b1 || !(hexW (nxW ws1).1).isSome) V ∧ V.rowIs X 46 7 (in7 ⟨(O : Int), d, a, b, e, 0, m⟩)) := ⟨(HV0.out.1.trans H6.out.2.1).putN pz HXW.out.1, H6.out.1.putN pz (Ne.symm HXW.out.2.2), hz7⟩
     try rw [hV]
     clear x0 x1 x2 x3 x4 x5 x6 f6 pz hV hz7
     have hpd := HV.out.2.2.of_block (w' := V.drew) rfl
     obtain ⟨x0, x1, x2, x3, x4, x5, x6⟩ := in7_seven hpd
     have HOD : Hid (OfB WB w V.drew) := HV.out.1.trans (OfB.of (bel_d V))
     have HWDd : Hid (WdM WB ((nxW ws1).2) (b1 || !(hexW (nxW ws1).1).isSome) V.drew) := HV.out.2.1.below (bel_d V)
     have HRD : Hid (RdA E B m0 m1 m2 m3 m4 V.drew c ln st u0 u1 u2 u3) := HX.out.2.2.ofB HROW0.out HOD.out
     have bx0 : (V.drew.alloc (.cells #[.int .i64 (O : Int), .int .i64 d, .int .i64 a, .int .i64 b, .int .i64 e, .int .i64 0, .int .u32 m] 46)).cell? ⟨X, 0, none⟩ = some (.int .i64 (O : Int)) := kc (bel_alloc _ _) x0
     have HEND : Hid (SayT ((insLn ws).map fun i => ⟨c.sign, c.regs, c.slots, c.list ++ [i]⟩) ⟨c.sign, c.regs, c.slots, c.list ++ [⟨(O : Int), d, a, b, e, 0, m⟩]⟩ ((nxW ws1).2) (b1 || !(hexW (nxW ws1).1).isSome)) := ins_end HOO.out HIE.out ⟨⟨rfl, rfl, rfl, rfl, rfl⟩, by
      rw [if_neg (by rw [HNB.out]; decide), if_pos HQ.out]; exact ⟨H6.out.2.2, rfl, rfl, rfl⟩⟩
     clear hpd
     obtain ⟨g, q, w8, hrun, hrow8, hrd8, hwd8, hbe8⟩ := HRD.out.ins HWDd.out ⟨(O : Int), d, a, b, e, 0, m⟩ (by have := HLn.out; omega) 25
     have H8 := hidC (And.intro hrd8 (And.intro hwd8 hbe8))
     clear hrd8 hwd8 hbe8
     rw [HN.out.2, HN.out.1] at hrun
     have hrun5 : (Builtin.append_ #[25, 25] 25 #[.slice p1 N q1, .slice (some ⟨V.drew.heap.size, 0, none⟩) 1 1]).run Tryz.prog (V.drew.alloc (.cells #[.int .i64 (O : Int), .int .i64 d, .int .i64 a, .int .i64 b, .int .i64 e, .int .i64 0, .int .u32 m] 46)) = .ok (.slice (some ⟨g, 0, none⟩) (N + 1) q) w8 := hrun
     have HRUN := hidC hrun5
     clear hrun hrun5
     have z8 := hrow8.frozen 3
     have c8 := hrow8.cell (i := 3) (by decide)
     have c8' : w8.cell? ⟨B, 3, none⟩ = some u3 := c8
     rw [HN.out.2] at c8'
     clear c8 hrow8
     have vd : V.drew.cell? ⟨B, 3, none⟩ = some (.slice p1 N q1) := by rw [HRD.out.row.cell (i := 3) (by decide), ← HN.out.2]; rfl
     have va : (V.drew.alloc (.cells #[.int .i64 (O : Int), .int .i64 d, .int .i64 a, .int .i64 b, .int .i64 e, .int .i64 0, .int .u32 m] 46)).cell? ⟨B, 3, none⟩ = some (.slice p1 N q1) := kc (bel_alloc _ _) vd
     have va' : (V.alloc (.cells #[.int .i64 (O : Int), .int .i64 d, .int .i64 a, .int .i64 b, .int .i64 e, .int .i64 0, .int .u32 m] 46)).drew.cell? ⟨B, 3, none⟩ = some (.slice p1 N q1) := va
     refine wp_region_held_drew (S := (fun _ => True)) (by kernel_rfl) ?_ (fun hHeld => ?_)
     ·trivial
     refine tkT 0 ?_
     refine tkT 1 ?_
     refine tkT 2 ?_
     refine tkT 3 ?_
     refine tkT 4 ?_
     clear hHeld
     refine wpAnyH_ready (rs := [5, 6]) (by kernel_rfl) (by simp) ?_
     refine AllReadyH.cons (i := 5) (by simp only [List.getElem?_toArray, List.getElem?_cons_succ, List.getElem?_cons_zero]; rfl) (fun K hK => ?_) ?_
     ·go_simp
      refine hK.out _ _ ?_ (fun hHeld => ?_)
      ·trivial
      clear hK K
      try simp only [Act.put, List.setIfInBounds_toArray, List.set_cons_zero, List.set_cons_succ]
      clear hHeld
      refine wpAnyH_ready (rs := [6]) (by kernel_rfl) (by simp) ?_
      refine AllReadyH.cons (i := 6) (by simp only [List.getElem?_toArray, List.getElem?_cons_succ, List.getElem?_cons_zero]; rfl) (fun K hK => ?_) AllReadyH.nil
      go_simp
      refine hK.out _ _ ?_ (fun hHeld => ?_)
      ·trivial
      clear hK K
      try simp only [Act.put, List.setIfInBounds_toArray, List.set_cons_zero, List.set_cons_succ]
      clear hHeld
      refine wpAnyH_ready (rs := [7]) (by kernel_rfl) (by simp) ?_
      refine AllReadyH.cons (i := 7) (by simp only [List.getElem?_toArray, List.getElem?_cons_succ, List.getElem?_cons_zero]; rfl) (fun K hK => ?_) AllReadyH.nil
      go_simp
      refine hK.out _ _ ?_ (fun hHeld => ?_)
      ·trivial
      clear hK K
      try simp only [Act.put, List.setIfInBounds_toArray, List.set_cons_zero, List.set_cons_succ]
      clear hHeld
      refine wpAnyH_ready (rs := [8]) (by kernel_rfl) (by simp) ?_
      refine AllReadyH.cons (i := 8) (by simp only [List.getElem?_toArray, List.getElem?_cons_succ, List.getElem?_cons_zero]; rfl) (fun K hK => ?_) AllReadyH.nil
      refine ready_appA _ _ _ _ (by rfl) _ _ _ (by rfl) (by rfl) HRUN.out ?_ _ (by rfl)
      refine hK.out _ _ ?_ (fun hHeld => ?_)
      ·trivial
      clear hK K
      try simp only [Act.put, List.setIfInBounds_toArray, List.set_cons_zero, List.set_cons_succ]
      refine tkT 9 ?_
      refine tkT 10 ?_
      refine tkT 11 ?_
      clear hHeld
      refine wpAnyH_ready (rs := [12]) (by kernel_rfl) (by simp) ?_
      refine AllReadyH.cons (i := 12) (by simp only [List.getElem?_toArray, List.getElem?_cons_succ, List.getElem?_cons_zero]; rfl) (fun K hK => ?_) AllReadyH.nil
      go_simp
      refine hK.out _ _ ?_ (fun hHeld => ?_)
      ·trivial
      clear hK K
      try simp only [Act.put, List.setIfInBounds_toArray, List.set_cons_zero, List.set_cons_succ]
      refine wpAnyH_done (by kernel_rfl) ?_ _
      refine bodyPost_end (by simp [results, Tryz.results90, go_sem, *]; try rfl) rfl ?_
      have r8 := H8.out.1
      have d8 := H8.out.2.1
      have e8 := H8.out.2.2
      rw [HN.out.1] at r8 d8 e8
      exact ⟨rfl, _, _, _, _, _, _, _, r8, d8, (HOD.out.bel E HX.out.1 HX.out.2.1.le).trans e8, HEND.out⟩
     refine AllReadyH.cons (i := 6) (by simp only [List.getElem?_toArray, List.getElem?_cons_succ, List.getElem?_cons_zero]; rfl) (fun K hK => ?_) AllReadyH.nil
     go_simp
     refine hK.out _ _ ?_ (fun hHeld => ?_)
     ·trivial
     clear hK K
     try simp only [Act.put, List.setIfInBounds_toArray, List.set_cons_zero, List.set_cons_succ]
     clear hHeld
     refine wpAnyH_ready (rs := [5, 7]) (by kernel_rfl) (by simp) ?_
     refine AllReadyH.cons (i := 5) (by simp only [List.getElem?_toArray, List.getElem?_cons_succ, List.getElem?_cons_zero]; rfl) (fun K hK => ?_) ?_
     ·go_simp
      refine hK.out _ _ ?_ (fun hHeld => ?_)
      ·trivial
      clear hK K
      try simp only [Act.put, List.setIfInBounds_toArray, List.set_cons_zero, List.set_cons_succ]
      clear hHeld
      refine wpAnyH_ready (rs := [7]) (by kernel_rfl) (by simp) ?_
      refine AllReadyH.cons (i := 7) (by simp only [List.getElem?_toArray, List.getElem?_cons_succ, List.getElem?_cons_zero]; rfl) (fun K hK => ?_) AllReadyH.nil
      go_simp
      refine hK.out _ _ ?_ (fun hHeld => ?_)
      ·trivial
      clear hK K
      try simp only [Act.put, List.setIfInBounds_toArray, List.set_cons_zero, List.set_cons_succ]
      clear hHeld
      refine wpAnyH_ready (rs := [8]) (by kernel_rfl) (by simp) ?_
      refine AllReadyH.cons (i := 8) (by simp only [List.getElem?_toArray, List.getElem?_cons_succ, List.getElem?_cons_zero]; rfl) (fun K hK => ?_) AllReadyH.nil
      refine ready_appA _ _ _ _ (by rfl) _ _ _ (by rfl) (by rfl) HRUN.out ?_ _ (by rfl)
      refine hK.out _ _ ?_ (fun hHeld => ?_)
      ·trivial
      clear hK K
      try simp only [Act.put, List.setIfInBounds_toArray, List.set_cons_zero, List.set_cons_succ]
      refine tkT 9 ?_
      refine tkT 10 ?_
      refine tkT 11 ?_
      clear hHeld
      refine wpAnyH_ready (rs := [12]) (by kernel_rfl) (by simp) ?_
      refine AllReadyH.cons (i := 12) (by simp only [List.getElem?_toArray, List.getElem?_cons_succ, List.getElem?_cons_zero]; rfl) (fun K hK => ?_) AllReadyH.nil
      go_simp
      refine hK.out _ _ ?_ (fun hHeld => ?_)
      ·trivial
      clear hK K
      try simp only [Act.put, List.setIfInBounds_toArray, List.set_cons_zero, List.set_cons_succ]
      refine wpAnyH_done (by kernel_rfl) ?_ _
      refine bodyPost_end (by simp [results, Tryz.results90, go_sem, *]; try rfl) rfl ?_
      have r8 := H8.out.1
      have d8 := H8.out.2.1
      have e8 := H8.out.2.2
      rw [HN.out.1] at r8 d8 e8
      exact ⟨rfl, _, _, _, _, _, _, _, r8, d8, (HOD.out.bel E HX.out.1 HX.out.2.1.le).trans e8, HEND.out⟩
     refine AllReadyH.cons (i := 7) (by simp only [List.getElem?_toArray, List.getElem?_cons_succ, List.getElem?_cons_zero]; rfl) (fun K hK => ?_) AllReadyH.nil
     go_simp
     refine hK.out _ _ ?_ (fun hHeld => ?_)
     ·trivial
     clear hK K
     try simp only [Act.put, List.setIfInBounds_toArray, List.set_cons_zero, List.set_cons_succ]
     clear hHeld
     refine wpAnyH_ready (rs := [5]) (by kernel_rfl) (by simp) ?_
     refine AllReadyH.cons (i := 5) (by simp only [List.getElem?_toArray, List.getElem?_cons_succ, List.getElem?_cons_zero]; rfl) (fun K hK => ?_) AllReadyH.nil
     go_simp
     refine hK.out _ _ ?_ (fun hHeld => ?_)
     ·trivial
     clear hK K
     try simp only [Act.put, List.setIfInBounds_toArray, List.set_cons_zero, List.set_cons_succ]
     clear hHeld
     refine wpAnyH_ready (rs := [8]) (by kernel_rfl) (by simp) ?_
     refine AllReadyH.cons (i := 8) (by simp only [List.getElem?_toArray, List.getElem?_cons_succ, List.getElem?_cons_zero]; rfl) (fun K hK => ?_) AllReadyH.nil
     refine ready_appA _ _ _ _ (by rfl) _ _ _ (by rfl) (by rfl) HRUN.out ?_ _ (by rfl)
     refine hK.out _ _ ?_ (fun hHeld => ?_)
     ·trivial
     clear hK K
     try simp only [Act.put, List.setIfInBounds_toArray, List.set_cons_zero, List.set_cons_succ]
     refine tkT 9 ?_
     refine tkT 10 ?_
     refine tkT 11 ?_
     clear hHeld
     refine wpAnyH_ready (rs := [12]) (by kernel_rfl) (by simp) ?_
     refine AllReadyH.cons (i := 12) (by simp only [List.getElem?_toArray, List.getElem?_cons_succ, List.getElem?_cons_zero]; rfl) (fun K hK => ?_) AllReadyH.nil
     go_simp
     refine hK.out _ _ ?_ (fun hHeld => ?_)
     ·trivial
     clear hK K
     try simp only [Act.put, List.setIfInBounds_toArray, List.set_cons_zero, List.set_cons_succ]
     refine wpAnyH_done (by kernel_rfl) ?_ _
     refine bodyPost_end (by simp [results, Tryz.results90, go_sem, *]; try rfl) rfl ?_
     have r8 := H8.out.1
     have d8 := H8.out.2.1
     have e8 := H8.out.2.2
     rw [HN.out.1] at r8 d8 e8
     exact ⟨rfl, _, _, _, _, _, _, _, r8, d8, (HOD.out.bel E HX.out.1 HX.out.2.1.le).trans e8, HEND.out⟩
    ·have HQ := hidC q1
     have hO1 : decide (O = 1) = false := by simpa using q1
     rw [hO1] at KB
     clear q1 hO1
     go_upto_region 10 with (first
      | (go_at_call 83; (with_reducible refine (KH.out _).mono ?_); rintro e9 w7 ⟨rfl, hw7⟩; have hw8 := hw7.symm; subst hw8)
      | (go_at_call 84; (with_reducible refine (KB.out _).mono ?_); rintro e9 w7 ⟨rfl, hw7⟩; have hw8 := hw7.symm; subst hw8))
     have HV := HV0
     obtain ⟨V, hV⟩ : ∃ V, wr = V := ⟨_, rfl⟩
     rw [hV] at HV ⊢
     clear x0 x1 x2 x3 x4 x5 x6 hV
     have hpd := HV.out.2.2.of_block (w' := V.drew) rfl
     obtain ⟨x0, x1, x2, x3, x4, x5, x6⟩ := in7_seven hpd
     have HOD : Hid (OfB WB w V.drew) := HV.out.1.trans (OfB.of (bel_d V))
     have HWDd : Hid (WdM WB (ws1) (b1) V.drew) := HV.out.2.1.below (bel_d V)
     have HRD : Hid (RdA E B m0 m1 m2 m3 m4 V.drew c ln st u0 u1 u2 u3) := HX.out.2.2.ofB HROW0.out HOD.out
     have bx0 : (V.drew.alloc (.cells #[.int .i64 (O : Int), .int .i64 d, .int .i64 a, .int .i64 b, .int .i64 e, .int .i64 0, .int .u32 0] 46)).cell? ⟨X, 0, none⟩ = some (.int .i64 (O : Int)) := kc (bel_alloc _ _) x0
     have HEND : Hid (SayT ((insLn ws).map fun i => ⟨c.sign, c.regs, c.slots, c.list ++ [i]⟩) ⟨c.sign, c.regs, c.slots, c.list ++ [⟨(O : Int), d, a, b, e, 0, 0⟩]⟩ (ws1) (b1)) := ins_end HOO.out HIE.out ⟨⟨rfl, rfl, rfl, rfl, rfl⟩, by
      rw [if_neg (by rw [HNB.out]; decide), if_neg HQ.out]; exact ⟨rfl, rfl, rfl, rfl⟩⟩
     clear hpd
     obtain ⟨g, q, w8, hrun, hrow8, hrd8, hwd8, hbe8⟩ := HRD.out.ins HWDd.out ⟨(O : Int), d, a, b, e, 0, 0⟩ (by have := HLn.out; omega) 25
     have H8 := hidC (And.intro hrd8 (And.intro hwd8 hbe8))
     clear hrd8 hwd8 hbe8
     rw [HN.out.2, HN.out.1] at hrun
     have hrun5 : (Builtin.append_ #[25, 25] 25 #[.slice p1 N q1, .slice (some ⟨V.drew.heap.size, 0, none⟩) 1 1]).run Tryz.prog (V.drew.alloc (.cells #[.int .i64 (O : Int), .int .i64 d, .int .i64 a, .int .i64 b, .int .i64 e, .int .i64 0, .int .u32 0] 46)) = .ok (.slice (some ⟨g, 0, none⟩) (N + 1) q) w8 := hrun
     have HRUN := hidC hrun5
     clear hrun hrun5
     have z8 := hrow8.frozen 3
     have c8 := hrow8.cell (i := 3) (by decide)
     have c8' : w8.cell? ⟨B, 3, none⟩ = some u3 := c8
     rw [HN.out.2] at c8'
     clear c8 hrow8
     have vd : V.drew.cell? ⟨B, 3, none⟩ = some (.slice p1 N q1) := by rw [HRD.out.row.cell (i := 3) (by decide), ← HN.out.2]; rfl
     have va : (V.drew.alloc (.cells #[.int .i64 (O : Int), .int .i64 d, .int .i64 a, .int .i64 b, .int .i64 e, .int .i64 0, .int .u32 0] 46)).cell? ⟨B, 3, none⟩ = some (.slice p1 N q1) := kc (bel_alloc _ _) vd
     have va' : (V.alloc (.cells #[.int .i64 (O : Int), .int .i64 d, .int .i64 a, .int .i64 b, .int .i64 e, .int .i64 0, .int .u32 0] 46)).drew.cell? ⟨B, 3, none⟩ = some (.slice p1 N q1) := va
     refine wp_region_held_drew (S := (fun _ => True)) (by kernel_rfl) ?_ (fun hHeld => ?_)
     ·trivial
     refine tkT 0 ?_
     refine tkT 1 ?_
     refine tkT 2 ?_
     refine tkT 3 ?_
     refine tkT 4 ?_
     clear hHeld
     refine wpAnyH_ready (rs := [5, 6]) (by kernel_rfl) (by simp) ?_
     refine AllReadyH.cons (i := 5) (by simp only [List.getElem?_toArray, List.getElem?_cons_succ, List.getElem?_cons_zero]; rfl) (fun K hK => ?_) ?_
     ·go_simp
      refine hK.out _ _ ?_ (fun hHeld => ?_)
      ·trivial
      clear hK K
      try simp only [Act.put, List.setIfInBounds_toArray, List.set_cons_zero, List.set_cons_succ]
      clear hHeld
      refine wpAnyH_ready (rs := [6]) (by kernel_rfl) (by simp) ?_
      refine AllReadyH.cons (i := 6) (by simp only [List.getElem?_toArray, List.getElem?_cons_succ, List.getElem?_cons_zero]; rfl) (fun K hK => ?_) AllReadyH.nil
      go_simp
      refine hK.out _ _ ?_ (fun hHeld => ?_)
      ·trivial
      clear hK K
      try simp only [Act.put, List.setIfInBounds_toArray, List.set_cons_zero, List.set_cons_succ]
      clear hHeld
      refine wpAnyH_ready (rs := [7]) (by kernel_rfl) (by simp) ?_
      refine AllReadyH.cons (i := 7) (by simp only [List.getElem?_toArray, List.getElem?_cons_succ, List.getElem?_cons_zero]; rfl) (fun K hK => ?_) AllReadyH.nil
      go_simp
      refine hK.out _ _ ?_ (fun hHeld => ?_)
      ·trivial
      clear hK K
      try simp only [Act.put, List.setIfInBounds_toArray, List.set_cons_zero, List.set_cons_succ]
      clear hHeld
      refine wpAnyH_ready (rs := [8]) (by kernel_rfl) (by simp) ?_
      refine AllReadyH.cons (i := 8) (by simp only [List.getElem?_toArray, List.getElem?_cons_succ, List.getElem?_cons_zero]; rfl) (fun K hK => ?_) AllReadyH.nil
      refine ready_appA _ _ _ _ (by rfl) _ _ _ (by rfl) (by rfl) HRUN.out ?_ _ (by rfl)
      refine hK.out _ _ ?_ (fun hHeld => ?_)
      ·trivial
      clear hK K
      try simp only [Act.put, List.setIfInBounds_toArray, List.set_cons_zero, List.set_cons_succ]
      refine tkT 9 ?_
      refine tkT 10 ?_
      refine tkT 11 ?_
      clear hHeld
      refine wpAnyH_ready (rs := [12]) (by kernel_rfl) (by simp) ?_
      refine AllReadyH.cons (i := 12) (by simp only [List.getElem?_toArray, List.getElem?_cons_succ, List.getElem?_cons_zero]; rfl) (fun K hK => ?_) AllReadyH.nil
      go_simp
      refine hK.out _ _ ?_ (fun hHeld => ?_)
      ·trivial
      clear hK K
      try simp only [Act.put, List.setIfInBounds_toArray, List.set_cons_zero, List.set_cons_succ]
      refine wpAnyH_done (by kernel_rfl) ?_ _
      refine bodyPost_end (by simp [results, Tryz.results90, go_sem, *]; try rfl) rfl ?_
      have r8 := H8.out.1
      have d8 := H8.out.2.1
      have e8 := H8.out.2.2
      rw [HN.out.1] at r8 d8 e8
      exact ⟨rfl, _, _, _, _, _, _, _, r8, d8, (HOD.out.bel E HX.out.1 HX.out.2.1.le).trans e8, HEND.out⟩
     refine AllReadyH.cons (i := 6) (by simp only [List.getElem?_toArray, List.getElem?_cons_succ, List.getElem?_cons_zero]; rfl) (fun K hK => ?_) AllReadyH.nil
     go_simp
     refine hK.out _ _ ?_ (fun hHeld => ?_)
     ·trivial
     clear hK K
     try simp only [Act.put, List.setIfInBounds_toArray, List.set_cons_zero, List.set_cons_succ]
     clear hHeld
     refine wpAnyH_ready (rs := [5, 7]) (by kernel_rfl) (by simp) ?_
     refine AllReadyH.cons (i := 5) (by simp only [List.getElem?_toArray, List.getElem?_cons_succ, List.getElem?_cons_zero]; rfl) (fun K hK => ?_) ?_
     ·go_simp
      refine hK.out _ _ ?_ (fun hHeld => ?_)
      ·trivial
      clear hK K
      try simp only [Act.put, List.setIfInBounds_toArray, List.set_cons_zero, List.set_cons_succ]
      clear hHeld
      refine wpAnyH_ready (rs := [7]) (by kernel_rfl) (by simp) ?_
      refine AllReadyH.cons (i := 7) (by simp only [List.getElem?_toArray, List.getElem?_cons_succ, List.getElem?_cons_zero]; rfl) (fun K hK => ?_) AllReadyH.nil
      go_simp
      refine hK.out _ _ ?_ (fun hHeld => ?_)
      ·trivial
      clear hK K
      try simp only [Act.put, List.setIfInBounds_toArray, List.set_cons_zero, List.set_cons_succ]
      clear hHeld
      refine wpAnyH_ready (rs := [8]) (by kernel_rfl) (by simp) ?_
      refine AllReadyH.cons (i := 8) (by simp only [List.getElem?_toArray, List.getElem?_cons_succ, List.getElem?_cons_zero]; rfl) (fun K hK => ?_) AllReadyH.nil
      refine ready_appA _ _ _ _ (by rfl) _ _ _ (by rfl) (by rfl) HRUN.out ?_ _ (by rfl)
      refine hK.out _ _ ?_ (fun hHeld => ?_)
      ·trivial
      clear hK K
      try simp only [Act.put, List.setIfInBounds_toArray, List.set_cons_zero, List.set_cons_succ]
      refine tkT 9 ?_
      refine tkT 10 ?_
      refine tkT 11 ?_
      clear hHeld
      refine wpAnyH_ready (rs := [12]) (by kernel_rfl) (by simp) ?_
      refine AllReadyH.cons (i := 12) (by simp only [List.getElem?_toArray, List.getElem?_cons_succ, List.getElem?_cons_zero]; rfl) (fun K hK => ?_) AllReadyH.nil
      go_simp
      refine hK.out _ _ ?_ (fun hHeld => ?_)
      ·trivial
      clear hK K
      try simp only [Act.put, List.setIfInBounds_toArray, List.set_cons_zero, List.set_cons_succ]
      refine wpAnyH_done (by kernel_rfl) ?_ _
      refine bodyPost_end (by simp [results, Tryz.results90, go_sem, *]; try rfl) rfl ?_
      have r8 := H8.out.1
      have d8 := H8.out.2.1
      have e8 := H8.out.2.2
      rw [HN.out.1] at r8 d8 e8
      exact ⟨rfl, _, _, _, _, _, _, _, r8, d8, (HOD.out.bel E HX.out.1 HX.out.2.1.le).trans e8, HEND.out⟩
     refine AllReadyH.cons (i := 7) (by simp only [List.getElem?_toArray, List.getElem?_cons_succ, List.getElem?_cons_zero]; rfl) (fun K hK => ?_) AllReadyH.nil
     go_simp
     refine hK.out _ _ ?_ (fun hHeld => ?_)
     ·trivial
     clear hK K
     try simp only [Act.put, List.setIfInBounds_toArray, List.set_cons_zero, List.set_cons_succ]
     clear hHeld
     refine wpAnyH_ready (rs := [5]) (by kernel_rfl) (by simp) ?_
     refine AllReadyH.cons (i := 5) (by simp only [List.getElem?_toArray, List.getElem?_cons_succ, List.getElem?_cons_zero]; rfl) (fun K hK => ?_) AllReadyH.nil
     go_simp
     refine hK.out _ _ ?_ (fun hHeld => ?_)
     ·trivial
     clear hK K
     try simp only [Act.put, List.setIfInBounds_toArray, List.set_cons_zero, List.set_cons_succ]
     clear hHeld
     refine wpAnyH_ready (rs := [8]) (by kernel_rfl) (by simp) ?_
     refine AllReadyH.cons (i := 8) (by simp only [List.getElem?_toArray, List.getElem?_cons_succ, List.getElem?_cons_zero]; rfl) (fun K hK => ?_) AllReadyH.nil
     refine ready_appA _ _ _ _ (by rfl) _ _ _ (by rfl) (by rfl) HRUN.out ?_ _ (by rfl)
     refine hK.out _ _ ?_ (fun hHeld => ?_)
     ·trivial
     clear hK K
     try simp only [Act.put, List.setIfInBounds_toArray, List.set_cons_zero, List.set_cons_succ]
     refine tkT 9 ?_
     refine tkT 10 ?_
     refine tkT 11 ?_
     clear hHeld
     refine wpAnyH_ready (rs := [12]) (by kernel_rfl) (by simp) ?_
     refine AllReadyH.cons (i := 12) (by simp only [List.getElem?_toArray, List.getElem?_cons_succ, List.getElem?_cons_zero]; rfl) (fun K hK => ?_) AllReadyH.nil
     go_simp
     refine hK.out _ _ ?_ (fun hHeld => ?_)
     ·trivial
     clear hK K
     try simp only [Act.put, List.setIfInBounds_toArray, List.set_cons_zero, List.set_cons_succ]
     refine wpAnyH_done (by kernel_rfl) ?_ _
     refine bodyPost_end (by simp [results, Tryz.results90, go_sem, *]; try rfl) rfl ?_
     have r8 := H8.out.1
     have d8 := H8.out.2.1
     have e8 := H8.out.2.2
     rw [HN.out.1] at r8 d8 e8
     exact ⟨rfl, _, _, _, _, _, _, _, r8, d8, (HOD.out.bel E HX.out.1 HX.out.2.1.le).trans e8, HEND.out⟩
end Go.Proofs.YtgcmnkanjcfndaaGreatDoor
