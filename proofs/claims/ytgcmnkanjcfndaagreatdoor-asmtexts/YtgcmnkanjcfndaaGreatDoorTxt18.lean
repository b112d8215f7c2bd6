import Derived.Test.YtgcmnkanjcfndaaGreatDoorTxt1
import Derived.Test.YtgcmnkanjcfndaaGreatDoorTxt16
import Derived.Test.YtgcmnkanjcfndaaGreatDoorTxt6
import Derived.Test.YtgcmnkanjcfndaaGreatDoorTxt7
import Derived.OrdersHeld
import Derived.Deep.DeepCutAuto
import Derived.Test.YtgcmnkanjcfndaaGreatDoorTxt17
import Derived.Lib.CountLaws
namespace Go.Proofs.YtgcmnkanjcfndaaGreatDoor
open Go.RowKit
set_option linter.unusedVariables false
set_option linter.unusedSimpArgs false
theorem aclone_any (s : ByteArray) (hs : s.size ≤ 4194304) (w : World) :
  Calls Tryz.prog 119 #[.string s] w fun e w' => e = .returned (.string s) ∧ Below w.heap.size w w' := by
 go_enter Tryz.func119, Tryz.ntmps119
 go_wp2_with (go_at_call 147; refine (sh_stringslite_Clone s _ (by omega)).mono ?_; rintro e w1 ⟨rfl, hb⟩)
 refine bodyPost_ret (by simp [results, Tryz.results119, go_sem, *]; try rfl) rfl ?_
 exact ⟨rfl, hb⟩
theorem rd_one (w : World) (p : Par) : Rd (w.alloc (.cells (parCells p).toArray 48)) (.slice (some ⟨w.heap.size, 0, none⟩) 1 1) [p] := by
 refine ⟨_, _, rfl, .inr ⟨w.heap.size, 0, rfl, fun i hi => ?_⟩⟩
 have : i = 0 := by simpa using hi
 subst this
 have h := q3_new w 48 (.string p.name) (.int .i64 p.kind) (.int .i64 p.len)
 exact ⟨h.cell (i := 0) (by decide), h.cell (i := 1) (by decide), h.cell (i := 2) (by decide)⟩
theorem RdA.lenP {E B m0 m1 m2 m3 m4 : Nat} {w : World} {c : Cd} {ln st : Int} {u0 u1 u2 u3 : Value} (h : RdA E B m0 m1 m2 m3 m4 w c ln st u0 u1 u2 u3) : ∃ p q, u0 = .slice p c.sign.length q := own_len h.own.sign
set_option maxRecDepth 100000 in
set_option maxHeartbeats 16000000 in
theorem rparA_any (E B WB m0 m1 m2 m3 m4 : Nat) (c : Cd) (ln st : Int) (u0 u1 u2 u3 : Value) (ws : List Bs) (w : World) (hL : LaidE E w) (hE : E ≤ WB) (h : RdA E B m0 m1 m2 m3 m4 w c ln st u0 u1 u2 u3) (hw : WdM WB ws false w) (h4 : 4 ≤ ws.length) (ha : (nxW ws).1 = paramB) (hl : c.sign.length ≤ 4194304) :
  Calls Tryz.prog 87 #[.pointer (some ⟨B, 0, none⟩), .pointer (some ⟨WB, 0, none⟩)] w (LineT E B WB m0 m1 m2 m3 m4 ln st ((parLn ws).map fun p => ⟨c.sign ++ [p], c.regs, c.slots, c.list⟩) w) := by
 obtain ⟨N, hN⟩ : ∃ N, c.sign.length = N := ⟨_, rfl⟩
 obtain ⟨p1, q1, hu1⟩ := h.lenP
 rw [hN] at hu1
 have HN := hidC (And.intro hN hu1)
 have HLn := hidC hl
 have HA := hidC (And.intro h4 ha)
 have HX := hidC (And.intro hE (And.intro hL h))
 have HW := hidC hw
 obtain ⟨T9, -, -, hrow9⟩ := hw.row
 have HROW0 := hidC hrow9
 have K1 := hidC (wnext_any WB ws false w hL.laid hw)
 clear hN hu1 hl hE hL h hw hrow9 h4 ha
 go_enter Tryz.func87, Tryz.ntmps87
 go_upto_region 1 with (go_at_call 118; (with_reducible refine K1.out.mono ?_); rintro e w1 ⟨U0, rfl, hU, hU2, h1, k1⟩; have H1 := hidC (And.intro h1 k1); clear h1 k1 hU hU2)
 have HL1 := hidC (HX.out.2.1.ofB HX.out.1 H1.out.2)
 have K2 := hidC (wnext_any WB _ false w1 HL1.out.laid H1.out.1)
 go_upto_region 2 with (first
  | (go_at_call 118; (with_reducible refine K2.out.mono ?_); rintro e w2 ⟨U, rfl, hU, hU2, h2, k2⟩; have H2 := hidC (And.intro h2 (And.intro k2 (And.intro hU hU2))); clear h2 k2 hU hU2)
  | (go_at_call 119; (with_reducible refine (aclone_any U H2.out.2.2.2 _).mono ?_); rintro e w3 ⟨rfl, hb3⟩; have HB3 := hidC hb3; clear hb3))
 obtain ⟨V, hV⟩ : ∃ V, w3.alloc (.cells #[.string U, .int .i64 0, .int .i64 0] 48) = V := ⟨_, rfl⟩
 rw [hV]
 have hp := q3_new w3 48 (.string U) (.int .i64 0) (.int .i64 0)
 have hb := bel_alloc w3 (.cells #[.string U, .int .i64 0, .int .i64 0] 48)
 rw [hV] at hp hb
 have HO3 : Hid (OfB WB w w3) := (H1.out.2.trans H2.out.2.1).trans (OfB.of HB3.out)
 have HO4 : Hid (OfB WB w V) := HO3.out.trans (OfB.of hb)
 have HW4 := hidC ((H2.out.1.below HB3.out).below hb)
 have l4 := HO3.out.size
 have lW := HW.out.lt
 obtain ⟨X, hX⟩ : ∃ X, w3.heap.size = X := ⟨_, rfl⟩
 rw [hX] at hp l4
 simp only [hX]
 have HXW : Hid (w.heap.size ≤ X ∧ WB < X ∧ X ≠ WB) := by refine ⟨l4, ?_, ?_⟩ <;> omega
 have HRX := hidC hp
 have HL4 := hidC (HX.out.2.1.ofB HX.out.1 HO4.out)
 have hR4 := HX.out.2.2.ofB HROW0.out HO4.out
 have KM := wmean_any WB m1 _ _ (meanA kindL 3) V HL4.out.laid HW4.out hR4.maps.kinds.1
 have v7 : V.cell? ⟨B, 7, none⟩ = some (.map (some m1)) := hR4.row.cell (i := 7) (by decide)
 obtain ⟨kd, hkd⟩ : ∃ n2 : Int, (((meanA kindL 3 (nxW (nxW (nxW ws).2).2).1).getD 0 : Nat) : Int) = n2 := ⟨_, rfl⟩
 rw [hkd] at KM
 have HKM := hidC KM
 have HKD := hidC hkd
 clear hp hb l4 lW hX hV KM hkd hR4
 go_upto_region 3 with (go_at_call 120; (with_reducible refine HKM.out.mono ?_); rintro e w5 ⟨rfl, h5, k5⟩; have H5 := hidC (And.intro h5 k5); have y5 := HRX.out.of_block (k5.oth _ HRX.out.lt HXW.out.2.2); have HY5 := hidC y5; clear h5 k5 v7; obtain ⟨x0, x1, x2⟩ := c3 y5; obtain ⟨f0, f1, f2⟩ := z3 y5; clear y5)
 obtain ⟨V5, hV5⟩ : ∃ V, w5.setCell ⟨X, 1, none⟩ (.int .i64 kd) = V := ⟨_, rfl⟩
 rw [hV5]
 have hp5 := put3_1 HY5.out (.int .i64 kd)
 rw [hV5] at hp5
 have HO5 : Hid (OfB WB w V5) := (HO4.out.trans H5.out.2).putN hp5.2 HXW.out.1
 have HW5 := hidC (H5.out.1.putN hp5.2 (Ne.symm HXW.out.2.2))
 have HRX5 := hidC hp5.1
 have HL5 := hidC (HX.out.2.1.ofB HX.out.1 HO5.out)
 have KN := hidC (wnum_any WB _ _ V5 HL5.out.laid HW5.out (fun v k => (HL5.out.ofB HX.out.1 k).laid))
 clear x0 x1 x2 f0 f1 f2 hV5 hp5
 go_upto_region 4 with (go_at_call 121; (with_reducible refine KN.out.mono ?_); rintro e w6 ⟨m, rfl, hm, h6, k6⟩; have H6 := hidC (And.intro h6 (And.intro k6 hm)); have y6 := HRX5.out.of_block (k6.oth _ HRX5.out.lt HXW.out.2.2); have HY6 := hidC y6; clear h6 k6 hm; obtain ⟨x0, x1, x2⟩ := c3 y6; obtain ⟨f0, f1, f2⟩ := z3 y6; clear y6)
 obtain ⟨V6, hV6⟩ : ∃ V, w6.setCell ⟨X, 2, none⟩ (.int .i64 m) = V := ⟨_, rfl⟩
 rw [hV6]
 have hp6 := put3_2 HY6.out (.int .i64 m)
 rw [hV6] at hp6
 have HO6 : Hid (OfB WB w V6) := (HO5.out.trans H6.out.2.1).putN hp6.2 HXW.out.1
 have HW6 := hidC (H6.out.1.putN hp6.2 (Ne.symm HXW.out.2.2))
 have HRX6 := hidC hp6.1
 obtain ⟨p, hp⟩ : ∃ p : Par, (⟨U, kd, m⟩ : Par) = p := ⟨_, rfl⟩
 have HP := hidC hp
 obtain ⟨ck, hck⟩ : ∃ ck, checkP [p] = ck := ⟨_, rfl⟩
 have KC := sCheck_any (.slice (some ⟨V6.heap.size, 0, none⟩) 1 1) [p] (by show 1 ≤ 140737488351232; decide) (fun q hq => by rw [List.mem_singleton.1 hq, ← hp]; exact Nat.le_trans H2.out.2.2.2 (by decide)) (V6.alloc (.cells (parCells p).toArray 48)) (rd_one V6 p)
 have hcells : (parCells p).toArray = #[.string U, .int .i64 kd, .int .i64 m] := by rw [← hp]; rfl
 rw [hck, hcells] at KC
 have HKC := hidC KC
 have HCK := hidC hck
 clear x0 x1 x2 f0 f1 f2 hV6 hp6 KC hck hp hcells
 obtain ⟨x0, x1, x2⟩ := c3 HRX6.out
 go_upto_region 5 with (first
  | (go_at_call 69; (with_reducible refine HKC.out.mono ?_); rintro e w7 ⟨rfl, hb7⟩; have HB7 := hidC (bel (bel_alloc V6 _) hb7); clear hb7)
  | (go_at_call 122; (with_reducible refine (whold_any WB _ _ _ _ (HW6.out.below HB7.out)).mono ?_); rintro e w8 ⟨rfl, h8, k8⟩; have H7 := hidC (And.intro h8 k8); clear h8 k8))
 clear x0 x1 x2
 obtain ⟨V, hV⟩ : ∃ V, w8 = V := ⟨_, rfl⟩
 rw [hV] at H7 ⊢
 clear hV
 have HO7 : Hid (OfB WB w V) := (HO6.out.trans (OfB.of HB7.out)).trans H7.out.2
 have hrx7 := (HRX6.out.of_block (HB7.out.block _ HRX6.out.lt))
 have hrx8 := hrx7.of_block (H7.out.2.oth _ hrx7.lt HXW.out.2.2)
 have hpd := hrx8.of_block (w' := V.drew) rfl
 obtain ⟨x0, x1, x2⟩ := c3 hpd
 obtain ⟨wsx, hwsx⟩ : ∃ x, (nxW (nxW (nxW (nxW ws).2).2).2).2 = x := ⟨_, rfl⟩
 obtain ⟨bx, hbx⟩ : ∃ x, (((false || !(meanA kindL 3 (nxW (nxW (nxW ws).2).2).1).isSome) || !(numW (nxW (nxW (nxW (nxW ws).2).2).2).1).isSome) || !(ck == 0)) = x := ⟨_, rfl⟩
 have hw7 := H7.out.1
 rw [hwsx, hbx] at hw7
 have HOD : Hid (OfB WB w V.drew) := HO7.out.trans (OfB.of (bel_d V))
 have HWDd : Hid (WdM WB wsx bx V.drew) := hw7.below (bel_d V)
 have HRD : Hid (RdA E B m0 m1 m2 m3 m4 V.drew c ln st u0 u1 u2 u3) := HX.out.2.2.ofB HROW0.out HOD.out
 have bx0 : (V.drew.alloc (.cells #[.string U, .int .i64 kd, .int .i64 m] 48)).cell? ⟨X, 0, none⟩ = some (.string U) := kc (bel_alloc _ _) x0
 have HEND : Hid (SayT ((parLn ws).map fun p => ⟨c.sign ++ [p], c.regs, c.slots, c.list⟩) ⟨c.sign ++ [⟨U, kd, m⟩], c.regs, c.slots, c.list⟩ wsx bx) := by
  refine par_end (m := 0) (kv := 0) HA.out.1 HA.out.2 H2.out.2.2.1 HKD.out.symm H6.out.2.2 hwsx.symm ?_
  rw [← hbx, HP.out, HCK.out]
  congr 2
 clear hrx7 hrx8 hpd hwsx hbx hw7
 obtain ⟨g, q, w8, hrun, hrow8, hrd8, hwd8, hbe8⟩ := HRD.out.par HWDd.out ⟨U, kd, m⟩ (by have := HLn.out; omega) 22
 have H8 := hidC (And.intro hrd8 (And.intro hwd8 hbe8))
 clear hrd8 hwd8 hbe8
 rw [HN.out.2, HN.out.1] at hrun
 have hrun5 : (Builtin.append_ #[22, 22] 22 #[.slice p1 N q1, .slice (some ⟨V.drew.heap.size, 0, none⟩) 1 1]).run Tryz.prog (V.drew.alloc (.cells #[.string U, .int .i64 kd, .int .i64 m] 48)) = .ok (.slice (some ⟨g, 0, none⟩) (N + 1) q) w8 := hrun
 have HRUN := hidC hrun5
 clear hrun hrun5
 have z8 := hrow8.frozen 0
 have c8 := hrow8.cell (i := 0) (by decide)
 have c8' : w8.cell? ⟨B, 0, none⟩ = some u0 := c8
 rw [HN.out.2] at c8'
 clear c8 hrow8
 have vd : V.drew.cell? ⟨B, 0, none⟩ = some (.slice p1 N q1) := by rw [HRD.out.row.cell (i := 0) (by decide), ← HN.out.2]; rfl
 have va : (V.drew.alloc (.cells #[.string U, .int .i64 kd, .int .i64 m] 48)).cell? ⟨B, 0, none⟩ = some (.slice p1 N q1) := kc (bel_alloc _ _) vd
 have va' : (V.alloc (.cells #[.string U, .int .i64 kd, .int .i64 m] 48)).drew.cell? ⟨B, 0, none⟩ = some (.slice p1 N q1) := va
 refine wp_region_held_drew (S := (fun _ => True)) (by kernel_rfl) ?_ (fun hHeld => ?_)
 ·trivial
 refine tkT 0 ?_
 refine tkT 1 ?_
 refine tkT 2 ?_
 refine tkT 3 ?_
 refine tkT 4 ?_
 clear hHeld
 refine wpAnyH_ready (rs := [5, 6]) (by kernel_rfl) (by simp) ?_
 refine AllReadyH.cons (i := 5) (by simp only [List.getElem?_toArray, List.getElem?_cons_succ, List.getElem?_cons_zero]; rfl) (fun K hK => ?_) ?_
 ·go_simp
  refine hK.out _ _ ?_ (fun hHeld => ?_)
  ·trivial
  clear hK K
  try simp only [Act.put, List.setIfInBounds_toArray, List.set_cons_zero, List.set_cons_succ]
  clear hHeld
  refine wpAnyH_ready (rs := [6]) (by kernel_rfl) (by simp) ?_
  refine AllReadyH.cons (i := 6) (by simp only [List.getElem?_toArray, List.getElem?_cons_succ, List.getElem?_cons_zero]; rfl) (fun K hK => ?_) AllReadyH.nil
  go_simp
  refine hK.out _ _ ?_ (fun hHeld => ?_)
  ·trivial
  clear hK K
  try simp only [Act.put, List.setIfInBounds_toArray, List.set_cons_zero, List.set_cons_succ]
  clear hHeld
  refine wpAnyH_ready (rs := [7]) (by kernel_rfl) (by simp) ?_
  refine AllReadyH.cons (i := 7) (by simp only [List.getElem?_toArray, List.getElem?_cons_succ, List.getElem?_cons_zero]; rfl) (fun K hK => ?_) AllReadyH.nil
  go_simp
  refine hK.out _ _ ?_ (fun hHeld => ?_)
  ·trivial
  clear hK K
  try simp only [Act.put, List.setIfInBounds_toArray, List.set_cons_zero, List.set_cons_succ]
  clear hHeld
  refine wpAnyH_ready (rs := [8]) (by kernel_rfl) (by simp) ?_
  refine AllReadyH.cons (i := 8) (by simp only [List.getElem?_toArray, List.getElem?_cons_succ, List.getElem?_cons_zero]; rfl) (fun K hK => ?_) AllReadyH.nil
  refine ready_appA _ _ _ _ (by rfl) _ _ _ (by rfl) (by rfl) HRUN.out ?_ _ (by rfl)
  refine hK.out _ _ ?_ (fun hHeld => ?_)
  ·trivial
  clear hK K
  try simp only [Act.put, List.setIfInBounds_toArray, List.set_cons_zero, List.set_cons_succ]
  refine tkT 9 ?_
  refine tkT 10 ?_
  refine tkT 11 ?_
  clear hHeld
  refine wpAnyH_ready (rs := [12]) (by kernel_rfl) (by simp) ?_
  refine AllReadyH.cons (i := 12) (by simp only [List.getElem?_toArray, List.getElem?_cons_succ, List.getElem?_cons_zero]; rfl) (fun K hK => ?_) AllReadyH.nil
  go_simp
  refine hK.out _ _ ?_ (fun hHeld => ?_)
  ·trivial
  clear hK K
  try simp only [Act.put, List.setIfInBounds_toArray, List.set_cons_zero, List.set_cons_succ]
  refine wpAnyH_done (by kernel_rfl) ?_ _
  refine bodyPost_end (by simp [results, Tryz.results87, go_sem, *]; try rfl) rfl ?_
  have r8 := H8.out.1
  have d8 := H8.out.2.1
  have e8 := H8.out.2.2
  rw [HN.out.1] at r8 d8 e8
  exact ⟨rfl, _, _, _, _, _, _, _, r8, d8, (HOD.out.bel E HX.out.1 HX.out.2.1.le).trans e8, HEND.out⟩
 refine AllReadyH.cons (i := 6) (by simp only [List.getElem?_toArray, List.getElem?_cons_succ, List.getElem?_cons_zero]; rfl) (fun K hK => ?_) AllReadyH.nil
 go_simp
 refine hK.out _ _ ?_ (fun hHeld => ?_)
 ·trivial
 clear hK K
 try simp only [Act.put, List.setIfInBounds_toArray, List.set_cons_zero, List.set_cons_succ]
 clear hHeld
 refine wpAnyH_ready (rs := [5, 7]) (by kernel_rfl) (by simp) ?_
 refine AllReadyH.cons (i := 5) (by simp only [List.getElem?_toArray, List.getElem?_cons_succ, List.getElem?_cons_zero]; rfl) (fun K hK => ?_) ?_
 ·go_simp
  refine hK.out _ _ ?_ (fun hHeld => ?_)
  ·trivial
  clear hK K
  try simp only [Act.put, List.setIfInBounds_toArray, List.set_cons_zero, List.set_cons_succ]
  clear hHeld
  refine wpAnyH_ready (rs := [7]) (by kernel_rfl) (by simp) ?_
  refine AllReadyH.cons (i := 7) (by simp only [List.getElem?_toArray, List.getElem?_cons_succ, List.getElem?_cons_zero]; rfl) (fun K hK => ?_) AllReadyH.nil
  go_simp
  refine hK.out _ _ ?_ (fun hHeld => ?_)
  ·trivial
  clear hK K
  try simp only [Act.put, List.setIfInBounds_toArray, List.set_cons_zero, List.set_cons_succ]
  clear hHeld
  refine wpAnyH_ready (rs := [8]) (by kernel_rfl) (by simp) ?_
  refine AllReadyH.cons (i := 8) (by simp only [List.getElem?_toArray, List.getElem?_cons_succ, List.getElem?_cons_zero]; rfl) (fun K hK => ?_) AllReadyH.nil
  refine ready_appA _ _ _ _ (by rfl) _ _ _ (by rfl) (by rfl) HRUN.out ?_ _ (by rfl)
  refine hK.out _ _ ?_ (fun hHeld => ?_)
  ·trivial
  clear hK K
  try simp only [Act.put, List.setIfInBounds_toArray, List.set_cons_zero, List.set_cons_succ]
  refine tkT 9 ?_
  refine tkT 10 ?_
  refine tkT 11 ?_
  clear hHeld
  refine wpAnyH_ready (rs := [12]) (by kernel_rfl) (by simp) ?_
  refine AllReadyH.cons (i := 12) (by simp only [List.getElem?_toArray, List.getElem?_cons_succ, List.getElem?_cons_zero]; rfl) (fun K hK => ?_) AllReadyH.nil
  go_simp
  refine hK.out _ _ ?_ (fun hHeld => ?_)
  ·trivial
  clear hK K
  try simp only [Act.put, List.setIfInBounds_toArray, List.set_cons_zero, List.set_cons_succ]
  refine wpAnyH_done (by kernel_rfl) ?_ _
  refine bodyPost_end (by simp [results, Tryz.results87, go_sem, *]; try rfl) rfl ?_
  have r8 := H8.out.1
  have d8 := H8.out.2.1
  have e8 := H8.out.2.2
  rw [HN.out.1] at r8 d8 e8
  exact ⟨rfl, _, _, _, _, _, _, _, r8, d8, (HOD.out.bel E HX.out.1 HX.out.2.1.le).trans e8, HEND.out⟩
 refine AllReadyH.cons (i := 7) (by simp only [List.getElem?_toArray, List.getElem?_cons_succ, List.getElem?_cons_zero]; rfl) (fun K hK => ?_) AllReadyH.nil
 go_simp
 refine hK.out _ _ ?_ (fun hHeld => ?_)
 ·trivial
 clear hK K
 try simp only [Act.put, List.setIfInBounds_toArray, List.set_cons_zero, List.set_cons_succ]
 clear hHeld
 refine wpAnyH_ready (rs := [5]) (by kernel_rfl) (by simp) ?_
 refine AllReadyH.cons (i := 5) (by simp only [List.getElem?_toArray, List.getElem?_cons_succ, List.getElem?_cons_zero]; rfl) (fun K hK => ?_) AllReadyH.nil
 go_simp
 refine hK.out _ _ ?_ (fun hHeld => ?_)
 ·trivial
 clear hK K
 try simp only [Act.put, List.setIfInBounds_toArray, List.set_cons_zero, List.set_cons_succ]
 clear hHeld
 refine wpAnyH_ready (rs := [8]) (by kernel_rfl) (by simp) ?_
 refine AllReadyH.cons (i := 8) (by simp only [List.getElem?_toArray, List.getElem?_cons_succ, List.getElem?_cons_zero]; rfl) (fun K hK => ?_) AllReadyH.nil
 refine ready_appA _ _ _ _ (by rfl) _ _ _ (by rfl) (by rfl) HRUN.out ?_ _ (by rfl)
 refine hK.out _ _ ?_ (fun hHeld => ?_)
 ·trivial
 clear hK K
 try simp only [Act.put, List.setIfInBounds_toArray, List.set_cons_zero, List.set_cons_succ]
 refine tkT 9 ?_
 refine tkT 10 ?_
 refine tkT 11 ?_
 clear hHeld
 refine wpAnyH_ready (rs := [12]) (by kernel_rfl) (by simp) ?_
 refine AllReadyH.cons (i := 12) (by simp only [List.getElem?_toArray, List.getElem?_cons_succ, List.getElem?_cons_zero]; rfl) (fun K hK => ?_) AllReadyH.nil
 go_simp
 refine hK.out _ _ ?_ (fun hHeld => ?_)
 ·trivial
 clear hK K
 try simp only [Act.put, List.setIfInBounds_toArray, List.set_cons_zero, List.set_cons_succ]
 refine wpAnyH_done (by kernel_rfl) ?_ _
 refine bodyPost_end (by simp [results, Tryz.results87, go_sem, *]; try rfl) rfl ?_
 have r8 := H8.out.1
 have d8 := H8.out.2.1
 have e8 := H8.out.2.2
 rw [HN.out.1] at r8 d8 e8
 exact ⟨rfl, _, _, _, _, _, _, _, r8, d8, (HOD.out.bel E HX.out.1 HX.out.2.1.le).trans e8, HEND.out⟩
end Go.Proofs.YtgcmnkanjcfndaaGreatDoor
namespace Go.Proofs.YtgcmnkanjcfndaaGreatDoor
open Go.RowKit
set_option linter.unusedVariables false
set_option linter.unusedSimpArgs false
theorem RdA.put4 {E B m0 m1 m2 m3 m4 : Nat} {w : World} {c : Cd} {ln st : Int} {u0 u1 u2 u3 : Value} (h : RdA E B m0 m1 m2 m3 m4 w c ln st u0 u1 u2 u3) (v : Int) : RdA E B m0 m1 m2 m3 m4 (w.setCell ⟨B, 4, none⟩ (.int .i64 v)) c v st u0 u1 u2 u3 ∧ Below E w (w.setCell ⟨B, 4, none⟩ (.int .i64 v)) := by
 have hp := put11_4 h.row (.int .i64 v)
 exact ⟨⟨h.le, hp.1, ⟨own_putV h.own.sign h.row (by decide) hp.2, own_putV h.own.regs h.row (by decide) hp.2, own_putV h.own.slots h.row (by decide) hp.2, own_putV h.own.list h.row (by decide) hp.2⟩, h.maps.keep fun C g hm => hp.2.oth C (hm.no h.row)⟩, hp.2.bel E h.le⟩
theorem RdA.put5 {E B m0 m1 m2 m3 m4 : Nat} {w : World} {c : Cd} {ln st : Int} {u0 u1 u2 u3 : Value} (h : RdA E B m0 m1 m2 m3 m4 w c ln st u0 u1 u2 u3) (v : Int) : RdA E B m0 m1 m2 m3 m4 (w.setCell ⟨B, 5, none⟩ (.int .i64 v)) c ln v u0 u1 u2 u3 ∧ Below E w (w.setCell ⟨B, 5, none⟩ (.int .i64 v)) := by
 have hp := put11_5 h.row (.int .i64 v)
 exact ⟨⟨h.le, hp.1, ⟨own_putV h.own.sign h.row (by decide) hp.2, own_putV h.own.regs h.row (by decide) hp.2, own_putV h.own.slots h.row (by decide) hp.2, own_putV h.own.list h.row (by decide) hp.2⟩, h.maps.keep fun C g hm => hp.2.oth C (hm.no h.row)⟩, hp.2.bel E h.le⟩
theorem sort_mean (x : Bs) : meanA sortL 3 x = if x = slotB then some 2 else if x = regB then some 1 else if x = paramB then some 0 else none := by
 by_cases h1 : x = slotB
 ·subst h1; decide
 by_cases h2 : x = regB
 ·subst h2; decide
 by_cases h3 : x = paramB
 ·subst h3; decide
 simp [meanA, sortL, h1, h2, h3]
theorem count_no {x : Bs} (h : ∀ c ∈ x, nb c ≠ 32) : x.count 32 = 0 := List.count_eq_zero.2 fun hm => h 32 hm rfl
theorem join_count : ∀ (ws : List Bs), (∀ x ∈ ws, ∀ c ∈ x, nb c ≠ 32) → (joinW ws).count 32 = ws.length - 1
 | [], _ => rfl
 | [a], h => count_no (h a (by simp))
 | a :: b :: r, h => by
  rw [join_cons (by simp), List.count_append, List.count_cons, count_no (h a (by simp)), join_count (b :: r) (fun x hx => h x (List.mem_cons_of_mem _ hx))]
  simp
def sortQ (Q : Option Nat) (k : Nat) : Nat := if Q = none then 3 else if Q = some 0 then (if k < 2 then 3 else 0) else Q.getD 0
set_option maxRecDepth 100000 in
set_option maxHeartbeats 4000000 in
theorem acount_any (s : ByteArray) (w : World) :
  Calls Tryz.prog 117 #[.string s, .string ⟨#[32]⟩] w fun e w' => e = .returned (.int .i64 ((bs s).count 32 : Nat)) ∧ w' = w := by
 go_enter Tryz.func117, Tryz.ntmps117
 go_wp2
 rw [run_callFunc_extern Tryz.func145 (by kernel_rfl) (by kernel_rfl) (by kernel_rfl) (e := Extern.BytealgCount.count) (by kernel_rfl), Lib.run_countString]
 simp only [Result.andThen]
 rw [Oper.upon_value]
 go_wp2
 go_ret
 exact ⟨rfl, rfl⟩
set_option maxRecDepth 100000 in
set_option maxHeartbeats 8000000 in
theorem rsort_any (E B m0 m1 m2 m3 m4 : Nat) (c : Cd) (ln st : Int) (u0 u1 u2 u3 : Value) (T : ByteArray) (hT : T.size ≤ 4194304) (w : World) (hL : LaidE E w) (h : RdA E B m0 m1 m2 m3 m4 w c ln st u0 u1 u2 u3) :
  Calls Tryz.prog 86 #[.pointer (some ⟨B, 0, none⟩), .string T] w fun e w' => e = .returned (.int .i64 (sortW (wordsA [] (bs T)) : Nat)) ∧ Below w.heap.size w w' := by
 obtain ⟨ws, hws⟩ : ∃ ws, wordsA [] (bs T) = ws := ⟨_, rfl⟩
 have hno : ∀ x ∈ ws, ∀ c ∈ x, nb c ≠ 32 := by rw [← hws]; exact words_no32 (bs T) [] (fun b hb => by cases hb)
 have hj : joinW ws = bs T := by rw [← hws]; simpa using join_words (bs T) []
 rw [hws]
 have K := hidC (cut_big T hT w hL.laid)
 rw [← hj, cut_nx hno] at K
 obtain ⟨U, hU⟩ : ∃ U : ByteArray, sof (nxW ws).1 = U := ⟨_, rfl⟩
 obtain ⟨R, hR⟩ : ∃ U : ByteArray, sof (joinW (nxW ws).2) = U := ⟨_, rfl⟩
 have hbU : bs U = (nxW ws).1 := by rw [← hU]; exact bs_of _
 have hbR : bs R = joinW (nxW ws).2 := by rw [← hR]; exact bs_of _
 simp only at K
 rw [hU, hR] at K
 obtain ⟨D, hD⟩ : ∃ d, decide ((nxW ws).2 = []) = d := ⟨_, rfl⟩
 rw [hD] at K
 have hsU : U.size ≤ 4194304 := by rw [← bs_length, hbU]; have := (join_tail ws).2; rw [hj, bs_length] at this; omega
 have hcnt : (bs R).count 32 = (nxW ws).2.length - 1 := by rw [hbR]; exact join_count _ (fun x hx => hno x (nx_mem hx))
 have hlen : ws.length = (nxW ws).2.length + 1 := by
  have := words_ne (bs T) []
  rw [hws] at this
  cases ws with
  | nil => exact absurd rfl this
  | cons a r => rfl
 have KC := hidC (fun v => acount_any R v)
 obtain ⟨k, hk⟩ : ∃ k, (bs R).count 32 = k := ⟨_, rfl⟩
 rw [hk] at KC
 obtain ⟨Q, hQ⟩ : ∃ Q, meanA sortL 3 (nxW ws).1 = Q := ⟨_, rfl⟩
 have HLK : Hid (∀ v, Below w.heap.size w v → (Instr.lookup 65 (.map (some m0)) (.string U) true).run Tryz.prog v = .ok (.tuple #[.int .i64 ((Q.getD 0 : Nat) : Int), .bool Q.isSome]) v) := fun v hv => by
  obtain ⟨n, hf⟩ := h.maps.sorts.1.below hv
  have h9 := hf.look2 (k := U) Tryz.underlying65 (az_int v) (by unfold maxLen; omega)
  rw [h9]
  simp only [hbU, hQ]
  cases Q <;> rfl
 have H6 : Hid (∀ v, Below w.heap.size w v → v.cell? ⟨B, 6, none⟩ = some (.map (some m0))) := fun v hv => (h.below hv).row.cell (i := 6) (by decide)
 have HS : Hid (sortW ws = sortQ Q k) := by
  show sortW ws = _
  have hm := sort_mean (nxW ws).1
  rw [hQ] at hm
  unfold sortW sortQ
  have h4 : 4 ≤ ws.length ↔ ¬ k < 2 := by omega
  by_cases h1 : (nxW ws).1 = slotB
  ·rw [if_pos h1] at hm
   rw [if_neg (by rw [h1]; exact fun e => absurd e.1 (by decide)), if_neg (by rw [h1]; decide), if_pos h1, hm]
   rfl
  by_cases h2 : (nxW ws).1 = regB
  ·rw [if_neg h1, if_pos h2] at hm
   rw [if_neg (by rw [h2]; exact fun e => absurd e.1 (by decide)), if_pos h2, hm]
   rfl
  by_cases h3 : (nxW ws).1 = paramB
  ·rw [if_neg h1, if_neg h2, if_pos h3] at hm
   rw [hm, if_neg (by simp : ¬ (some 0 = (none : Option Nat))), if_pos rfl]
   by_cases h5 : k < 2
   ·rw [if_neg (fun e => (h4.1 e.2) h5), if_neg h2, if_neg h1, if_pos h5]
   ·rw [if_pos ⟨h3, h4.2 h5⟩, if_neg h5]
  ·rw [if_neg h1, if_neg h2, if_neg h3] at hm
   rw [if_neg (fun e => h3 e.1), if_neg h2, if_neg h1, hm, if_pos rfl]
 clear h hL hws hno hj hU hR hbU hbR hcnt hlen hk hQ hD hsU
 cases Q with
 | none =>
  rw [HS.out]
  show Calls _ _ _ _ (fun e w' => e = .returned (.int .i64 ((3 : Nat) : Int)) ∧ _)
  go_enter Tryz.func86, Tryz.ntmps86
  go_wp2_with (go_at_call 56; (with_reducible refine K.out.mono ?_); rintro e w1 ⟨rfl, hb1⟩; have v6 := H6.out w1 hb1; have hl1 := HLK.out w1 hb1)
  go_ret
  exact ⟨rfl, hb1⟩
 | some j =>
  cases j with
  | zero =>
   by_cases h5 : k < 2
   ·have e1 : (k : Int) < 2 := by omega
    have HS' : Hid (sortW ws = 3) := by show sortW ws = _; have := HS.out; unfold sortQ at this; simpa [h5] using this
    rw [HS'.out]
    clear HS
    go_enter Tryz.func86, Tryz.ntmps86
    go_wp2_with (first
     | (go_at_call 56; (with_reducible refine K.out.mono ?_); rintro e w1 ⟨rfl, hb1⟩; have v6 := H6.out w1 hb1; have hl1 := HLK.out w1 hb1)
     | (go_at_call 117; (with_reducible refine (KC.out _).mono ?_); rintro e w2 ⟨rfl, hw7⟩; have hw8 := hw7.symm; subst hw8))
    go_ret
    exact ⟨rfl, hb1⟩
   ·have e1 : ¬ (k : Int) < 2 := by omega
    have HS' : Hid (sortW ws = 0) := by show sortW ws = _; have := HS.out; unfold sortQ at this; simpa [h5] using this
    rw [HS'.out]
    clear HS
    go_enter Tryz.func86, Tryz.ntmps86
    go_wp2_with (first
     | (go_at_call 56; (with_reducible refine K.out.mono ?_); rintro e w1 ⟨rfl, hb1⟩; have v6 := H6.out w1 hb1; have hl1 := HLK.out w1 hb1)
     | (go_at_call 117; (with_reducible refine (KC.out _).mono ?_); rintro e w2 ⟨rfl, hw7⟩; have hw8 := hw7.symm; subst hw8))
    go_ret
    exact ⟨rfl, hb1⟩
  | succ j =>
   have HS' : Hid (sortW ws = j + 1) := by show sortW ws = _; have := HS.out; unfold sortQ at this; simpa using this
   have e1 : (((j + 1 : Nat) : Int) == 0) = false := by simp; omega
   have e2 : ((some (j + 1)).getD 0) = j + 1 := rfl
   rw [e2] at HLK
   rw [HS'.out]
   obtain ⟨J, hJ⟩ : ∃ J, j + 1 = J := ⟨_, rfl⟩
   rw [hJ] at e1 HLK ⊢
   clear HS hJ
   go_enter Tryz.func86, Tryz.ntmps86
   go_wp2_with (go_at_call 56; (with_reducible refine K.out.mono ?_); rintro e w1 ⟨rfl, hb1⟩; have v6 := H6.out w1 hb1; have hl1 := HLK.out w1 hb1)
   go_ret
   exact ⟨rfl, hb1⟩
end Go.Proofs.YtgcmnkanjcfndaaGreatDoor
namespace Go.Proofs.YtgcmnkanjcfndaaGreatDoor
open Go.RowKit
set_option linter.unusedVariables false
set_option linter.unusedSimpArgs false
theorem sort_first0 {ws : List Bs} (h : sortW ws = 0) : 4 ≤ ws.length ∧ (nxW ws).1 = paramB := by
 unfold sortW at h
 by_cases q : (nxW ws).1 = paramB ∧ 4 ≤ ws.length
 ·exact ⟨q.2, q.1⟩
 ·rw [if_neg q] at h
  split at h
  ·cases h
  split at h
  ·cases h
  ·cases h
theorem sort_first1 {ws : List Bs} (h : sortW ws = 1) : (nxW ws).1 = regB := by
 unfold sortW at h
 split at h
 ·cases h
 split at h
 ·assumption
 split at h
 ·cases h
 ·cases h
theorem sort_first2 {ws : List Bs} (h : sortW ws = 2) : (nxW ws).1 = slotB := by
 unfold sortW at h
 split at h
 ·cases h
 split at h
 ·cases h
 split at h
 ·assumption
 ·cases h
theorem sort_first3 {ws : List Bs} (h : sortW ws = 3) : True := trivial
def StepR (st : Nat) (c : Cd) (ws : List Bs) (ok : Bool) (c' : Cd) (st' : Int) : Prop :=
 (∀ s', stepW (st, c) ws = some s' → ok = true ∧ st' = (s'.1 : Int) ∧ c' = s'.2) ∧ (stepW (st, c) ws = none → ok = false)
theorem says_fin {st : Nat} {c c' : Cd} {ws ws' : List Bs} {b' : Bool} (h : ¬ sortW ws < st) (h3 : st ≤ 3) (hs : SayT (saysW c ws) c' ws' b') : StepR st c ws (decide (ws' = []) && !b') c' ((sortW ws : Nat) : Int) := by
 unfold StepR
 rw [step_sort st c h3 ws, if_neg h]
 cases e : saysW c ws with
 | none =>
  rw [e] at hs
  refine ⟨fun s' hs' => (by cases hs'), fun _ => ?_⟩
  have : ¬ (ws' = [] ∧ b' = false) := hs
  by_cases q : ws' = []
  ·cases hb : b' with
   | true => simp
   | false => exact absurd ⟨q, hb⟩ this
  ·simp [q]
 | some x =>
  rw [e] at hs
  obtain ⟨h1, h2, h4⟩ := hs
  refine ⟨fun s' hs' => ?_, fun hn => (by cases hn)⟩
  have := Option.some.inj hs'
  subst this
  exact ⟨by rw [h1, h2]; rfl, rfl, h4⟩
theorem early_fin {st : Nat} {c : Cd} {ws : List Bs} {c' : Cd} {st' : Int} (h : sortW ws < st) (h3 : st ≤ 3) : StepR st c ws false c' st' := by
 unfold StepR
 rw [step_sort st c h3 ws, if_pos h]
 exact ⟨fun s' hs' => (by cases hs'), fun _ => rfl⟩
set_option maxRecDepth 100000 in
set_option maxHeartbeats 16000000 in
theorem atake_any (E B m0 m1 m2 m3 m4 : Nat) (c : Cd) (ln st : Nat) (u0 u1 u2 u3 : Value) (T : ByteArray) (hT : T.size ≤ 4194304) (w : World) (hL : LaidE E w) (h : RdA E B m0 m1 m2 m3 m4 w c (ln : Int) (st : Int) u0 u1 u2 u3) (hln : ln ≤ 4194304) (h3 : st ≤ 3)
  (hb : c.sign.length ≤ 4194304 ∧ c.regs.length ≤ 4194304 ∧ c.slots.length ≤ 4194304 ∧ c.list.length ≤ 4194304) :
  Calls Tryz.prog 57 #[.pointer (some ⟨B, 0, none⟩), .string T] w fun e w' => ∃ (ok : Bool) (c' : Cd) (st' : Int) (y0 y1 y2 y3 : Value), e = .returned (.bool ok) ∧ RdA E B m0 m1 m2 m3 m4 w' c' ((ln + 1 : Nat) : Int) st' y0 y1 y2 y3 ∧ Below E w w' ∧ (ln = 0 → ok = decide (bs T = headB) ∧ c' = c ∧ st' = (st : Int)) ∧ (ln ≠ 0 → StepR st c (wordsA [] (bs T)) ok c' st') := by
 obtain ⟨L, hLL⟩ : ∃ L, ln + 1 = L := ⟨_, rfl⟩
 rw [hLL]
 obtain ⟨ws, hws⟩ : ∃ ws, wordsA [] (bs T) = ws := ⟨_, rfl⟩
 rw [hws]
 have HWS := hidC hws
 clear hws
 have wi : IntKind.i64.wrap ((ln : Int) + 1) = (L : Int) := by rw [IntKind.wrap_i64]; omega
 have v4 : w.cell? ⟨B, 4, none⟩ = some (.int .i64 (ln : Int)) := h.row.cell (i := 4) (by decide)
 have f4 := h.row.frozen 4
 have hp := h.put4 (L : Int)
 obtain ⟨W1, hW1⟩ : ∃ W, w.setCell ⟨B, 4, none⟩ (.int .i64 (L : Int)) = W := ⟨_, rfl⟩
 rw [hW1] at hp
 have HP := hidC hp
 have HB3 := hidC hb
 have HTT := hidC hT
 have HLL := hidC hL
 have HLE := hidC h.le
 have HS3 := hidC h3
 have HBD := hidC hb
 have HLQ := hidC hLL
 clear hb hT h3 hp h hL
 go_enter Tryz.func57, Tryz.ntmps57
 go_upto_region 2 with fail
 try rw [hW1]
 clear v4 f4 hW1
 have v4 : W1.cell? ⟨B, 4, none⟩ = some (.int .i64 (L : Int)) := HP.out.1.row.cell (i := 4) (by decide)
 by_cases q : ln = 0
 ·have HQ := hidC q
  have e1 : ((L : Int) == 1) = true := by rw [← hLL, q]; rfl
  obtain ⟨dd, hdd⟩ : ∃ d, decide (bs T = headB) = d := ⟨_, rfl⟩
  have e2 : (T.toList == ([108, 97, 116, 104, 101, 32, 49] : List UInt8)) = dd := by
   rw [← hdd, ByteArray.toList_eq]
   by_cases q : bs T = headB
   ·rw [decide_eq_true q]
    show (bs T == headB) = true
    rw [q]; rfl
   ·rw [decide_eq_false q]
    show (bs T == headB) = false
    simpa using q
  have e3 : (T.toList == (⟨#[108, 97, 116, 104, 101, 32, 49]⟩ : ByteArray).toList) = dd := by rw [← e2, ByteArray.toList_eq (⟨#[108, 97, 116, 104, 101, 32, 49]⟩ : ByteArray)]
  have HDD := hidC hdd
  clear q hdd hLL
  go_wp2
  go_ret
  exact ⟨dd, c, _, u0, u1, u2, u3, by first | rfl | simp [e2], HP.out.1, HP.out.2, fun _ => ⟨HDD.out.symm, rfl, rfl⟩, fun e => absurd HQ.out e⟩
 ·have HLN := hidC q
  have e1 : ((L : Int) == 1) = false := by
   rw [← hLL]; simp; omega
  have KS := rsort_any E B m0 m1 m2 m3 m4 c (L : Int) (st : Int) u0 u1 u2 u3 T HTT.out W1 (HLL.out.below HP.out.2) HP.out.1
  rw [HWS.out] at KS
  obtain ⟨S, hS⟩ : ∃ S, sortW ws = S := ⟨_, rfl⟩
  rw [hS] at KS
  have HKS := hidC KS
  have HSS : Hid (sortW ws = S) := hS
  clear KS hS q hLL
  by_cases q : S < st
  ·have e2 : ((S : Int) < (st : Int)) := by omega
   have HEA : Hid (sortW ws < st) := by show sortW ws < st; rw [HSS.out]; exact q
   clear q
   go_wp2_with (go_at_call 86; (with_reducible refine HKS.out.mono ?_); rintro e w2 ⟨rfl, hb2⟩; have HB2 := hidC hb2; have v5 : w2.cell? ⟨B, 5, none⟩ = some (.int .i64 (st : Int)) := (HP.out.1.below hb2).row.cell (i := 5) (by decide); clear hb2 v4)
   go_ret
   exact ⟨false, c, _, u0, u1, u2, u3, rfl, HP.out.1.below HB2.out, HP.out.2.trans (HB2.out.mono (HLL.out.below HP.out.2).le), fun e => absurd e HLN.out, fun _ => early_fin HEA.out HS3.out⟩
  have e2 : ¬ ((S : Int) < (st : Int)) := by omega
  have HSL : Hid (¬ sortW ws < st) := by show ¬ sortW ws < st; rw [HSS.out]; exact q
  have hS3 : S ≤ 3 := by rw [← HSS.out]; exact sort_le ws
  clear q
  go_upto_region 5 with (go_at_call 86; (with_reducible refine HKS.out.mono ?_); rintro e w2 ⟨rfl, hb2⟩; have HB2 := hidC hb2; clear hb2 v4)
  have hR2 := HP.out.1.below HB2.out
  have v5 : w2.cell? ⟨B, 5, none⟩ = some (.int .i64 (st : Int)) := hR2.row.cell (i := 5) (by decide)
  have f5 := hR2.row.frozen 5
  have hp5 := hR2.put5 (S : Int)
  obtain ⟨W3, hW3⟩ : ∃ W, w2.setCell ⟨B, 5, none⟩ (.int .i64 (S : Int)) = W := ⟨_, rfl⟩
  rw [hW3] at hp5
  have HP5 := hidC hp5
  have HB3' : Hid (Below E w W3) := (HP.out.2.trans (HB2.out.mono (HLL.out.below HP.out.2).le)).trans hp5.2
  clear hp5 hR2
  go_upto_region 8 with fail
  try rw [hW3]
  clear v5 f5 hW3
  go_upto_region 9 with fail
  obtain ⟨V, hV⟩ : ∃ V, W3.alloc (.cells #[.string T, .bool false, .bool false] 151) = V := ⟨_, rfl⟩
  try rw [hV]
  have hq := q3_new W3 151 (.string T) (.bool false) (.bool false)
  have hb := bel_alloc W3 (.cells #[.string T, .bool false, .bool false] 151)
  rw [hV] at hq hb
  have lE : E ≤ W3.heap.size := (HLL.out.below HB3'.out).le
  obtain ⟨WB, hWB⟩ : ∃ X, W3.heap.size = X := ⟨_, rfl⟩
  rw [hWB] at hq lE
  simp only [hWB]
  have HXW : Hid (E ≤ WB) := lE
  have HRV := hidC (HP5.out.1.below hb)
  have HWV : Hid (WdM WB ws false V) := by
   have hne : decide (ws = []) = false := by
    have := words_ne (bs T) []
    rw [HWS.out] at this
    simpa using this
   refine ⟨⟨T, ?_, HTT.out, by rw [hne]; exact hq⟩, ?_⟩
   ·rw [← HWS.out]; simpa using (join_words (bs T) []).symm
   ·rw [← HWS.out]; exact words_no32 (bs T) [] (fun b hb => by cases hb)
  have HBV : Hid (Below E w V) := HB3'.out.trans (hb.mono (HLL.out.below HB3'.out).le)
  have HLV := hidC (HLL.out.below HBV.out)
  clear hq hb lE hWB hV
  have HSC : Hid (((sortW ws : Nat) : Int) = (S : Int)) := by show _ = _; rw [HSS.out]
  rcases (show S = 0 ∨ S = 1 ∨ S = 2 ∨ S = 3 by omega) with rfl | rfl | rfl | rfl
  ·clear hS3 e2
   have HSF : Hid (4 ≤ ws.length ∧ (nxW ws).1 = paramB) := sort_first0 HSS.out
   have HSY : Hid (saysW c ws = (parLn ws).map fun p => ⟨c.sign ++ [p], c.regs, c.slots, c.list⟩) := by show saysW c ws = _; unfold saysW; rw [HSS.out]; rfl
   have KL := rparA_any E B WB m0 m1 m2 m3 m4 c _ _ u0 u1 u2 u3 ws V HLV.out HXW.out HRV.out HWV.out HSF.out.1 HSF.out.2 HBD.out.1
   rw [← HSY.out] at KL
   have HKL := hidC KL
   clear KL
   go_wp2_with (first
    | (go_at_call 87; (with_reducible refine HKL.out.mono ?_); rintro e w5 ⟨rfl, c', y0, y1, y2, y3, ws', b', h5, d5, k5, s5⟩; have H5 := hidC (And.intro h5 (And.intro d5 (And.intro k5 s5))); clear h5 d5 k5 s5)
    | (go_at_call 91; (with_reducible refine (wright_any WB _ _ _ H5.out.2.1).mono ?_); rintro e w6 ⟨rfl, hw7⟩; have hw8 := hw7.symm; subst hw8))
   go_ret
   exact ⟨_, c', _, y0, y1, y2, y3, rfl, H5.out.1, HBV.out.trans H5.out.2.2.1, fun e => absurd e HLN.out, fun _ => (by have h9 := says_fin HSL.out HS3.out H5.out.2.2.2; rw [HSC.out] at h9; exact h9)⟩
  ·clear hS3 e2
   have HSF : Hid ((nxW ws).1 = regB) := sort_first1 HSS.out
   have HSY : Hid (saysW c ws = (regLn (c.regs.length : Int) ws).map fun t => ⟨c.sign, c.regs ++ [t], c.slots, c.list⟩) := by show saysW c ws = _; unfold saysW; rw [HSS.out]; rfl
   have KL := rreg_any E B WB m0 m1 m2 m3 m4 c _ _ u0 u1 u2 u3 ws V HLV.out HXW.out HRV.out HWV.out HSF.out HBD.out.2.1
   rw [← HSY.out] at KL
   have HKL := hidC KL
   clear KL
   go_wp2_with (first
    | (go_at_call 88; (with_reducible refine HKL.out.mono ?_); rintro e w5 ⟨rfl, c', y0, y1, y2, y3, ws', b', h5, d5, k5, s5⟩; have H5 := hidC (And.intro h5 (And.intro d5 (And.intro k5 s5))); clear h5 d5 k5 s5)
    | (go_at_call 91; (with_reducible refine (wright_any WB _ _ _ H5.out.2.1).mono ?_); rintro e w6 ⟨rfl, hw7⟩; have hw8 := hw7.symm; subst hw8))
   go_ret
   exact ⟨_, c', _, y0, y1, y2, y3, rfl, H5.out.1, HBV.out.trans H5.out.2.2.1, fun e => absurd e HLN.out, fun _ => (by have h9 := says_fin HSL.out HS3.out H5.out.2.2.2; rw [HSC.out] at h9; exact h9)⟩
  ·clear hS3 e2
   have HSF : Hid ((nxW ws).1 = slotB) := sort_first2 HSS.out
   have HSY : Hid (saysW c ws = (slotLn (c.slots.length : Int) ws).map fun l => ⟨c.sign, c.regs, c.slots ++ [l], c.list⟩) := by show saysW c ws = _; unfold saysW; rw [HSS.out]; rfl
   have KL := rslot_any E B WB m0 m1 m2 m3 m4 c _ _ u0 u1 u2 u3 ws V HLV.out HXW.out HRV.out HWV.out HSF.out HBD.out.2.2.1
   rw [← HSY.out] at KL
   have HKL := hidC KL
   clear KL
   go_wp2_with (first
    | (go_at_call 89; (with_reducible refine HKL.out.mono ?_); rintro e w5 ⟨rfl, c', y0, y1, y2, y3, ws', b', h5, d5, k5, s5⟩; have H5 := hidC (And.intro h5 (And.intro d5 (And.intro k5 s5))); clear h5 d5 k5 s5)
    | (go_at_call 91; (with_reducible refine (wright_any WB _ _ _ H5.out.2.1).mono ?_); rintro e w6 ⟨rfl, hw7⟩; have hw8 := hw7.symm; subst hw8))
   go_ret
   exact ⟨_, c', _, y0, y1, y2, y3, rfl, H5.out.1, HBV.out.trans H5.out.2.2.1, fun e => absurd e HLN.out, fun _ => (by have h9 := says_fin HSL.out HS3.out H5.out.2.2.2; rw [HSC.out] at h9; exact h9)⟩
  ·clear hS3 e2
   have HSF : Hid True := sort_first3 HSS.out
   have HSY : Hid (saysW c ws = (insLn ws).map fun i => ⟨c.sign, c.regs, c.slots, c.list ++ [i]⟩) := by show saysW c ws = _; unfold saysW; rw [HSS.out]; rfl
   have KL := rinsA_any E B WB m0 m1 m2 m3 m4 c _ _ u0 u1 u2 u3 ws V HLV.out HXW.out HRV.out HWV.out HBD.out.2.2.2
   rw [← HSY.out] at KL
   have HKL := hidC KL
   clear KL
   go_wp2_with (first
    | (go_at_call 90; (with_reducible refine HKL.out.mono ?_); rintro e w5 ⟨rfl, c', y0, y1, y2, y3, ws', b', h5, d5, k5, s5⟩; have H5 := hidC (And.intro h5 (And.intro d5 (And.intro k5 s5))); clear h5 d5 k5 s5)
    | (go_at_call 91; (with_reducible refine (wright_any WB _ _ _ H5.out.2.1).mono ?_); rintro e w6 ⟨rfl, hw7⟩; have hw8 := hw7.symm; subst hw8))
   go_ret
   exact ⟨_, c', _, y0, y1, y2, y3, rfl, H5.out.1, HBV.out.trans H5.out.2.2.1, fun e => absurd e HLN.out, fun _ => (by have h9 := says_fin HSL.out HS3.out H5.out.2.2.2; rw [HSC.out] at h9; exact h9)⟩
end Go.Proofs.YtgcmnkanjcfndaaGreatDoor
namespace Go.Proofs.YtgcmnkanjcfndaaGreatDoor
open Go.RowKit
set_option linter.unusedVariables false
set_option linter.unusedSimpArgs false
def okA (ln st : Nat) (c : Cd) (x : Bs) : Bool := if ln = 0 then decide (x = headB) else (stepW (st, c) (wordsA [] x)).isSome
def nxA (ln st : Nat) (c : Cd) (x : Bs) (st' : Nat) (c' : Cd) : Prop := (ln = 0 → c' = c ∧ st' = st) ∧ (ln ≠ 0 → stepW (st, c) (wordsA [] x) = some (st', c'))
theorem atake2_any (E B m0 m1 m2 m3 m4 : Nat) (c : Cd) (ln st : Nat) (u0 u1 u2 u3 : Value) (T : ByteArray) (hT : T.size ≤ 4194304) (w : World) (hL : LaidE E w) (h : RdA E B m0 m1 m2 m3 m4 w c (ln : Int) (st : Int) u0 u1 u2 u3) (hln : ln ≤ 4194304) (h3 : st ≤ 3)
  (hb : c.sign.length ≤ 4194304 ∧ c.regs.length ≤ 4194304 ∧ c.slots.length ≤ 4194304 ∧ c.list.length ≤ 4194304) :
  Calls Tryz.prog 57 #[.pointer (some ⟨B, 0, none⟩), .string T] w fun e w' => e = .returned (.bool (okA ln st c (bs T))) ∧ ∃ (c' : Cd) (st' : Int) (y0 y1 y2 y3 : Value), RdA E B m0 m1 m2 m3 m4 w' c' ((ln + 1 : Nat) : Int) st' y0 y1 y2 y3 ∧ Below E w w' ∧ (okA ln st c (bs T) = true → ∃ n : Nat, st' = (n : Int) ∧ nxA ln st c (bs T) n c') := by
 refine (atake_any E B m0 m1 m2 m3 m4 c ln st u0 u1 u2 u3 T hT w hL h hln h3 hb).mono ?_
 rintro e w' ⟨ok, c', st', y0, y1, y2, y3, rfl, hr, hbl, h0, h1⟩
 have hok : ok = okA ln st c (bs T) := by
  unfold okA
  by_cases q : ln = 0
  ·rw [if_pos q]; exact (h0 q).1
  ·rw [if_neg q]
   obtain ⟨g1, g2⟩ := h1 q
   cases e : stepW (st, c) (wordsA [] (bs T)) with
   | none => exact g2 e
   | some s' => exact (g1 s' e).1
 refine ⟨by rw [hok], c', st', y0, y1, y2, y3, hr, hbl, fun ht => ?_⟩
 by_cases q : ln = 0
 ·obtain ⟨-, g1, g2⟩ := h0 q
  exact ⟨st, g2, fun _ => ⟨g1, rfl⟩, fun e => absurd q e⟩
 ·obtain ⟨g1, g2⟩ := h1 q
  unfold okA at ht
  rw [if_neg q] at ht
  obtain ⟨s', hs'⟩ := Option.isSome_iff_exists.1 ht
  obtain ⟨-, k2, k3⟩ := g1 s' hs'
  exact ⟨s'.1, k2, fun e => absurd e q, fun _ => by rw [hs', k3]⟩
theorem cut_big10 (s : ByteArray) (hs : s.size ≤ 4194304) (w : World) (hL : Laid w) :
  Calls Tryz.prog 56 #[.string s, .string ⟨#[10]⟩] w fun e w' => e = .returned (.tuple #[.string (sof (Lib.cut (bs s) [10]).1), .string (sof (Lib.cut (bs s) [10]).2.1), .bool (Lib.cut (bs s) [10]).2.2]) ∧ Below w.heap.size w w' := by
 obtain ⟨m, hm⟩ := hL.mx
 exact (sh_strings_Cut s ⟨#[10]⟩ m w (by omega) hm).mono fun e w' ⟨he, n, hw⟩ => ⟨he, by subst hw; exact bel_dn w n⟩
theorem GoI.lens {t : Bs} {ln st : Nat} {c : Cd} {s : Bs} (h : GoI t ln st c s) (ht : t.length ≤ 4194304) : ln ≤ 4194304 ∧ (c.sign.length ≤ 4194304 ∧ c.regs.length ≤ 4194304 ∧ c.slots.length ≤ 4194304 ∧ c.list.length ≤ 4194304) := by
 have h1 := h.size
 have h2 := h.ok.len
 refine ⟨?_, ?_, ?_, ?_, ?_⟩ <;> omega
def lenV : Value → Nat | .string s => s.size | _ => 0
set_option maxRecDepth 100000 in
set_option maxHeartbeats 16000000 in
theorem aread_any (E B m0 m1 m2 m3 m4 : Nat) (u0 u1 u2 u3 : Value) (T : ByteArray) (hT : T.size ≤ 4194304) (w : World) (hL : LaidE E w) (h : RdA E B m0 m1 m2 m3 m4 w noC 0 0 u0 u1 u2 u3) :
  Calls Tryz.prog 23 #[.pointer (some ⟨B, 0, none⟩), .string T] w fun e w' => ∃ (ok : Bool) (c' : Cd) (ln : Nat) (st' : Int) (y0 y1 y2 y3 : Value), e = .returned (.bool ok) ∧ RdA E B m0 m1 m2 m3 m4 w' c' (ln : Int) st' y0 y1 y2 y3 ∧ Below E w w' ∧ ReadT (bs T) ok ln c' := by
 have HT : Hid ((bs T).length ≤ 4194304) := by rw [bs_length]; exact hT
 have HTS := hidC hT
 have HLL := hidC hL
 have HR := hidC h
 obtain ⟨t, ht⟩ : ∃ t, bs T = t := ⟨_, rfl⟩
 have HTT := hidC ht
 rw [ht] at HT ⊢
 clear ht h hL hT
 go_enter Tryz.func23, Tryz.ntmps23
 go_wp2_with fail
 go_loopw [1] (fun tv wx => ∃ (ln st : Nat) (c : Cd) (S : ByteArray) (y0 y1 y2 y3 : Value), tv = .string S ∧ Hid (S.size ≤ 4194304 ∧ GoI t ln st c (bs S) ∧ RdA E B m0 m1 m2 m3 m4 wx c (ln : Int) (st : Int) y0 y1 y2 y3 ∧ Below E w wx)) (fun tv _ => lenV tv)
 case atStart => exact ⟨0, 0, noC, T, u0, u1, u2, u3, rfl, HTS.out, by rw [HTT.out]; exact GoI.start t, HR.out, Below.refl _ _⟩
 case round =>
  obtain ⟨ln, st, c, S, y0, y1, y2, y3, rfl, HJ⟩ := hrel
  obtain ⟨j0, j1, j2, j3⟩ := HJ.out
  have hlw := HLL.out.below j3
  have KC := cut_big10 S j0 wr hlw.laid
  have HS := hidC (bs_length S)
  rcases cut_one 10 (bs S) with ⟨hc, hn⟩ | ⟨x, y, hs, hx, hc⟩
  ·rw [hc] at KC
   have hSS : sof (bs S) = S := by cases S; simp [bs, sof]
   simp only [hSS] at KC
   obtain ⟨Z, hZ⟩ : ∃ Z : ByteArray, sof ([] : Bs) = Z := ⟨_, rfl⟩
   rw [hZ] at KC
   have HKC := hidC KC
   obtain ⟨l1, l2⟩ := j1.lens HT.out
   have HKT : Hid (∀ v, Below wr.heap.size wr v → _) := fun v hv => atake2_any E B m0 m1 m2 m3 m4 c ln st y0 y1 y2 y3 S j0 v (HLL.out.below (j3.trans (hv.mono hlw.le))) (j2.below hv) l1 j1.sort l2
   obtain ⟨k, hk⟩ : ∃ k, okA ln st c (bs S) = k := ⟨_, rfl⟩
   rw [hk] at HKT
   have HO : Hid (∀ c', ReadT t false (ln + 1) c') := fun c' => j1.open hn
   have HJ3 : Hid (∀ v v', Below wr.heap.size wr v → Below E v v' → Below E w v') := fun v v' a b => (j3.trans (a.mono hlw.le)).trans b
   clear j0 j1 j2 j3 hlw KC HS hc hn hSS hZ l1 l2 hk HJ
   cases k with
   | true =>
    go_wp2_with (first
     | (go_at_call 56; (with_reducible refine HKC.out.mono ?_); rintro e w1 ⟨rfl, hb1⟩; have HB1 := hidC hb1; clear hb1)
     | (go_at_call 57; (with_reducible refine (HKT.out _ HB1.out).mono ?_); rintro e w2 ⟨rfl, c', st', x0, x1, x2, x3, h2, b2, -⟩; have H2 := hidC (And.intro h2 b2); clear h2 b2))
    go_ret
    exact ⟨false, c', ln + 1, st', x0, x1, x2, x3, rfl, H2.out.1, HJ3.out _ _ HB1.out H2.out.2, HO.out c'⟩
   | false =>
    go_wp2_with (first
     | (go_at_call 56; (with_reducible refine HKC.out.mono ?_); rintro e w1 ⟨rfl, hb1⟩; have HB1 := hidC hb1; clear hb1)
     | (go_at_call 57; (with_reducible refine (HKT.out _ HB1.out).mono ?_); rintro e w2 ⟨rfl, c', st', x0, x1, x2, x3, h2, b2, -⟩; have H2 := hidC (And.intro h2 b2); clear h2 b2))
    go_ret
    exact ⟨false, c', ln + 1, st', x0, x1, x2, x3, rfl, H2.out.1, HJ3.out _ _ HB1.out H2.out.2, HO.out c'⟩
  ·rw [hc] at KC
   obtain ⟨X, hX⟩ : ∃ Z : ByteArray, sof x = Z := ⟨_, rfl⟩
   obtain ⟨Y, hY⟩ : ∃ Z : ByteArray, sof y = Z := ⟨_, rfl⟩
   have hbX : bs X = x := by rw [← hX]; exact bs_of _
   have hbY : bs Y = y := by rw [← hY]; exact bs_of _
   simp only [hX, hY] at KC
   have HKC := hidC KC
   obtain ⟨l1, l2⟩ := j1.lens HT.out
   have hlen : S.size = X.size + Y.size + 1 := by rw [← bs_length, hs, ← hbX, ← hbY]; simp [bs_length]; omega
   have HKT : Hid (∀ v, Below wr.heap.size wr v → _) := fun v hv => atake2_any E B m0 m1 m2 m3 m4 c ln st y0 y1 y2 y3 X (by omega) v (HLL.out.below (j3.trans (hv.mono hlw.le))) (j2.below hv) l1 j1.sort l2
   rw [hbX] at HKT
   obtain ⟨k, hk⟩ : ∃ k, okA ln st c x = k := ⟨_, rfl⟩
   rw [hk] at HKT
   rw [hs] at j1
   have HJ3 : Hid (∀ v v', Below wr.heap.size wr v → Below E v v' → Below E w v') := fun v v' a b => (j3.trans (a.mono hlw.le)).trans b
   have HLE := hidC hlen
   have HJ0 := hidC j0
   cases k with
   | false =>
    have HO : Hid (∀ c', ReadT t false (ln + 1) c') := fun c' => by
     unfold okA at hk
     by_cases q : ln = 0
     ·subst q
      rw [if_pos rfl] at hk
      exact j1.head hx (by simpa using hk)
     ·rw [if_neg q] at hk
      exact j1.wrong hx q (by simpa using hk)
    clear j0 j1 j2 j3 hlw KC HS hc hx hX hY l1 l2 hk HJ hs hbX hbY hlen
    go_wp2_with (first
     | (go_at_call 56; (with_reducible refine HKC.out.mono ?_); rintro e w1 ⟨rfl, hb1⟩; have HB1 := hidC hb1; clear hb1)
     | (go_at_call 57; (with_reducible refine (HKT.out _ HB1.out).mono ?_); rintro e w2 ⟨rfl, c', st', x0, x1, x2, x3, h2, b2, -⟩; have H2 := hidC (And.intro h2 b2); clear h2 b2))
    go_ret
    exact ⟨false, c', ln + 1, st', x0, x1, x2, x3, rfl, H2.out.1, HJ3.out _ _ HB1.out H2.out.2, HO.out c'⟩
   | true =>
    have HN : Hid (∀ (n : Nat) (c' : Cd), nxA ln st c x n c' → (y = [] → ReadT t true (ln + 1) c') ∧ (y ≠ [] → GoI t (ln + 1) n c' y)) := fun n c' hn => by
     unfold okA at hk
     by_cases q : ln = 0
     ·subst q
      rw [if_pos rfl] at hk
      have hxh : x = headB := by simpa using hk
      obtain ⟨rfl, rfl⟩ := hn.1 rfl
      subst hxh
      exact ⟨fun e => by subst e; exact j1.firstEnd, fun e => j1.first e⟩
     ·have hst := hn.2 q
      exact ⟨fun e => by subst e; exact j1.last hx q hst, fun e => j1.next hx q hst e⟩
    by_cases q : y = []
    ·have hYz : Y = ⟨#[]⟩ := by rw [← hY, q]; rfl
     subst hYz
     have HQ := hidC q
     clear j0 j1 j2 j3 hlw KC HS hc hx hX hY l1 l2 hk HJ hs hbX hbY hlen q
     go_wp2_with (first
      | (go_at_call 56; (with_reducible refine HKC.out.mono ?_); rintro e w1 ⟨rfl, hb1⟩; have HB1 := hidC hb1; clear hb1)
      | (go_at_call 57; (with_reducible refine (HKT.out _ HB1.out).mono ?_); rintro e w2 ⟨rfl, c', st', x0, x1, x2, x3, h2, b2, g2⟩; have H2 := hidC (And.intro h2 (And.intro b2 g2)); clear h2 b2 g2))
     go_ret
     obtain ⟨n, -, hn⟩ := H2.out.2.2 (by trivial)
     exact ⟨true, c', ln + 1, st', x0, x1, x2, x3, rfl, H2.out.1, HJ3.out _ _ HB1.out H2.out.2.1, (HN.out n c' hn).1 HQ.out⟩
    ·have e1 : (Y.toList == ([] : List UInt8)) = false := by
      have : Y.toList = y := by rw [ByteArray.toList_eq]; exact hbY
      rw [this]
      cases y with
      | nil => exact absurd rfl q
      | cons a r => rfl
     have e2 : (Y.toList == (⟨#[]⟩ : ByteArray).toList) = false := by rw [ByteArray.toList_eq (⟨#[]⟩ : ByteArray)]; exact e1
     have HQ := hidC q
     have HBY := hidC hbY
     clear j0 j1 j2 j3 hlw KC HS hc hx hX hY l1 l2 hk HJ hs hbX hbY hlen q
     go_wp2_with (first
      | (go_at_call 56; (with_reducible refine HKC.out.mono ?_); rintro e w1 ⟨rfl, hb1⟩; have HB1 := hidC hb1; clear hb1)
      | (go_at_call 57; (with_reducible refine (HKT.out _ HB1.out).mono ?_); rintro e w2 ⟨rfl, c', st', x0, x1, x2, x3, h2, b2, g2⟩; have H2 := hidC (And.intro h2 (And.intro b2 g2)); clear h2 b2 g2))
     go_roundw
     case rel =>
      obtain ⟨n, hn1, hn⟩ := H2.out.2.2 (by trivial)
      refine ⟨ln + 1, n, c', Y, x0, x1, x2, x3, rfl, ?_, ?_, ?_, HJ3.out _ _ HB1.out H2.out.2.1⟩
      ·have := HLE.out; have := HJ0.out; omega
      ·rw [HBY.out]; exact (HN.out n c' hn).2 HQ.out
      ·rw [← hn1]; exact H2.out.1
     case measure => show Y.size < S.size; have := HLE.out; omega
set_option maxRecDepth 100000 in
set_option maxHeartbeats 4000000 in
theorem alineOf_any (E B m0 m1 m2 m3 m4 : Nat) (c : Cd) (ln : Nat) (st : Int) (u0 u1 u2 u3 : Value) (p : Int) (w : World) (h : RdA E B m0 m1 m2 m3 m4 w c (ln : Int) st u0 u1 u2 u3) (hln : ln ≤ 4194304) (hc : c.list.length ≤ ln) :
  Calls Tryz.prog 24 #[.pointer (some ⟨B, 0, none⟩), .int .i64 p] w fun e w' => e = .returned (.int .i64 (lineA (ln : Int) c p)) ∧ w' = w := by
 obtain ⟨p3, q3, hu3⟩ := h.lenI
 unfold lineA
 obtain ⟨N, hN⟩ : ∃ N, c.list.length = N := ⟨_, rfl⟩
 rw [hN] at hu3 hc ⊢
 have v3 : w.cell? ⟨B, 3, none⟩ = some (.slice p3 N q3) := by rw [h.row.cell (i := 3) (by decide), ← hu3]; rfl
 have v4 : w.cell? ⟨B, 4, none⟩ = some (.int .i64 (ln : Int)) := h.row.cell (i := 4) (by decide)
 clear h hu3 hN
 by_cases h1 : p < 0
 ·have h2 : isPl p N = false := by simp [isPl]; omega
  rw [h2]
  go_enter Tryz.func24, Tryz.ntmps24
  go_wp2
  go_ret
  exact ⟨rfl, rfl⟩
 by_cases h2 : p < (N : Int)
 ·have h3 : isPl p N = true := by simp [isPl]; omega
  have h4 : ¬ (N : Int) ≤ p := by omega
  have w1 : IntKind.i64.wrap ((ln : Int) - (N : Int)) = (ln : Int) - (N : Int) := by rw [IntKind.wrap_i64]; omega
  have w2 : IntKind.i64.wrap ((ln : Int) - (N : Int) + p) = (ln : Int) - (N : Int) + p := by rw [IntKind.wrap_i64]; omega
  have w3 : IntKind.i64.wrap ((ln : Int) - (N : Int) + p + 1) = (ln : Int) - (N : Int) + p + 1 := by rw [IntKind.wrap_i64]; omega
  rw [h3]
  clear h3 hln hc
  go_enter Tryz.func24, Tryz.ntmps24
  go_wp2
  go_ret
  exact ⟨rfl, rfl⟩
 ·have h3 : isPl p N = false := by simp [isPl]; omega
  have h4 : (N : Int) ≤ p := by omega
  rw [h3]
  clear h3 hln hc
  go_enter Tryz.func24, Tryz.ntmps24
  go_wp2
  go_ret
  exact ⟨rfl, rfl⟩
end Go.Proofs.YtgcmnkanjcfndaaGreatDoor
