import Derived.Test.YtgcmnkanjcfndaaGreatDoorTxt1
import Derived.Test.YtgcmnkanjcfndaaGreatDoorTxt15
import Derived.OrdersHeld
import Derived.Deep.DeepCutAuto
namespace Go.Proofs.YtgcmnkanjcfndaaGreatDoor
open Go.RowKit
set_option linter.unusedVariables false
set_option linter.unusedSimpArgs false
set_option maxRecDepth 100000 in
set_option maxHeartbeats 4000000 in
theorem ahasN_any (op : Nat) (w : World) :
  Calls Tryz.prog 83 #[.int .i64 (op : Int)] w fun e w' => e = .returned (.bool (nmB op)) ∧ w' = w := by
 by_cases q : op = 2 ∨ op = 29 ∨ op = 30 ∨ op = 31 ∨ op = 32 ∨ op = 33 ∨ op = 36
 ·have HT : Hid (nmB op = true) := by show nmB op = _; unfold nmB; simp [q]
  rw [HT.out]
  clear HT
  rcases q with rfl | rfl | rfl | rfl | rfl | rfl | rfl
  all_goals
   go_enter Tryz.func83, Tryz.ntmps83
   go_wp2
   refine bodyPost_ret (by simp [results, Tryz.results83, go_sem, *]; try rfl) rfl ?_
   exact ⟨rfl, rfl⟩
 ·have HT : Hid (nmB op = false) := by show nmB op = _; unfold nmB; simp [q]
  rw [HT.out]
  have a1 : ((op : Int) == 2) = false := by simp; omega
  have a2 : ((op : Int) == 29) = false := by simp; omega
  have a3 : ((op : Int) == 30) = false := by simp; omega
  have a4 : ((op : Int) == 31) = false := by simp; omega
  have a5 : ((op : Int) == 32) = false := by simp; omega
  have a6 : ((op : Int) == 33) = false := by simp; omega
  have a7 : ((op : Int) == 36) = false := by simp; omega
  clear HT q
  go_enter Tryz.func83, Tryz.ntmps83
  go_wp2
  refine bodyPost_ret (by simp [results, Tryz.results83, go_sem, *]; try rfl) rfl ?_
  exact ⟨rfl, rfl⟩
set_option maxRecDepth 100000 in
set_option maxHeartbeats 4000000 in
theorem ahasB_any (op : Nat) (w : World) :
  Calls Tryz.prog 84 #[.int .i64 (op : Int)] w fun e w' => e = .returned (.bool (decide (op = 1))) ∧ w' = w := by
 have e1 : ((op : Int) == 1) = decide (op = 1) := by
  by_cases q : op = 1
  ·subst q; rfl
  ·simp [q]; omega
 go_enter Tryz.func84, Tryz.ntmps84
 go_wp2
 refine bodyPost_ret (by simp [results, Tryz.results84, go_sem, *]; try rfl) rfl ?_
 exact ⟨by first | rfl | rw [← e1], rfl⟩
def ptrN (LB : Nat) (os : List Nat) : List Value := os.map fun o => .pointer (some ⟨LB, o, none⟩)
theorem ptrN_app (LB : Nat) (a b : List Nat) : ptrN LB (a ++ b) = ptrN LB a ++ ptrN LB b := by simp [ptrN]
theorem info_PtrN : (Tryz.prog.info? 146).map (fun i => (i.zero, i.size, i.bytes)) = some (some (.pointer none), 1, 8) := by kernel_rfl
theorem app_ptrN {E LB : Nat} {V : World} {p : Option Addr} {q : Nat} {os : List Nat} (h : V.ownsRow E 146 1 (.slice p os.length q) os.length (ptrN LB os)) (hE : E ≤ V.heap.size) {RB d : Nat} (ns : List Nat) (hn : ∀ j (hj : j < ns.length), V.cell? ⟨RB, j, none⟩ = some (.pointer (some ⟨LB, ns[j], none⟩))) (hl : os.length + ns.length ≤ 1000000) (ty : TypeId) :
  ∃ p' q' w', (Builtin.append_ #[144, 144] ty #[.slice p os.length q, .slice (some ⟨RB, 0, none⟩) ns.length d]).run Tryz.prog V = .ok (.slice p' (os.length + ns.length) q') w' ∧ w'.ownsRow E 146 1 (.slice p' (os ++ ns).length q') (os ++ ns).length (ptrN LB (os ++ ns)) ∧ Below E V w' := by
 obtain ⟨i0, hi0, hz0, hz1, hz2⟩ := info_parts info_PtrN
 obtain ⟨v', w', hr, h2, h3, -, -⟩ := run_append_own_at (P := Tryz.prog) V E 144 ty 146 i0 _ 1 8 Tryz.underlying144 hi0 hz0 hz1 hz2 rfl (by decide) (.slice p os.length q) os.length (ptrN LB os) h ⟨RB, 0, none⟩ ns.length d (ptrN LB ns) (by simp [ptrN]) (fun j u hu => by
  have hj : j < ns.length := by have := (List.getElem?_eq_some_iff.1 hu).1; simpa [ptrN] using this
  have hadd : (⟨RB, 0, none⟩ : Addr).add j = ⟨RB, j, none⟩ := by unfold Addr.add; split <;> simp_all
  rw [hadd, hn j hj]
  simpa [ptrN, hj] using hu) (by simp [ptrN, Value.oneCell']) (by unfold maxLen; omega) (by omega) hE
 obtain ⟨p', q', rfl⟩ := own_len h2
 refine ⟨p', q', w', hr, ?_, (Below.refl E V).grown h3 hE (fun b e => (h.lt b e).1)⟩
 rw [List.length_append, ptrN_app]
 exact h2
theorem app_ptrN1 {E LB : Nat} {V : World} {p : Option Addr} {q : Nat} {os : List Nat} (h : V.ownsRow E 146 1 (.slice p os.length q) os.length (ptrN LB os)) (hE : E ≤ V.heap.size) (o : Nat) (hl : os.length + 1 ≤ 1000000) (ty : TypeId) :
  ∃ p' q' w', (Builtin.append_ #[144, 144] ty #[.slice p os.length q, .slice (some ⟨V.heap.size, 0, none⟩) 1 1]).run Tryz.prog (V.alloc (.cells #[.pointer (some ⟨LB, o, none⟩)] 146)) = .ok (.slice p' (os.length + 1) q') w' ∧ w'.ownsRow E 146 1 (.slice p' (os ++ [o]).length q') (os ++ [o]).length (ptrN LB (os ++ [o])) ∧ Below E V w' := by
 have hb0 : Below V.heap.size V (V.alloc (.cells #[.pointer (some ⟨LB, o, none⟩)] 146)) := bel_alloc _ _
 obtain ⟨p', q', w', h1, h2, h3⟩ := app_ptrN (LB := LB) (own_below h hb0) (Nat.le_trans hE hb0.size) (RB := V.heap.size) (d := 1) [o] (fun j hj => by
  have : j = 0 := by simp only [List.length_cons, List.length_nil] at hj; omega
  subst this
  simp [go_sem]) hl ty
 exact ⟨p', q', w', h1, h2, (hb0.mono hE).trans h3⟩
theorem reads_leN (i : Ins) : (readsP i (rowP i.op)).length ≤ 3 := by
 rw [reads_eq]
 have h1 := rd1_le (rowP i.op).a i.a
 have h2 := rd1_le (rowP i.op).b i.b
 have h3 := rd1_le (rowP i.op).c i.c
 simp only [List.length_append]
 omega
set_option maxRecDepth 100000 in
set_option maxHeartbeats 16000000 in
theorem regsOf_any (X : Nat) (i : Ins) (h1 : 0 ≤ i.op) (w : World) (hc : CellsAt w X 0 (inC i)) :
  Calls Tryz.prog 82 #[.pointer (some ⟨X, 0, none⟩)] w fun e w' => ∃ q d, e = .returned (.slice q (rgO i).length d) ∧ w'.ownsRow w.heap.size 146 1 (.slice q (rgO i).length d) (rgO i).length (ptrN X (rgO i)) ∧ Below w.heap.size w w' := by
 obtain ⟨E, hE⟩ : ∃ E, w.heap.size = E := ⟨_, rfl⟩
 have HE := hidC hE
 simp only [hE]
 have HRL := hidC (reads_leN i)
 obtain ⟨F, hF⟩ : ∃ F, rgO i = F := ⟨_, rfl⟩
 rw [hF]
 have HF : Hid ((if (rowP i.op).d != 0 then [1] else []) ++ [2, 3, 4].take (readsP i (rowP i.op)).length = F) := hF
 clear hF
 obtain ⟨op, d, a, b, e, n, z⟩ := i
 simp only at h1 HRL HF
 obtain ⟨O, hO⟩ : ∃ O : Nat, op = (O : Int) := ⟨op.toNat, by omega⟩
 subst hO
 have HYY : Hid (∀ v, Below E w v → v.cell? ⟨X, 0, none⟩ = some (.int .i64 (O : Int)) ∧ v.cell? ⟨X, 1, none⟩ = some (.int .i64 d) ∧ v.cell? ⟨X, 2, none⟩ = some (.int .i64 a) ∧ v.cell? ⟨X, 3, none⟩ = some (.int .i64 b) ∧ v.cell? ⟨X, 4, none⟩ = some (.int .i64 e) ∧ v.cell? ⟨X, 5, none⟩ = some (.int .i64 n) ∧ v.cell? ⟨X, 6, none⟩ = some (.int .u32 z)) := fun v hv => by
  rw [← hE] at hv
  have g : ∀ k x, (inC ⟨(O : Int), d, a, b, e, n, z⟩)[k]? = some x → v.cell? ⟨X, k, none⟩ = some x := fun k x hx => by
   have h9 := hc.at k hx
   rw [Nat.zero_add] at h9
   exact kc hv h9
  exact ⟨g 0 _ rfl, g 1 _ rfl, g 2 _ rfl, g 3 _ rfl, g 4 _ rfl, g 5 _ rfl, g 6 _ rfl⟩
 obtain ⟨y0, y1, y2, y3, y4, y5, y6⟩ := HYY.out w (Below.refl _ _)
 have KS := hidC (fun v => sets_any ⟨(O : Int), d, a, b, e, n, z⟩ v)
 have KR := hidC (fun v => reads_any ⟨(O : Int), d, a, b, e, n, z⟩ v)
 unfold insV at KS KR
 simp only at KS KR
 obtain ⟨rs, hrs⟩ : ∃ rs, readsP (⟨(O : Int), d, a, b, e, n, z⟩ : Ins) (rowP (O : Int)) = rs := ⟨_, rfl⟩
 simp only [hrs] at KR HRL HF
 obtain ⟨sb, hsb⟩ : ∃ sb, ((rowP (O : Int)).d != 0) = sb := ⟨_, rfl⟩
 simp only [hsb] at KS HF
 obtain ⟨P1, hP1⟩ : ∃ P, (if sb = true then [1] else [] : List Nat) = P := ⟨_, rfl⟩
 have HP1L : Hid (P1.length ≤ 1) := by rw [← hP1]; show _ ≤ _; split <;> simp
 have HP1 := hidC hP1
 rw [hP1] at HF
 obtain ⟨P2, hP2⟩ : ∃ P, P1 ++ [2, 3, 4].take rs.length = P := ⟨_, rfl⟩
 have HP2 := hidC hP2
 rw [hP2] at HF
 have HP2L : Hid (P2.length ≤ 4) := by
  rw [← hP2, List.length_append, List.length_take]
  have := HP1L.out
  show _ ≤ _
  simp only [List.length_cons, List.length_nil]
  omega
 have HEW : Hid (E ≤ w.heap.size) := by rw [hE]; exact Nat.le_refl _
 clear hc hE hrs hsb hP1 hP2 h1
 go_enter Tryz.func82, Tryz.ntmps82
 go_upto_if 8 with (go_at_call 114; (with_reducible refine (KS.out _).mono ?_); rintro e9 w4 ⟨rfl, hb4⟩; have HB4 : Hid (Below E w w4) := (by have h9 := hb4; rw [HE.out] at h9; exact h9); clear hb4)
 go_cut [3] (fun lv wx => ∃ (q : Option Addr) (d' : Nat), lv = .slice q P1.length d' ∧ Hid (Below E w wx ∧ E ≤ wx.heap.size ∧ wx.ownsRow E 146 1 (.slice q P1.length d') P1.length (ptrN X P1)))
 case first =>
  cases sb with
  | false =>
   obtain rfl : [] = P1 := HP1.out
   go_wp2
   go_meet
   exact ⟨none, 0, rfl, HB4.out, Nat.le_trans HEW.out HB4.out.size, World.ownsRow_nil _ _ _ 1⟩
  | true =>
   obtain rfl : [1] = P1 := HP1.out
   obtain ⟨p', q', w5, r1, r2, r3⟩ := app_ptrN1 (E := E) (LB := X) (V := w4) (p := none) (q := 0) (os := []) (World.ownsRow_nil _ _ _ 1) (Nat.le_trans HEW.out HB4.out.size) 1 (by decide) 144
   have HR1 := hidC r1
   have HR2 := hidC r2
   have HR3 := hidC r3
   clear r1 r2 r3
   go_wp2_with (at_builtin; refine wpList_app (by rfl) _ _ _ (by rfl) _ _ _ (by rfl) (by rfl) HR1.out ?_)
   go_meet
   exact ⟨p', q', rfl, HB4.out.trans HR3.out, Nat.le_trans (Nat.le_trans HEW.out HB4.out.size) HR3.out.size, HR2.out⟩
 case rest =>
  obtain ⟨q5, d5, rfl, HC5⟩ := hcut
  obtain ⟨hb5, hE5, ho5⟩ := HC5.out
  have HB5 := hidC hb5
  have HE5 := hidC hE5
  have HO5 := hidC ho5
  obtain ⟨u0, -⟩ := HYY.out wc hb5
  have lLB : X < wc.heap.size := mcell_lt u0
  have nLB : ¬ X = wc.heap.size := by omega
  have k0 : ∀ o, (wc.alloc o).cell? ⟨X, 0, none⟩ = some (.int .i64 (O : Int)) := fun o => kc (bel_alloc _ _) u0
  clear HC5 hb5 hE5 ho5 y0 y1 y2 y3 y4 y5 y6 KS HB4
  go_upto_region 4 with fail
  refine wp_region_held_drew (S := (fun v => v.cell? ⟨X, 0, none⟩ = some (.int .i64 (O : Int)))) (by kernel_rfl) ?_ (fun hHeld => ?_)
  ·((try dsimp only); go_keep)
  refine tkT 0 ?_
  refine tkT 1 ?_
  refine tkT 2 ?_
  refine tkT 3 ?_
  refine tkT 4 ?_
  refine tkT 5 ?_
  refine tkT 6 ?_
  refine tkT 7 ?_
  refine tkT 8 ?_
  refine tkT 9 ?_
  clear hHeld
  refine wpAnyH_ready (rs := [10]) (by kernel_rfl) (by simp) ?_
  refine AllReadyH.cons (i := 10) (by simp only [List.getElem?_toArray, List.getElem?_cons_succ, List.getElem?_cons_zero]; rfl) (fun K hK => ?_) AllReadyH.nil
  go_simp
  refine hK.out _ _ ?_ (fun hHeld => ?_)
  ·((try dsimp only); go_keep)
  clear hK K
  try simp only [Act.put, List.setIfInBounds_toArray, List.set_cons_zero, List.set_cons_succ]
  clear hHeld
  refine wpAnyH_ready (rs := [11]) (by kernel_rfl) (by simp) ?_
  refine AllReadyH.cons (i := 11) (by simp only [List.getElem?_toArray, List.getElem?_cons_succ, List.getElem?_cons_zero]; rfl) (fun K hK => ?_) AllReadyH.nil
  go_simp
  refine hK.out _ _ ?_ (fun hHeld => ?_)
  ·((try dsimp only); go_keep)
  clear hK K
  try simp only [Act.put, List.setIfInBounds_toArray, List.set_cons_zero, List.set_cons_succ]
  refine wpAnyH_done (by kernel_rfl) ?_ _
  obtain ⟨W6, hW6⟩ : ∃ W, (wc.alloc (.cells #[.pointer (some ⟨X, 2, none⟩), .pointer (some ⟨X, 3, none⟩), .pointer (some ⟨X, 4, none⟩)] 170)).drew = W := ⟨_, rfl⟩
  rw [hW6]
  have HB6 : Hid (Below wc.heap.size wc W6) := by rw [← hW6]; exact bel (bel_alloc _ _) (Below.refl _ _).drew
  have HX6 : Hid (∀ k (hk : k < 3), W6.cell? ⟨wc.heap.size, k, none⟩ = some (.pointer (some ⟨X, [2, 3, 4][k], none⟩))) := fun k hk => by
   rw [← hW6]
   rcases (show k = 0 ∨ k = 1 ∨ k = 2 by omega) with rfl | rfl | rfl <;> simp [go_sem]
  have HBW : Hid (Below E w W6) := HB5.out.trans (HB6.out.mono HE5.out)
  obtain ⟨y0, y1, y2, y3, y4, y5, y6⟩ := HYY.out W6 HBW.out
  obtain ⟨m, hm⟩ : ∃ m, rs.length = m := ⟨_, rfl⟩
  have HNS : Hid (([2, 3, 4].take rs.length).length = m) := by show _ = _; have := HRL.out; rw [List.length_take]; simp only [List.length_cons, List.length_nil]; omega
  have HMM : Hid (m ≤ 3) := by rw [← hm]; exact HRL.out
  have m3 : (m : Int) ≤ 3 := by have := HMM.out; omega
  have m4 : m ≤ 3 := HMM.out
  have m5 : (0 : Int) ≤ (m : Int) := by omega
  simp only [hm] at KR
  clear hW6 hm u0 k0
  go_upto_region 5 with fail
  go_wp2_with (first
   | (go_at_call 115; (with_reducible refine (KR.out _).mono ?_); rintro e9 w7 ⟨v7, rfl, ho7, hb7⟩; obtain ⟨p7, q7, rfl⟩ := own_len ho7; have HB7 := hidC hb7; obtain ⟨p', q', w8, r1, r2, r3⟩ := app_ptrN (LB := X) (RB := wc.heap.size) (d := 3) (own_below HO5.out (bel HB6.out HB7.out)) (Nat.le_trans HE5.out (bel HB6.out HB7.out).size) ([2, 3, 4].take rs.length) (fun k hk => by
     have h9 : k < 3 := by have := HNS.out; have := HMM.out; omega
     rw [List.getElem_take]
     exact kc HB7.out (HX6.out k h9)) (by have := HNS.out; have := HMM.out; have := HP1L.out; omega) 144; rw [HP2.out] at r2; rw [HNS.out] at r1; have HR1 := hidC r1; have HR2 := hidC r2; have HR3 := hidC r3; clear r1 r2 r3 ho7 hb7)
   | (at_builtin; refine wpList_app (by rfl) _ _ _ (by rfl) _ _ _ (by rfl) (by rfl) HR1.out ?_))
  have HBX : Hid (Below E w w8) := (HBW.out.trans (HB7.out.mono (Nat.le_trans HE5.out HB6.out.size))).trans HR3.out
  have hpl : P1.length + m = P2.length := by rw [← HP2.out, List.length_append, HNS.out]
  have HFF : Hid (F = P2) := HF.out.symm
  have HPL := hidC hpl
  clear hpl
  refine bodyPost_ret (by simp [results, Tryz.results82, go_sem, *]; try rfl) rfl ?_
  rw [HFF.out]
  exact ⟨_, _, by rw [HPL.out], HR2.out, HBX.out⟩
end Go.Proofs.YtgcmnkanjcfndaaGreatDoor
namespace Go.Proofs.YtgcmnkanjcfndaaGreatDoor
open Go.RowKit
set_option linter.unusedVariables false
set_option linter.unusedSimpArgs false
theorem RdA.lenS {E B m0 m1 m2 m3 m4 : Nat} {w : World} {c : Cd} {ln st : Int} {u0 u1 u2 u3 : Value} (h : RdA E B m0 m1 m2 m3 m4 w c ln st u0 u1 u2 u3) : ∃ p q, u2 = .slice p c.slots.length q := own_len h.own.slots
theorem put5_01 {V : World} {C : Nat} {t : TypeId} {a0 a1 a2 a3 a4 : Value} (rc : V.rowIs C t 5 (g5 a0 a1 a2 a3 a4)) (v v' : Value) : ((V.setCell ⟨C, 0, none⟩ v).setCell ⟨C, 1, none⟩ v').rowIs C t 5 (g5 v v' a2 a3 a4) ∧ PutR C V ((V.setCell ⟨C, 0, none⟩ v).setCell ⟨C, 1, none⟩ v') := by
 refine ⟨((rc.set 0 v).set 1 v').congr fun j hj => ?_, (PutR.one C 0 V v).trans (PutR.one C 1 _ v')⟩
 rcases (show j = 0 ∨ j = 1 ∨ j = 2 ∨ j = 3 ∨ j = 4 by omega) with rfl | rfl | rfl | rfl | rfl <;> rfl
set_option maxRecDepth 100000 in
set_option maxHeartbeats 16000000 in
theorem rslot_any (E B WB m0 m1 m2 m3 m4 : Nat) (c : Cd) (ln st : Int) (u0 u1 u2 u3 : Value) (ws : List Bs) (w : World) (hL : LaidE E w) (hE : E ≤ WB) (h : RdA E B m0 m1 m2 m3 m4 w c ln st u0 u1 u2 u3) (hw : WdM WB ws false w) (ha : (nxW ws).1 = slotB) (hl : c.slots.length ≤ 4194304) :
  Calls Tryz.prog 89 #[.pointer (some ⟨B, 0, none⟩), .pointer (some ⟨WB, 0, none⟩)] w (LineT E B WB m0 m1 m2 m3 m4 ln st ((slotLn c.slots.length ws).map fun l => ⟨c.sign, c.regs, c.slots ++ [l], c.list⟩) w) := by
 have HA := hidC ha
 have HLn := hidC hl
 have HX := hidC (And.intro hE (And.intro hL h))
 have K1 := hidC (wnext_any WB ws false w hL.laid hw)
 have hlE := hL.le
 have HLE := hidC hlE
 have HW := hidC hw
 clear h hw hL hE ha hl hlE
 go_enter Tryz.func89, Tryz.ntmps89
 go_upto_region 1 with (go_at_call 118; (with_reducible refine K1.out.mono ?_); rintro e w1 ⟨U, rfl, hU, hU2, h1, k1⟩; have H1 := hidC (And.intro h1 k1); clear h1 k1 hU hU2)
 obtain ⟨T0, -, -, hrow0⟩ := HW.out.row
 have hd1 := H1.out.1.below (bel_d w1)
 have hR1 := (HX.out.2.2.ofB hrow0 H1.out.2).below (bel_d w1)
 have hL1 := (HX.out.2.1.ofB HX.out.1 H1.out.2).below ((bel_d w1).mono (HX.out.2.1.ofB HX.out.1 H1.out.2).le)
 have KN := hidC (wnum_any WB (nxW ws).2 false w1.drew hL1.laid hd1 (fun v k => (hL1.ofB HX.out.1 k).laid))
 have HO1 := hidC (And.intro hd1 (And.intro hR1 hL1))
 obtain ⟨N, hN⟩ : ∃ N, c.slots.length = N := ⟨_, rfl⟩
 obtain ⟨p1, q1, hu1⟩ := hR1.lenS
 rw [hN] at hu1
 have v1 : w1.drew.cell? ⟨B, 2, none⟩ = some (.slice p1 N q1) := by rw [hR1.row.cell (i := 2) (by decide), ← hu1]; rfl
 have HN := hidC (And.intro hN hu1)
 clear hd1 hR1 hL1 hrow0 hN hu1
 have v1' : w1.cell? ⟨B, 2, none⟩ = some (.slice p1 N q1) := by simpa using v1
 refine wp_region_held_drew (S := (fun v => v.cell? ⟨B, 2, none⟩ = some (.slice p1 N q1))) (by kernel_rfl) ?_ (fun hHeld => ?_)
 ·((try dsimp only); go_keep)
 refine tkT 0 ?_
 refine tkT 1 ?_
 refine tkT 3 ?_
 refine tkT 4 ?_
 refine tkT 5 ?_
 refine tkT 6 ?_
 refine tkT 7 ?_
 refine tkT 8 ?_
 clear hHeld
 refine wpAnyH_ready (rs := [2]) (by kernel_rfl) (by simp) ?_
 refine AllReadyH.cons (i := 2) (by simp only [List.getElem?_toArray, List.getElem?_cons_succ, List.getElem?_cons_zero]; rfl) (fun K hK => ?_) AllReadyH.nil
 go_simp
 (go_at_call 121; (with_reducible refine KN.out.mono ?_); rintro e w2 ⟨n, rfl, hm, h2, k2⟩; have H2 := hidC (And.intro h2 (And.intro k2 hm)); clear h2 k2 hm)
 have hR2 := hidC (HO1.out.2.1.ofB (HO1.out.1.row.choose_spec.2.2) H2.out.2.1)
 have v2 : w2.cell? ⟨B, 2, none⟩ = some (.slice p1 N q1) := by rw [hR2.out.row.cell (i := 2) (by decide), ← HN.out.2]; rfl
 clear v1 v1'
 try (go_wp2_with fail)
 refine hK.out _ _ ?_ (fun hHeld => ?_)
 ·((try dsimp only); go_keep)
 clear hK K
 try simp only [Act.put, List.setIfInBounds_toArray, List.set_cons_zero, List.set_cons_succ]
 refine tkT 9 ?_
 clear hHeld
 refine wpAnyH_ready (rs := [10]) (by kernel_rfl) (by simp) ?_
 refine AllReadyH.cons (i := 10) (by simp only [List.getElem?_toArray, List.getElem?_cons_succ, List.getElem?_cons_zero]; rfl) (fun K hK => ?_) AllReadyH.nil
 go_simp
 (go_at_call 122; (with_reducible refine (whold_any WB _ _ _ _ H2.out.1).mono ?_); rintro e w3 ⟨rfl, h3, k3⟩; have H3 := hidC (And.intro h3 k3); clear h3 k3)
 have hR3 := hidC (hR2.out.ofB (H2.out.1.row.choose_spec.2.2) H3.out.2)
 have v3 : w3.cell? ⟨B, 2, none⟩ = some (.slice p1 N q1) := by rw [hR3.out.row.cell (i := 2) (by decide), ← HN.out.2]; rfl
 clear v2
 try (go_wp2_with fail)
 refine hK.out _ _ ?_ (fun hHeld => ?_)
 ·((try dsimp only); go_keep)
 clear hK K
 try simp only [Act.put, List.setIfInBounds_toArray, List.set_cons_zero, List.set_cons_succ]
 refine wpAnyH_done (by kernel_rfl) ?_ _
 obtain ⟨T9, -, -, hrow9⟩ := HW.out.row
 have HROW0 := hidC hrow9
 clear hrow9 v3
 have HO3 : Hid (OfB WB w w3) := ((H1.out.2.trans (OfB.of (bel_d w1))).trans H2.out.2.1).trans H3.out.2
 have HL3 := hidC (HX.out.2.1.ofB HX.out.1 HO3.out)
 have hR3' := HX.out.2.2.ofB HROW0.out HO3.out
 have KM := wmean_any WB m3 _ _ (meanA keepL 2) w3 HL3.out.laid H3.out.1 hR3'.maps.keeps.1
 have v9 : w3.cell? ⟨B, 9, none⟩ = some (.map (some m3)) := hR3'.row.cell (i := 9) (by decide)
 obtain ⟨n2, hn2⟩ : ∃ n2 : Int, (((meanA keepL 2 (nxW (nxW (nxW ws).2).2).1).getD 0 : Nat) : Int) = n2 := ⟨_, rfl⟩
 rw [hn2] at KM
 have HKM := hidC KM
 have HN2 := hidC hn2
 clear KM hn2 hR3'
 go_upto_region 3 with (go_at_call 120; (with_reducible refine HKM.out.mono ?_); rintro e w4 ⟨rfl, h4, k4⟩; have H4 := hidC (And.intro h4 k4); clear h4 k4; clear v9)
 obtain ⟨kb, hkb⟩ : ∃ kb, (n2 == 1) = kb := ⟨_, rfl⟩
 try simp only [hkb]
 obtain ⟨V4, hV4⟩ : ∃ V, w4.alloc (.cells #[.int .i64 0, .int .i64 0, .bool kb, .int .u32 0, .int .i64 0] 60) = V := ⟨_, rfl⟩
 rw [hV4]
 have hp := q5_new w4 60 (.int .i64 0) (.int .i64 0) (.bool kb) (.int .u32 0) (.int .i64 0)
 have hb := bel_alloc w4 (.cells #[.int .i64 0, .int .i64 0, .bool kb, .int .u32 0, .int .i64 0] 60)
 rw [hV4] at hp hb
 have HO4 : Hid (OfB WB w V4) := (HO3.out.trans H4.out.2).trans (OfB.of hb)
 have HW4 := hidC (H4.out.1.below hb)
 have l4 : w.heap.size ≤ w4.heap.size := (HO3.out.trans H4.out.2).size
 have lW := HW.out.lt
 obtain ⟨X, hX⟩ : ∃ X, w4.heap.size = X := ⟨_, rfl⟩
 rw [hX] at hp l4
 simp only [hX]
 have HXW : Hid (w.heap.size ≤ X ∧ WB < X ∧ X ≠ WB) := ⟨l4, by omega, by omega⟩
 have HRX := hidC hp
 have HKB : Hid (kb = decide ((meanA keepL 2 (nxW (nxW (nxW ws).2).2).1).getD 0 = 1)) := by
  show kb = _
  rw [← hkb, ← HN2.out]
  generalize (meanA keepL 2 (nxW (nxW (nxW ws).2).2).1).getD 0 = j
  by_cases q : j = 1
  ·subst q; rfl
  ·simp [q]; omega
 have HL4 := hidC (HX.out.2.1.ofB HX.out.1 HO4.out)
 have KT := hidC (typed_any E B WB m0 m1 m2 m3 m4 c ln st u0 u1 u2 u3 _ _ V4 HL4.out HX.out.1 (HX.out.2.2.ofB HROW0.out HO4.out) HW4.out)
 clear hp hb l4 lW hkb hX hV4
 go_upto_region 4 with (go_at_call 123; (with_reducible refine KT.out.mono ?_); rintro e w5 ⟨⟨tk, tp⟩, ws5, b5, rfl, h5, k5, ht5⟩; have H5 := hidC (And.intro h5 (And.intro k5 ht5)); clear h5 k5 ht5; have y5 := HRX.out.of_block (H5.out.2.1.oth _ HRX.out.lt HXW.out.2.2); have HY5 := hidC y5; obtain ⟨x0, x1, x2, x3, x4⟩ := c5 y5; obtain ⟨f0, f1, f2, f3, f4⟩ := z5 y5; clear y5)
 obtain ⟨V5, hV5⟩ : ∃ V, (w5.setCell ⟨X, 0, none⟩ (.int .i64 tk)).setCell ⟨X, 1, none⟩ (.int .i64 tp) = V := ⟨_, rfl⟩
 rw [hV5]
 have hp5 := put5_01 HY5.out (.int .i64 tk) (.int .i64 tp)
 rw [hV5] at hp5
 have HO5 : Hid (OfB WB w V5) := (HO4.out.trans H5.out.2.1).putN hp5.2 HXW.out.1
 have HW5 := hidC (H5.out.1.putN hp5.2 (Ne.symm HXW.out.2.2))
 have HRX5 := hidC hp5.1
 have HL5 := hidC (HX.out.2.1.ofB HX.out.1 HO5.out)
 have HT5 := hidC H5.out.2.2
 clear x0 x1 x2 x3 x4 f0 f1 f2 f3 f4 hV5 hp5
 obtain ⟨x0, -, -, -, -⟩ := c5 HRX5.out
 by_cases q2 : tk = 2
 ·subst q2
  have HQ : Hid ((2 : Int) = 2) := rfl
  have KN := hidC (wnum_any WB ws5 b5 V5 HL5.out.laid HW5.out (fun v k => (HL5.out.ofB HX.out.1 k).laid))
  go_upto_region 7 with (go_at_call 121; (with_reducible refine KN.out.mono ?_); rintro e w6 ⟨m, rfl, hm, h6, k6⟩; have H6 := hidC (And.intro h6 (And.intro k6 hm)); clear h6 k6 hm; have y6 := HRX5.out.of_block (H6.out.2.1.oth _ HRX5.out.lt HXW.out.2.2); have HY6 := hidC y6; clear x0; obtain ⟨x0, x1, x2, x3, x4⟩ := c5 y6; obtain ⟨f0, f1, f2, f3, f4⟩ := z5 y6; clear y6)
  obtain ⟨V, hV⟩ : ∃ V, w6.setCell ⟨X, 4, none⟩ (.int .i64 m) = V := ⟨_, rfl⟩
  have hp6 := put5_4 HY6.out (.int .i64 m)
  rw [hV] at hp6
  rw [hV]
  have HO6 : Hid (OfB WB w V) := (HO5.out.trans H6.out.2.1).putN hp6.2 HXW.out.1
  have HWD6 : Hid (WdM WB (nxW ws5).2 (b5 || !(numW (nxW ws5).1).isSome) V) := H6.out.1.putN hp6.2 (Ne.symm HXW.out.2.2)
  have hpd := hp6.1.of_block (w' := V.drew) rfl
  clear x0 x1 x2 x3 x4 f0 f1 f2 f3 f4 hV
  obtain ⟨x0, x1, x2, x3, x4⟩ := c5 hpd
  have HOD : Hid (OfB WB w V.drew) := HO6.out.trans (OfB.of (bel_d V))
  have HWDd : Hid (WdM WB (nxW ws5).2 (b5 || !(numW (nxW ws5).1).isSome) V.drew) := HWD6.out.below (bel_d V)
  have HRD : Hid (RdA E B m0 m1 m2 m3 m4 V.drew c ln st u0 u1 u2 u3) := HX.out.2.2.ofB HROW0.out HOD.out
  have bx0 : (V.drew.alloc (.cells #[.int .i64 2, .int .i64 tp, .bool kb, .int .u32 0, .int .i64 m] 60)).cell? ⟨X, 0, none⟩ = some (.int .i64 2) := kc (bel_alloc _ _) x0
  have HEND : Hid (SayT ((slotLn c.slots.length ws).map fun l => ⟨c.sign, c.regs, c.slots ++ [l], c.list⟩) ⟨c.sign, c.regs, c.slots ++ [⟨⟨2, tp⟩, kb, 0, m⟩], c.list⟩ (nxW ws5).2 (b5 || !(numW (nxW ws5).1).isSome)) := by
   refine slot_end (m := n) (t := ⟨2, tp⟩) HA.out H2.out.2.2 (by rw [HN.out.1]; exact HT5.out) rfl HKB.out ?_
   refine (if_pos (show (2 : Int) = 2 from rfl)).mpr ?_; exact ⟨H6.out.2.2, rfl, rfl, rfl⟩
  clear hpd hp6
  obtain ⟨g, q, w8, hrun, hrow8, hrd8, hwd8, hbe8⟩ := HRD.out.slot HWDd.out ⟨⟨2, tp⟩, kb, 0, m⟩ (by have := HLn.out; omega) 24
  have H8 := hidC (And.intro hrd8 (And.intro hwd8 hbe8))
  clear hrd8 hwd8 hbe8
  rw [HN.out.2, HN.out.1] at hrun
  have hrun5 : (Builtin.append_ #[24, 24] 24 #[.slice p1 N q1, .slice (some ⟨V.drew.heap.size, 0, none⟩) 1 1]).run Tryz.prog (V.drew.alloc (.cells #[.int .i64 2, .int .i64 tp, .bool kb, .int .u32 0, .int .i64 m] 60)) = .ok (.slice (some ⟨g, 0, none⟩) (N + 1) q) w8 := hrun
  have HRUN := hidC hrun5
  clear hrun hrun5
  have z8 := hrow8.frozen 2
  have c8 := hrow8.cell (i := 2) (by decide)
  have c8' : w8.cell? ⟨B, 2, none⟩ = some u2 := c8
  rw [HN.out.2] at c8'
  clear c8 hrow8
  have vd : V.drew.cell? ⟨B, 2, none⟩ = some (.slice p1 N q1) := by rw [HRD.out.row.cell (i := 2) (by decide), ← HN.out.2]; rfl
  have va : (V.drew.alloc (.cells #[.int .i64 2, .int .i64 tp, .bool kb, .int .u32 0, .int .i64 m] 60)).cell? ⟨B, 2, none⟩ = some (.slice p1 N q1) := kc (bel_alloc _ _) vd
  have va' : (V.alloc (.cells #[.int .i64 2, .int .i64 tp, .bool kb, .int .u32 0, .int .i64 m] 60)).drew.cell? ⟨B, 2, none⟩ = some (.slice p1 N q1) := va
  refine wp_region_held_drew (S := (fun _ => True)) (by kernel_rfl) ?_ (fun hHeld => ?_)
  ·trivial
  refine tkT 0 ?_
  refine tkT 1 ?_
  refine tkT 2 ?_
  refine tkT 3 ?_
  refine tkT 4 ?_
  clear hHeld
  refine wpAnyH_ready (rs := [5, 6]) (by kernel_rfl) (by simp) ?_
  refine AllReadyH.cons (i := 5) (by simp only [List.getElem?_toArray, List.getElem?_cons_succ, List.getElem?_cons_zero]; rfl) (fun K hK => ?_) ?_
  ·go_simp
   refine hK.out _ _ ?_ (fun hHeld => ?_)
   ·trivial
   clear hK K
   try simp only [Act.put, List.setIfInBounds_toArray, List.set_cons_zero, List.set_cons_succ]
   clear hHeld
   refine wpAnyH_ready (rs := [6]) (by kernel_rfl) (by simp) ?_
   refine AllReadyH.cons (i := 6) (by simp only [List.getElem?_toArray, List.getElem?_cons_succ, List.getElem?_cons_zero]; rfl) (fun K hK => ?_) AllReadyH.nil
   go_simp
   refine hK.out _ _ ?_ (fun hHeld => ?_)
   ·trivial
   clear hK K
   try simp only [Act.put, List.setIfInBounds_toArray, List.set_cons_zero, List.set_cons_succ]
   clear hHeld
   refine wpAnyH_ready (rs := [7]) (by kernel_rfl) (by simp) ?_
   refine AllReadyH.cons (i := 7) (by simp only [List.getElem?_toArray, List.getElem?_cons_succ, List.getElem?_cons_zero]; rfl) (fun K hK => ?_) AllReadyH.nil
   go_simp
   refine hK.out _ _ ?_ (fun hHeld => ?_)
   ·trivial
   clear hK K
   try simp only [Act.put, List.setIfInBounds_toArray, List.set_cons_zero, List.set_cons_succ]
   clear hHeld
   refine wpAnyH_ready (rs := [8]) (by kernel_rfl) (by simp) ?_
   refine AllReadyH.cons (i := 8) (by simp only [List.getElem?_toArray, List.getElem?_cons_succ, List.getElem?_cons_zero]; rfl) (fun K hK => ?_) AllReadyH.nil
   refine ready_appA _ _ _ _ (by rfl) _ _ _ (by rfl) (by rfl) HRUN.out ?_ _ (by rfl)
   refine hK.out _ _ ?_ (fun hHeld => ?_)
   ·trivial
   clear hK K
   try simp only [Act.put, List.setIfInBounds_toArray, List.set_cons_zero, List.set_cons_succ]
   refine tkT 9 ?_
   refine tkT 10 ?_
   refine tkT 11 ?_
   clear hHeld
   refine wpAnyH_ready (rs := [12]) (by kernel_rfl) (by simp) ?_
   refine AllReadyH.cons (i := 12) (by simp only [List.getElem?_toArray, List.getElem?_cons_succ, List.getElem?_cons_zero]; rfl) (fun K hK => ?_) AllReadyH.nil
   go_simp
   refine hK.out _ _ ?_ (fun hHeld => ?_)
   ·trivial
   clear hK K
   try simp only [Act.put, List.setIfInBounds_toArray, List.set_cons_zero, List.set_cons_succ]
   refine wpAnyH_done (by kernel_rfl) ?_ _
   refine bodyPost_end (by simp [results, Tryz.results89, go_sem, *]; try rfl) rfl ?_
   have r8 := H8.out.1
   have d8 := H8.out.2.1
   have e8 := H8.out.2.2
   rw [HN.out.1] at r8 d8 e8
   exact ⟨rfl, _, _, _, _, _, _, _, r8, d8, (HOD.out.bel E HX.out.1 HX.out.2.1.le).trans e8, HEND.out⟩
  refine AllReadyH.cons (i := 6) (by simp only [List.getElem?_toArray, List.getElem?_cons_succ, List.getElem?_cons_zero]; rfl) (fun K hK => ?_) AllReadyH.nil
  go_simp
  refine hK.out _ _ ?_ (fun hHeld => ?_)
  ·trivial
  clear hK K
  try simp only [Act.put, List.setIfInBounds_toArray, List.set_cons_zero, List.set_cons_succ]
  clear hHeld
  refine wpAnyH_ready (rs := [5, 7]) (by kernel_rfl) (by simp) ?_
  refine AllReadyH.cons (i := 5) (by simp only [List.getElem?_toArray, List.getElem?_cons_succ, List.getElem?_cons_zero]; rfl) (fun K hK => ?_) ?_
  ·go_simp
   refine hK.out _ _ ?_ (fun hHeld => ?_)
   ·trivial
   clear hK K
   try simp only [Act.put, List.setIfInBounds_toArray, List.set_cons_zero, List.set_cons_succ]
   clear hHeld
   refine wpAnyH_ready (rs := [7]) (by kernel_rfl) (by simp) ?_
   refine AllReadyH.cons (i := 7) (by simp only [List.getElem?_toArray, List.getElem?_cons_succ, List.getElem?_cons_zero]; rfl) (fun K hK => ?_) AllReadyH.nil
   go_simp
   refine hK.out _ _ ?_ (fun hHeld => ?_)
   ·trivial
   clear hK K
   try simp only [Act.put, List.setIfInBounds_toArray, List.set_cons_zero, List.set_cons_succ]
   clear hHeld
   refine wpAnyH_ready (rs := [8]) (by kernel_rfl) (by simp) ?_
   refine AllReadyH.cons (i := 8) (by simp only [List.getElem?_toArray, List.getElem?_cons_succ, List.getElem?_cons_zero]; rfl) (fun K hK => ?_) AllReadyH.nil
   refine ready_appA _ _ _ _ (by rfl) _ _ _ (by rfl) (by rfl) HRUN.out ?_ _ (by rfl)
   refine hK.out _ _ ?_ (fun hHeld => ?_)
   ·trivial
   clear hK K
   try simp only [Act.put, List.setIfInBounds_toArray, List.set_cons_zero, List.set_cons_succ]
   refine tkT 9 ?_
   refine tkT 10 ?_
   refine tkT 11 ?_
   clear hHeld
   refine wpAnyH_ready (rs := [12]) (by kernel_rfl) (by simp) ?_
   refine AllReadyH.cons (i := 12) (by simp only [List.getElem?_toArray, List.getElem?_cons_succ, List.getElem?_cons_zero]; rfl) (fun K hK => ?_) AllReadyH.nil
   go_simp
   refine hK.out _ _ ?_ (fun hHeld => ?_)
   ·trivial
   clear hK K
   try simp only [Act.put, List.setIfInBounds_toArray, List.set_cons_zero, List.set_cons_succ]
   refine wpAnyH_done (by kernel_rfl) ?_ _
   refine bodyPost_end (by simp [results, Tryz.results89, go_sem, *]; try rfl) rfl ?_
   have r8 := H8.out.1
   have d8 := H8.out.2.1
   have e8 := H8.out.2.2
   rw [HN.out.1] at r8 d8 e8
   exact ⟨rfl, _, _, _, _, _, _, _, r8, d8, (HOD.out.bel E HX.out.1 HX.out.2.1.le).trans e8, HEND.out⟩
  refine AllReadyH.cons (i := 7) (by simp only [List.getElem?_toArray, List.getElem?_cons_succ, List.getElem?_cons_zero]; rfl) (fun K hK => ?_) AllReadyH.nil
  go_simp
  refine hK.out _ _ ?_ (fun hHeld => ?_)
  ·trivial
  clear hK K
  try simp only [Act.put, List.setIfInBounds_toArray, List.set_cons_zero, List.set_cons_succ]
  clear hHeld
  refine wpAnyH_ready (rs := [5]) (by kernel_rfl) (by simp) ?_
  refine AllReadyH.cons (i := 5) (by simp only [List.getElem?_toArray, List.getElem?_cons_succ, List.getElem?_cons_zero]; rfl) (fun K hK => ?_) AllReadyH.nil
  go_simp
  refine hK.out _ _ ?_ (fun hHeld => ?_)
  ·trivial
  clear hK K
  try simp only [Act.put, List.setIfInBounds_toArray, List.set_cons_zero, List.set_cons_succ]
  clear hHeld
  refine wpAnyH_ready (rs := [8]) (by kernel_rfl) (by simp) ?_
  refine AllReadyH.cons (i := 8) (by simp only [List.getElem?_toArray, List.getElem?_cons_succ, List.getElem?_cons_zero]; rfl) (fun K hK => ?_) AllReadyH.nil
  refine ready_appA _ _ _ _ (by rfl) _ _ _ (by rfl) (by rfl) HRUN.out ?_ _ (by rfl)
  refine hK.out _ _ ?_ (fun hHeld => ?_)
  ·trivial
  clear hK K
  try simp only [Act.put, List.setIfInBounds_toArray, List.set_cons_zero, List.set_cons_succ]
  refine tkT 9 ?_
  refine tkT 10 ?_
  refine tkT 11 ?_
  clear hHeld
  refine wpAnyH_ready (rs := [12]) (by kernel_rfl) (by simp) ?_
  refine AllReadyH.cons (i := 12) (by simp only [List.getElem?_toArray, List.getElem?_cons_succ, List.getElem?_cons_zero]; rfl) (fun K hK => ?_) AllReadyH.nil
  go_simp
  refine hK.out _ _ ?_ (fun hHeld => ?_)
  ·trivial
  clear hK K
  try simp only [Act.put, List.setIfInBounds_toArray, List.set_cons_zero, List.set_cons_succ]
  refine wpAnyH_done (by kernel_rfl) ?_ _
  refine bodyPost_end (by simp [results, Tryz.results89, go_sem, *]; try rfl) rfl ?_
  have r8 := H8.out.1
  have d8 := H8.out.2.1
  have e8 := H8.out.2.2
  rw [HN.out.1] at r8 d8 e8
  exact ⟨rfl, _, _, _, _, _, _, _, r8, d8, (HOD.out.bel E HX.out.1 HX.out.2.1.le).trans e8, HEND.out⟩
 ·have HQ : Hid (¬ tk = 2) := q2
  have e2 : (tk == 2) = false := by simpa using q2
  clear q2
  have KN := hidC (wpat_any WB ws5 b5 V5 HL5.out.laid HW5.out)
  go_upto_region 7 with (go_at_call 124; (with_reducible refine KN.out.mono ?_); rintro e w6 ⟨m, rfl, hm, h6, k6⟩; have H6 := hidC (And.intro h6 (And.intro k6 hm)); clear h6 k6 hm; have y6 := HRX5.out.of_block (H6.out.2.1.oth _ HRX5.out.lt HXW.out.2.2); have HY6 := hidC y6; clear x0; obtain ⟨x0, x1, x2, x3, x4⟩ := c5 y6; obtain ⟨f0, f1, f2, f3, f4⟩ := z5 y6; clear y6)
  obtain ⟨V, hV⟩ : ∃ V, w6.setCell ⟨X, 3, none⟩ (.int .u32 m) = V := ⟨_, rfl⟩
  have hp6 := put5_3 HY6.out (.int .u32 m)
  rw [hV] at hp6
  rw [hV]
  have HO6 : Hid (OfB WB w V) := (HO5.out.trans H6.out.2.1).putN hp6.2 HXW.out.1
  have HWD6 : Hid (WdM WB (nxW ws5).2 (b5 || !(hexW (nxW ws5).1).isSome) V) := H6.out.1.putN hp6.2 (Ne.symm HXW.out.2.2)
  have hpd := hp6.1.of_block (w' := V.drew) rfl
  clear x0 x1 x2 x3 x4 f0 f1 f2 f3 f4 hV
  obtain ⟨x0, x1, x2, x3, x4⟩ := c5 hpd
  have HOD : Hid (OfB WB w V.drew) := HO6.out.trans (OfB.of (bel_d V))
  have HWDd : Hid (WdM WB (nxW ws5).2 (b5 || !(hexW (nxW ws5).1).isSome) V.drew) := HWD6.out.below (bel_d V)
  have HRD : Hid (RdA E B m0 m1 m2 m3 m4 V.drew c ln st u0 u1 u2 u3) := HX.out.2.2.ofB HROW0.out HOD.out
  have bx0 : (V.drew.alloc (.cells #[.int .i64 tk, .int .i64 tp, .bool kb, .int .u32 m, .int .i64 0] 60)).cell? ⟨X, 0, none⟩ = some (.int .i64 tk) := kc (bel_alloc _ _) x0
  have HEND : Hid (SayT ((slotLn c.slots.length ws).map fun l => ⟨c.sign, c.regs, c.slots ++ [l], c.list⟩) ⟨c.sign, c.regs, c.slots ++ [⟨⟨tk, tp⟩, kb, m, 0⟩], c.list⟩ (nxW ws5).2 (b5 || !(hexW (nxW ws5).1).isSome)) := by
   refine slot_end (m := n) (t := ⟨tk, tp⟩) HA.out H2.out.2.2 (by rw [HN.out.1]; exact HT5.out) rfl HKB.out ?_
   rw [if_neg HQ.out]; exact ⟨H6.out.2.2, rfl, rfl, rfl⟩
  clear hpd hp6
  obtain ⟨g, q, w8, hrun, hrow8, hrd8, hwd8, hbe8⟩ := HRD.out.slot HWDd.out ⟨⟨tk, tp⟩, kb, m, 0⟩ (by have := HLn.out; omega) 24
  have H8 := hidC (And.intro hrd8 (And.intro hwd8 hbe8))
  clear hrd8 hwd8 hbe8
  rw [HN.out.2, HN.out.1] at hrun
  have hrun5 : (Builtin.append_ #[24, 24] 24 #[.slice p1 N q1, .slice (some ⟨V.drew.heap.size, 0, none⟩) 1 1]).run Tryz.prog (V.drew.alloc (.cells #[.int .i64 tk, .int .i64 tp, .bool kb, .int .u32 m, .int .i64 0] 60)) = .ok (.slice (some ⟨g, 0, none⟩) (N + 1) q) w8 := hrun
  have HRUN := hidC hrun5
  clear hrun hrun5
  have z8 := hrow8.frozen 2
  have c8 := hrow8.cell (i := 2) (by decide)
  have c8' : w8.cell? ⟨B, 2, none⟩ = some u2 := c8
  rw [HN.out.2] at c8'
  clear c8 hrow8
  have vd : V.drew.cell? ⟨B, 2, none⟩ = some (.slice p1 N q1) := by rw [HRD.out.row.cell (i := 2) (by decide), ← HN.out.2]; rfl
  have va : (V.drew.alloc (.cells #[.int .i64 tk, .int .i64 tp, .bool kb, .int .u32 m, .int .i64 0] 60)).cell? ⟨B, 2, none⟩ = some (.slice p1 N q1) := kc (bel_alloc _ _) vd
  have va' : (V.alloc (.cells #[.int .i64 tk, .int .i64 tp, .bool kb, .int .u32 m, .int .i64 0] 60)).drew.cell? ⟨B, 2, none⟩ = some (.slice p1 N q1) := va
  refine wp_region_held_drew (S := (fun _ => True)) (by kernel_rfl) ?_ (fun hHeld => ?_)
  ·trivial
  refine tkT 0 ?_
  refine tkT 1 ?_
  refine tkT 2 ?_
  refine tkT 3 ?_
  refine tkT 4 ?_
  clear hHeld
  refine wpAnyH_ready (rs := [5, 6]) (by kernel_rfl) (by simp) ?_
  refine AllReadyH.cons (i := 5) (by simp only [List.getElem?_toArray, List.getElem?_cons_succ, List.getElem?_cons_zero]; rfl) (fun K hK => ?_) ?_
  ·go_simp
   refine hK.out _ _ ?_ (fun hHeld => ?_)
   ·trivial
   clear hK K
   try simp only [Act.put, List.setIfInBounds_toArray, List.set_cons_zero, List.set_cons_succ]
   clear hHeld
   refine wpAnyH_ready (rs := [6]) (by kernel_rfl) (by simp) ?_
   refine AllReadyH.cons (i := 6) (by simp only [List.getElem?_toArray, List.getElem?_cons_succ, List.getElem?_cons_zero]; rfl) (fun K hK => ?_) AllReadyH.nil
   go_simp
   refine hK.out _ _ ?_ (fun hHeld => ?_)
   ·trivial
   clear hK K
   try simp only [Act.put, List.setIfInBounds_toArray, List.set_cons_zero, List.set_cons_succ]
   clear hHeld
   refine wpAnyH_ready (rs := [7]) (by kernel_rfl) (by simp) ?_
   refine AllReadyH.cons (i := 7) (by simp only [List.getElem?_toArray, List.getElem?_cons_succ, List.getElem?_cons_zero]; rfl) (fun K hK => ?_) AllReadyH.nil
   go_simp
   refine hK.out _ _ ?_ (fun hHeld => ?_)
   ·trivial
   clear hK K
   try simp only [Act.put, List.setIfInBounds_toArray, List.set_cons_zero, List.set_cons_succ]
   clear hHeld
   refine wpAnyH_ready (rs := [8]) (by kernel_rfl) (by simp) ?_
   refine AllReadyH.cons (i := 8) (by simp only [List.getElem?_toArray, List.getElem?_cons_succ, List.getElem?_cons_zero]; rfl) (fun K hK => ?_) AllReadyH.nil
   refine ready_appA _ _ _ _ (by rfl) _ _ _ (by rfl) (by rfl) HRUN.out ?_ _ (by rfl)
   refine hK.out _ _ ?_ (fun hHeld => ?_)
   ·trivial
   clear hK K
   try simp only [Act.put, List.setIfInBounds_toArray, List.set_cons_zero, List.set_cons_succ]
   refine tkT 9 ?_
   refine tkT 10 ?_
   refine tkT 11 ?_
   clear hHeld
   refine wpAnyH_ready (rs := [12]) (by kernel_rfl) (by simp) ?_
   refine AllReadyH.cons (i := 12) (by simp only [List.getElem?_toArray, List.getElem?_cons_succ, List.getElem?_cons_zero]; rfl) (fun K hK => ?_) AllReadyH.nil
   go_simp
   refine hK.out _ _ ?_ (fun hHeld => ?_)
   ·trivial
   clear hK K
   try simp only [Act.put, List.setIfInBounds_toArray, List.set_cons_zero, List.set_cons_succ]
   refine wpAnyH_done (by kernel_rfl) ?_ _
   refine bodyPost_end (by simp [results, Tryz.results89, go_sem, *]; try rfl) rfl ?_
   have r8 := H8.out.1
   have d8 := H8.out.2.1
   have e8 := H8.out.2.2
   rw [HN.out.1] at r8 d8 e8
   exact ⟨rfl, _, _, _, _, _, _, _, r8, d8, (HOD.out.bel E HX.out.1 HX.out.2.1.le).trans e8, HEND.out⟩
  refine AllReadyH.cons (i := 6) (by simp only [List.getElem?_toArray, List.getElem?_cons_succ, List.getElem?_cons_zero]; rfl) (fun K hK => ?_) AllReadyH.nil
  go_simp
  refine hK.out _ _ ?_ (fun hHeld => ?_)
  ·trivial
  clear hK K
  try simp only [Act.put, List.setIfInBounds_toArray, List.set_cons_zero, List.set_cons_succ]
  clear hHeld
  refine wpAnyH_ready (rs := [5, 7]) (by kernel_rfl) (by simp) ?_
  refine AllReadyH.cons (i := 5) (by simp only [List.getElem?_toArray, List.getElem?_cons_succ, List.getElem?_cons_zero]; rfl) (fun K hK => ?_) ?_
  ·go_simp
   refine hK.out _ _ ?_ (fun hHeld => ?_)
   ·trivial
   clear hK K
   try simp only [Act.put, List.setIfInBounds_toArray, List.set_cons_zero, List.set_cons_succ]
   clear hHeld
   refine wpAnyH_ready (rs := [7]) (by kernel_rfl) (by simp) ?_
   refine AllReadyH.cons (i := 7) (by simp only [List.getElem?_toArray, List.getElem?_cons_succ, List.getElem?_cons_zero]; rfl) (fun K hK => ?_) AllReadyH.nil
   go_simp
   refine hK.out _ _ ?_ (fun hHeld => ?_)
   ·trivial
   clear hK K
   try simp only [Act.put, List.setIfInBounds_toArray, List.set_cons_zero, List.set_cons_succ]
   clear hHeld
   refine wpAnyH_ready (rs := [8]) (by kernel_rfl) (by simp) ?_
   refine AllReadyH.cons (i := 8) (by simp only [List.getElem?_toArray, List.getElem?_cons_succ, List.getElem?_cons_zero]; rfl) (fun K hK => ?_) AllReadyH.nil
   refine ready_appA _ _ _ _ (by rfl) _ _ _ (by rfl) (by rfl) HRUN.out ?_ _ (by rfl)
   refine hK.out _ _ ?_ (fun hHeld => ?_)
   ·trivial
   clear hK K
   try simp only [Act.put, List.setIfInBounds_toArray, List.set_cons_zero, List.set_cons_succ]
   refine tkT 9 ?_
   refine tkT 10 ?_
   refine tkT 11 ?_
   clear hHeld
   refine wpAnyH_ready (rs := [12]) (by kernel_rfl) (by simp) ?_
   refine AllReadyH.cons (i := 12) (by simp only [List.getElem?_toArray, List.getElem?_cons_succ, List.getElem?_cons_zero]; rfl) (fun K hK => ?_) AllReadyH.nil
   go_simp
   refine hK.out _ _ ?_ (fun hHeld => ?_)
   ·trivial
   clear hK K
   try simp only [Act.put, List.setIfInBounds_toArray, List.set_cons_zero, List.set_cons_succ]
   refine wpAnyH_done (by kernel_rfl) ?_ _
   refine bodyPost_end (by simp [results, Tryz.results89, go_sem, *]; try rfl) rfl ?_
   have r8 := H8.out.1
   have d8 := H8.out.2.1
   have e8 := H8.out.2.2
   rw [HN.out.1] at r8 d8 e8
   exact ⟨rfl, _, _, _, _, _, _, _, r8, d8, (HOD.out.bel E HX.out.1 HX.out.2.1.le).trans e8, HEND.out⟩
  refine AllReadyH.cons (i := 7) (by simp only [List.getElem?_toArray, List.getElem?_cons_succ, List.getElem?_cons_zero]; rfl) (fun K hK => ?_) AllReadyH.nil
  go_simp
  refine hK.out _ _ ?_ (fun hHeld => ?_)
  ·trivial
  clear hK K
  try simp only [Act.put, List.setIfInBounds_toArray, List.set_cons_zero, List.set_cons_succ]
  clear hHeld
  refine wpAnyH_ready (rs := [5]) (by kernel_rfl) (by simp) ?_
  refine AllReadyH.cons (i := 5) (by simp only [List.getElem?_toArray, List.getElem?_cons_succ, List.getElem?_cons_zero]; rfl) (fun K hK => ?_) AllReadyH.nil
  go_simp
  refine hK.out _ _ ?_ (fun hHeld => ?_)
  ·trivial
  clear hK K
  try simp only [Act.put, List.setIfInBounds_toArray, List.set_cons_zero, List.set_cons_succ]
  clear hHeld
  refine wpAnyH_ready (rs := [8]) (by kernel_rfl) (by simp) ?_
  refine AllReadyH.cons (i := 8) (by simp only [List.getElem?_toArray, List.getElem?_cons_succ, List.getElem?_cons_zero]; rfl) (fun K hK => ?_) AllReadyH.nil
  refine ready_appA _ _ _ _ (by rfl) _ _ _ (by rfl) (by rfl) HRUN.out ?_ _ (by rfl)
  refine hK.out _ _ ?_ (fun hHeld => ?_)
  ·trivial
  clear hK K
  try simp only [Act.put, List.setIfInBounds_toArray, List.set_cons_zero, List.set_cons_succ]
  refine tkT 9 ?_
  refine tkT 10 ?_
  refine tkT 11 ?_
  clear hHeld
  refine wpAnyH_ready (rs := [12]) (by kernel_rfl) (by simp) ?_
  refine AllReadyH.cons (i := 12) (by simp only [List.getElem?_toArray, List.getElem?_cons_succ, List.getElem?_cons_zero]; rfl) (fun K hK => ?_) AllReadyH.nil
  go_simp
  refine hK.out _ _ ?_ (fun hHeld => ?_)
  ·trivial
  clear hK K
  try simp only [Act.put, List.setIfInBounds_toArray, List.set_cons_zero, List.set_cons_succ]
  refine wpAnyH_done (by kernel_rfl) ?_ _
  refine bodyPost_end (by simp [results, Tryz.results89, go_sem, *]; try rfl) rfl ?_
  have r8 := H8.out.1
  have d8 := H8.out.2.1
  have e8 := H8.out.2.2
  rw [HN.out.1] at r8 d8 e8
  exact ⟨rfl, _, _, _, _, _, _, _, r8, d8, (HOD.out.bel E HX.out.1 HX.out.2.1.le).trans e8, HEND.out⟩
end Go.Proofs.YtgcmnkanjcfndaaGreatDoor
