import Derived.Test.YtgcmnkanjcfndaaGreatDoorTxt1
import Derived.Test.YtgcmnkanjcfndaaGreatDoorTxt22
import Derived.Test.YtgcmnkanjcfndaaGreatDoorTxt13
namespace Go.Proofs.YtgcmnkanjcfndaaGreatDoor
open Go.RowKit
set_option linter.unusedVariables false
set_option linter.unusedSimpArgs false
set_option maxRecDepth 100000 in
set_option maxHeartbeats 8000000 in
theorem rwords25_any (w : World) : Calls Tryz.prog 52 #[] w fun e w' => ∃ p, e = .returned (.slice (some ⟨p, 0, none⟩) 38 38) ∧ w.heap.size ≤ p ∧ w'.rowIs p 9 38 (fun i => .string (sof ((opsB[i]?).getD []))) ∧ Below w.heap.size w w' := by
 go_enter Tryz.func52, Tryz.ntmps52
 go_wp2
 go_ret
 refine ⟨_, rfl, ?_, ?_, ?_⟩
 ·simp
 ·exact row_list opsB w _ _ (by rfl)
 ·exact bel_alloc _ _
set_option maxRecDepth 100000 in
set_option maxHeartbeats 4000000 in
theorem rhasN_any (op : Nat) (w : World) :
  Calls Tryz.prog 54 #[.int .i64 (op : Int)] w fun e w' => e = .returned (.bool (nmB op)) ∧ w' = w := by
 by_cases q : op = 2 ∨ op = 29 ∨ op = 30 ∨ op = 31 ∨ op = 32 ∨ op = 33 ∨ op = 36
 ·have HT : Hid (nmB op = true) := by show nmB op = _; unfold nmB; simp [q]
  rw [HT.out]
  clear HT
  rcases q with rfl | rfl | rfl | rfl | rfl | rfl | rfl
  all_goals
   go_enter Tryz.func54, Tryz.ntmps54
   go_wp2
   refine bodyPost_ret (by simp [results, Tryz.results54, go_sem, *]; try rfl) rfl ?_
   exact ⟨rfl, rfl⟩
 ·have HT : Hid (nmB op = false) := by show nmB op = _; unfold nmB; simp [q]
  rw [HT.out]
  have a1 : ((op : Int) == 2) = false := by simp; omega
  have a2 : ((op : Int) == 29) = false := by simp; omega
  have a3 : ((op : Int) == 30) = false := by simp; omega
  have a4 : ((op : Int) == 31) = false := by simp; omega
  have a5 : ((op : Int) == 32) = false := by simp; omega
  have a6 : ((op : Int) == 33) = false := by simp; omega
  have a7 : ((op : Int) == 36) = false := by simp; omega
  clear HT q
  go_enter Tryz.func54, Tryz.ntmps54
  go_wp2
  refine bodyPost_ret (by simp [results, Tryz.results54, go_sem, *]; try rfl) rfl ?_
  exact ⟨rfl, rfl⟩
theorem ins_wsR {i : Ins} (O : Nat) (hO : i.op = (O : Int)) (h1 : 1 ≤ O) (h2 : O < 38) : insWs i = ((opT i.op :: (if setsP i then [rgT i.d] else [])) ++ (readsP i (rowP i.op)).map rgT) ++ endS i O := by
 rw [ins_ws O hO h1 h2]
 rw [← List.cons_append]
 congr 1
 obtain ⟨r1, r2⟩ := row_abc O h2
 unfold rgO readsP setsP
 rw [hO]
 generalize (rowP (O : Int)).d = D at *
 generalize (rowP (O : Int)).a = A at *
 generalize (rowP (O : Int)).b = B at *
 generalize (rowP (O : Int)).c = C at *
 by_cases hd : D = 0 <;> by_cases ha : A = 0
 ·simp [hd, ha, r1 ha, r2 (r1 ha)]
 ·by_cases hb : B = 0
  ·simp [hd, ha, hb, r2 hb, getA]
  ·by_cases hc : C = 0
   ·simp [hd, ha, hb, hc, getA]
   ·simp [hd, ha, hb, hc, getA]
 ·simp [hd, ha, r1 ha, r2 (r1 ha), getA]
 ·by_cases hb : B = 0
  ·simp [hd, ha, hb, r2 hb, getA]
  ·by_cases hc : C = 0
   ·simp [hd, ha, hb, hc, getA]
   ·simp [hd, ha, hb, hc, getA]
theorem reads_rg {i : Ins} (h : okIn i) : ∀ n ∈ readsP i (rowP i.op), 0 ≤ n ∧ n ≤ 2147483647 := by
 have h2 := getA_in h 2
 have h3 := getA_in h 3
 have h4 := getA_in h 4
 unfold getA at h2 h3 h4
 simp at h2 h3 h4
 intro n hn
 unfold readsP at hn
 simp only [List.mem_append] at hn
 rcases hn with hn | hn | hn
 ·split at hn <;> simp at hn; subst hn; exact h2
 ·split at hn <;> simp at hn; subst hn; exact h3
 ·split at hn <;> simp at hn; subst hn; exact h4
theorem cat_rg {B : ByteArray} {ws : List Bs} (h : B = sof (joinW ws)) (hn : ws ≠ []) (n : Int) : (B ++ (⟨#[32, 114]⟩ : ByteArray)) ++ sof (numT n) = sof (joinW (ws ++ [rgT n])) := by
 subst h
 show (sof (joinW ws) ++ sof [32, 114]) ++ sof (numT n) = _
 rw [sof_app, sof_app, join_snoc _ _ hn]
 simp [rgT]
theorem cat_w {B : ByteArray} {ws : List Bs} (h : B = sof (joinW ws)) (hn : ws ≠ []) (x : Bs) : (B ++ (⟨#[32]⟩ : ByteArray)) ++ sof x = sof (joinW (ws ++ [x])) := by
 subst h
 show (sof (joinW ws) ++ sof [32]) ++ sof x = _
 rw [sof_app, sof_app, join_snoc _ _ hn]
 simp
theorem op_len : ∀ k : Nat, k < 38 → (opT (k : Int)).length ≤ 10 := by decide +kernel
set_option maxRecDepth 100000 in
set_option maxHeartbeats 16000000 in
theorem rline25_any (i : Ins) (hi : okIn i) (w : World) : Calls Tryz.prog 20 #[.agg #[.int .i64 i.op, .int .i64 i.d, .int .i64 i.a, .int .i64 i.b, .int .i64 i.c, .int .i64 i.n, .int .u32 i.bits]] w fun e w' => e = .returned (.string (sof (joinW (insWs i)))) ∧ Below w.heap.size w w' := by
 obtain ⟨O, hO⟩ : ∃ O : Nat, i.op = (O : Int) := ⟨i.op.toNat, by have := hi.1; omega⟩
 have hO1 : 1 ≤ O ∧ O < 38 := by have := hi.1; omega
 have HWS := hidC (ins_wsR O hO hO1.1 hO1.2)
 have HNN := hidC (okE_n hi.2.2.2.2.2)
 have HBB := hidC (okE_bits hi.2.2.2.2.2)
 have HDD : Hid (0 ≤ i.d ∧ i.d ≤ 2147483647) := getA_in hi 1
 have HRG := hidC (reads_rg hi)
 have HSE : Hid (∀ x, Calls Tryz.prog 35 #[.agg #[.int .i64 i.op, .int .i64 i.d, .int .i64 i.a, .int .i64 i.b, .int .i64 i.c, .int .i64 i.n, .int .u32 i.bits]] x fun e w' => e = .returned (.bool (setsP i)) ∧ Below x.heap.size x w') := fun x => rsets_any i x
 have HRE : Hid (∀ x, Calls Tryz.prog 53 #[.agg #[.int .i64 i.op, .int .i64 i.d, .int .i64 i.a, .int .i64 i.b, .int .i64 i.c, .int .i64 i.n, .int .u32 i.bits]] x fun e w' => ∃ u, e = .returned u ∧ w'.ownsRow x.heap.size 3 1 u (readsP i (rowP i.op)).length (i64s (readsP i (rowP i.op))) ∧ Below x.heap.size x w') := fun x => rreads_any i x
 have HHN := hidC (fun x => rhasN_any O x)
 obtain ⟨RL, hRL⟩ : ∃ L, readsP i (rowP i.op) = L := ⟨_, rfl⟩
 have HR3 : Hid (RL.length ≤ 3) := by rw [← hRL]; exact reads_len i _
 rw [hRL] at HWS HRG HRE
 obtain ⟨V, hV⟩ : ∃ V, w.alloc (.cells #[.int .i64 i.op, .int .i64 i.d, .int .i64 i.a, .int .i64 i.b, .int .i64 i.c, .int .i64 i.n, .int .u32 i.bits] 46) = V := ⟨_, rfl⟩
 obtain ⟨X, hXX⟩ : ∃ X, w.heap.size = X := ⟨_, rfl⟩
 have hb0 : Below w.heap.size w V := by rw [← hV]; exact bel_alloc _ _
 have hr : V.rowIs X 46 7 (in7 i) := by
  rw [← hV, ← hXX]
  exact World.rowIs_alloc w #[.int .i64 i.op, .int .i64 i.d, .int .i64 i.a, .int .i64 i.b, .int .i64 i.c, .int .i64 i.n, .int .u32 i.bits] 46 _ (fun j hj => by
   rcases (show j = 0 ∨ j = 1 ∨ j = 2 ∨ j = 3 ∨ j = 4 ∨ j = 5 ∨ j = 6 by have : j < 7 := hj; omega) with rfl | rfl | rfl | rfl | rfl | rfl | rfl <;> rfl)
 have HB0 := hidC hb0
 obtain ⟨A, hA⟩ : ∃ A, sof (opT i.op) = A := ⟨_, rfl⟩
 have sA : A.size ≤ 10 := by rw [← hA, sof_size, hO]; exact op_len O hO1.2
 have hop : (opsB[O]?).getD [] = opT i.op := by unfold opT; rw [hO]; rfl
 have HOC : Hid (∀ (x : World) (p : Nat), x.rowIs p 9 38 (fun i => .string (sof ((opsB[i]?).getD []))) → x.cell? ⟨p, O, none⟩ = some (.string A)) := fun x p h => by rw [← hA, ← hop]; exact h.cell (i := O) hO1.2
 obtain ⟨x0, x1, x2, x3, x4, x5, x6⟩ := in7_seven hr
 have y0 : V.drew.cell? ⟨X, 0, none⟩ = some (.int .i64 (O : Int)) := by rw [← hO]; exact x0
 rw [hO] at x0 HSE HRE
 have X0 := hidC x0
 have X1 := hidC x1
 have X2 := hidC x2
 have X3 := hidC x3
 have X4 := hidC x4
 have X5 := hidC x5
 have X6 := hidC x6
 have HWO : Hid (∀ x, Calls Tryz.prog 52 #[] x fun e w' => ∃ p, e = .returned (.slice (some ⟨p, 0, none⟩) 38 38) ∧ x.heap.size ≤ p ∧ w'.rowIs p 9 38 (fun i => .string (sof ((opsB[i]?).getD []))) ∧ Below x.heap.size x w') := fun x => rwords25_any x
 have o1 : (0 : Int) ≤ (O : Int) := by omega
 have o2 : (O : Int) < 38 := by omega
 have o3 : O < 38 := hO1.2
 have HOO := hidC (And.intro hO hO1)
 have HAA := hidC hA
 have hXV : Hid (∀ x, Below V.heap.size V x → x.rowIs X 46 7 (in7 i)) := fun x k => hr.of_block (k.block _ hr.lt)
 clear hi hb0 hr hop hA hO1 hRL x1 x2 x3 x4 x5 x6
 go_enter Tryz.func20, Tryz.ntmps20
 go_upto_region 1 with fail
 rw [hO] at hV ⊢
 try rw [hV]
 try rw [hXX]
 clear hV hXX hO
 refine wp_region_held_drew (S := (fun v => v.cell? ⟨X, 0, none⟩ = some (.int .i64 (O : Int)))) (by kernel_rfl) ?_ (fun hHeld => ?_)
 ·((try dsimp only); go_keep)
 refine tkT 1 ?_
 refine tkT 2 ?_
 clear hHeld
 refine wpAnyH_ready (rs := [0]) (by kernel_rfl) (by simp) ?_
 refine AllReadyH.cons (i := 0) (by simp only [List.getElem?_toArray, List.getElem?_cons_succ, List.getElem?_cons_zero]; rfl) (fun K hK => ?_) AllReadyH.nil
 go_simp
 (go_at_call 52; (with_reducible refine (HWO.out _).mono ?_); rintro e w1 ⟨p, rfl, hp1, hp2, b1⟩; have b2 := bel (bel_d V) b1; have HCUR := hidC b2; have o0 := kc b2 x0; have o9 : w1.cell? ⟨p, O, none⟩ = some (.string A) := HOC.out w1 p hp2; have HPL := hidC hp1; clear b1 b2 hp1 hp2)
 try (go_wp2_with fail)
 refine hK.out _ _ ?_ (fun hHeld => ?_)
 ·((try dsimp only); go_keep)
 clear hK K
 try simp only [Act.put, List.setIfInBounds_toArray, List.set_cons_zero, List.set_cons_succ]
 refine tkT 3 ?_
 clear hHeld
 refine wpAnyH_ready (rs := [4]) (by kernel_rfl) (by simp) ?_
 refine AllReadyH.cons (i := 4) (by simp only [List.getElem?_toArray, List.getElem?_cons_succ, List.getElem?_cons_zero]; rfl) (fun K hK => ?_) AllReadyH.nil
 go_simp
 refine hK.out _ _ ?_ (fun hHeld => ?_)
 ·((try dsimp only); go_keep)
 clear hK K
 try simp only [Act.put, List.setIfInBounds_toArray, List.set_cons_zero, List.set_cons_succ]
 refine tkT 5 ?_
 refine wpAnyH_done (by kernel_rfl) ?_ _
 clear o0 o9 HPL y0 x0 HOC
 have n0 := kc HCUR.out X0.out; have n1 := kc HCUR.out X1.out; have n2 := kc HCUR.out X2.out; have n3 := kc HCUR.out X3.out; have n4 := kc HCUR.out X4.out; have n5 := kc HCUR.out X5.out; have n6 := kc HCUR.out X6.out
 cases HSS : setsP i with
 | true =>
  rw [HSS] at HSE HWS
  have HWSS : Hid (insWs i = ([opT i.op, rgT i.d] ++ RL.map rgT) ++ endS i O) := by show _ = _; rw [HWS.out]; simp
  clear HWS
  obtain ⟨D, hD⟩ : ∃ D, sof (numT i.d) = D := ⟨_, rfl⟩
  have HD : Hid (∀ v, Calls Tryz.prog 49 #[.int .i64 i.d] v fun e w' => e = .returned (.string D) ∧ Below v.heap.size v w') := fun v => by rw [← hD]; exact rdn_any i.d HDD.out.1 HDD.out.2 v
  have sD : D.size ≤ 10 := by rw [← hD]; exact num_sz HDD.out.2
  have z0 : ¬ 9223372036854775807 < A.size + 2 := by omega
  have z1 : ¬ 9223372036854775807 < A.size + 2 + D.size := by omega
  have HB9 : Hid ((A ++ (⟨#[32, 114]⟩ : ByteArray)) ++ D = sof (joinW [opT i.op, rgT i.d]) ∧ ((A ++ (⟨#[32, 114]⟩ : ByteArray)) ++ D).size ≤ 30) := ⟨by rw [← hD]; exact cat_rg (ws := [opT i.op]) HAA.out.symm (by simp) i.d, by simp [ByteArray.size_append]; have : (⟨#[32, 114]⟩ : ByteArray).size = 2 := rfl; omega⟩
  clear hD sD
  clear HSS
  go_upto_block 0 with (first
   | (go_at_call 35; (with_reducible refine (HSE.out _).mono ?_); rintro e w2 ⟨rfl, b1⟩; have HH := hidC (bel HCUR.out b1); clear HCUR; have HCUR := hidC HH.out; clear HH; clear b1 n0 n1 n2 n3 n4 n5 n6; have n0 := kc HCUR.out X0.out; have n1 := kc HCUR.out X1.out; have n2 := kc HCUR.out X2.out; have n3 := kc HCUR.out X3.out; have n4 := kc HCUR.out X4.out; have n5 := kc HCUR.out X5.out; have n6 := kc HCUR.out X6.out)
   | (go_at_call 49; (with_reducible refine (HD.out _).mono ?_); rintro e w2 ⟨rfl, b1⟩; have HH := hidC (bel HCUR.out b1); clear HCUR; have HCUR := hidC HH.out; clear HH; clear b1 n0 n1 n2 n3 n4 n5 n6; have n0 := kc HCUR.out X0.out; have n1 := kc HCUR.out X1.out; have n2 := kc HCUR.out X2.out; have n3 := kc HCUR.out X3.out; have n4 := kc HCUR.out X4.out; have n5 := kc HCUR.out X5.out; have n6 := kc HCUR.out X6.out)
   | (go_at_call 53; (with_reducible refine (HRE.out _).mono ?_); rintro e w2 ⟨v2, rfl, ho2, b1⟩; obtain ⟨q2, d2, rfl⟩ := own_len ho2; obtain ⟨E2, HOW⟩ : ∃ E2, Hid (w2.ownsRow E2 3 1 (.slice q2 RL.length d2) RL.length (i64s RL)) := ⟨_, ho2⟩; clear ho2; have HH := hidC (bel HCUR.out b1); clear HCUR; have HCUR := hidC HH.out; clear HH; clear b1 n0 n1 n2 n3 n4 n5 n6; have n0 := kc HCUR.out X0.out; have n1 := kc HCUR.out X1.out; have n2 := kc HCUR.out X2.out; have n3 := kc HCUR.out X3.out; have n4 := kc HCUR.out X4.out; have n5 := kc HCUR.out X5.out; have n6 := kc HCUR.out X6.out))
  clear n0 n1 n2 n3 n4 n5 n6 HD HSE HRE
  obtain ⟨N, hN⟩ : ∃ N, RL.length = N := ⟨_, rfl⟩
  rw [hN] at HOW
  have HNL := hidC hN
  simp only [hN]
  clear hN
  go_wp2_with fail
  go_loopw [3, 5] (fun sv iv wx => ∃ (j : Nat) (B : ByteArray), j ≤ N ∧ sv = .string B ∧ iv = .int .i64 (j : Int) ∧ Hid (B = sof (joinW ([opT i.op, rgT i.d] ++ (RL.take j).map rgT)) ∧ B.size ≤ 30 + 12 * j ∧ wx.ownsRow E2 3 1 (.slice q2 N d2) N (i64s RL) ∧ Below V.heap.size V wx)) (fun _ iv _ => N - (intOf iv).toNat)
  case atStart => exact ⟨0, _, Nat.zero_le _, rfl, rfl, by rw [List.take_zero]; exact HB9.out.1, HB9.out.2, HOW.out, HCUR.out⟩
  case round =>
   clear HB9 HOW HCUR
   obtain ⟨j, B, hj, rfl, rfl, HJ⟩ := hrel
   obtain ⟨j0, j1, j2, j3⟩ := HJ.out
   have hN3 : N ≤ 3 := by have := HR3.out; have := HNL.out; omega
   by_cases hlt : j < N
   ·have hjl : j < RL.length := by have := HNL.out; omega
    have e1 : (j : Int) < (N : Int) := by omega
    have i1 : (0 : Int) ≤ (j : Int) := by omega
    obtain ⟨gb, cap, hv, -, -, hc1, -, hcell⟩ := own_open j2 (by omega)
    simp only [Value.slice.injEq] at hv
    obtain ⟨rfl, -, rfl⟩ := hv
    have hgc : wr.cell? ⟨gb, j, none⟩ = some (.int .i64 RL[j]) := hcell j _ (by simp [i64s, hjl])
    have hmb := HRG.out RL[j] (List.getElem_mem hjl)
    have HNX : Hid ([opT i.op, rgT i.d] ++ (RL.take (j + 1)).map rgT = ([opT i.op, rgT i.d] ++ (RL.take j).map rgT) ++ [rgT RL[j]]) := by show _ = _; rw [List.take_succ_eq_append_getElem hjl, List.map_append, ← List.append_assoc]; rfl
    obtain ⟨m, hm⟩ : ∃ m, RL[j] = m := ⟨_, rfl⟩
    rw [hm] at hgc hmb HNX
    obtain ⟨S, hS⟩ : ∃ S, sof (numT m) = S := ⟨_, rfl⟩
    have sS : S.size ≤ 10 := by rw [← hS]; exact num_sz hmb.2
    have HN : Hid (∀ v, Calls Tryz.prog 49 #[.int .i64 m] v fun e w' => e = .returned (.string S) ∧ Below v.heap.size v w') := fun v => by rw [← hS]; exact rdn_any m hmb.1 hmb.2 v
    have s1 : ¬ 9223372036854775807 < B.size + 2 := by omega
    have s2 : ¬ 9223372036854775807 < B.size + 2 + S.size := by omega
    have wi : IntKind.i64.wrap ((j : Int) + 1) = ((j + 1 : Nat) : Int) := by rw [IntKind.wrap_i64]; omega
    have HB8 : Hid ((B ++ (⟨#[32, 114]⟩ : ByteArray)) ++ S = sof (joinW ([opT i.op, rgT i.d] ++ (RL.take (j + 1)).map rgT)) ∧ ((B ++ (⟨#[32, 114]⟩ : ByteArray)) ++ S).size ≤ 30 + 12 * (j + 1)) := ⟨by rw [HNX.out, ← hS]; exact cat_rg j0 (by simp) m, by simp [ByteArray.size_append]; have : (⟨#[32, 114]⟩ : ByteArray).size = 2 := rfl; omega⟩
    have J2 := hidC j2
    have J3 := hidC j3
    clear j0 j1 j2 j3 HJ hcell hmb hm hS sS hjl hlt HNX
    go_wp2_with (go_at_call 49; (with_reducible refine (HN.out _).mono ?_); rintro e w5 ⟨rfl, b5⟩; have H5 := hidC b5; clear b5)
    go_roundw
    case rel => exact ⟨j + 1, _, by omega, rfl, by go_num, HB8.out.1, HB8.out.2, own_below J2.out H5.out, bel J3.out H5.out⟩
    case measure => simp [intOf]; omega
   ·have e1 : ¬ (j : Int) < (N : Int) := by omega
    have hall : RL.take j = RL := List.take_of_length_le (by have := HNL.out; omega)
    rw [hall] at j0
    obtain ⟨ws, hws⟩ : ∃ ws, [opT i.op, rgT i.d] ++ RL.map rgT = ws := ⟨_, rfl⟩
    have HWN : Hid (ws ≠ []) := by show _ ≠ _; rw [← hws]; simp
    rw [hws] at j0 HWSS
    have HCUR := hidC j3
    have n0 := kc HCUR.out X0.out; have n1 := kc HCUR.out X1.out; have n2 := kc HCUR.out X2.out; have n3 := kc HCUR.out X3.out; have n4 := kc HCUR.out X4.out; have n5 := kc HCUR.out X5.out; have n6 := kc HCUR.out X6.out
    have hBz : B.size ≤ 70 := by omega
    have hB := j0
    clear j0 j1 j2 j3 HJ hall hws hj hlt
    cases hnb : nmB O with
    | true =>
     have hE : endS i O = [numT i.n] := by unfold endS; rw [if_pos hnb]
     have f1 : ((O : Int) == 1) = false := by
      by_cases q : O = 1
      ·subst q; exact absurd hnb (by decide)
      ·simp; omega
     rw [hnb] at HHN
     rw [hE] at HWSS
     clear hnb hE
     obtain ⟨G, hG⟩ : ∃ G, sof (numT i.n) = G := ⟨_, rfl⟩
     have sG : G.size ≤ 10 := by rw [← hG]; exact num_sz HNN.out.2
     have HG : Hid (∀ v, Calls Tryz.prog 49 #[.int .i64 i.n] v fun e w' => e = .returned (.string G) ∧ Below v.heap.size v w') := fun v => by rw [← hG]; exact rdn_any i.n HNN.out.1 HNN.out.2 v
     have HR : Hid ((B ++ (⟨#[32]⟩ : ByteArray)) ++ G = sof (joinW (ws ++ [numT i.n]))) := by show _ = _; rw [← hG]; exact cat_w hB HWN.out (numT i.n)
     have z0 : ¬ 9223372036854775807 < B.size + 1 := by omega
     have z1 : ¬ 9223372036854775807 < B.size + 1 + G.size := by omega
     clear hB hBz hG sG
     go_wp2_with (first
      | (go_at_call 54; (with_reducible refine (HHN.out _).mono ?_); rintro e w3 ⟨rfl, hw3⟩; have hw4 := hw3.symm; subst hw4)
      | (go_at_call 49; (with_reducible refine (HG.out _).mono ?_); rintro e w3 ⟨rfl, b1⟩; have HH := hidC (bel HCUR.out b1); clear HCUR; have HCUR := hidC HH.out; clear HH; clear b1 n0 n1 n2 n3 n4 n5 n6; have n0 := kc HCUR.out X0.out; have n1 := kc HCUR.out X1.out; have n2 := kc HCUR.out X2.out; have n3 := kc HCUR.out X3.out; have n4 := kc HCUR.out X4.out; have n5 := kc HCUR.out X5.out; have n6 := kc HCUR.out X6.out)
      | fail)
     refine bodyPost_ret (by simp [results, Tryz.results20, go_sem, *]; try rfl) rfl ?_
     exact ⟨by rw [HWSS.out, ← HR.out], bel HB0.out HCUR.out⟩
    | false =>
     by_cases q1 : O = 1
     ·have hE : endS i O = [hexT i.bits] := by unfold endS; rw [if_neg (by rw [hnb]; decide), if_pos q1]
      have f1 : ((O : Int) == 1) = true := by simp; omega
      rw [hnb] at HHN
      rw [hE] at HWSS
      clear hnb hE q1
      obtain ⟨G, hG⟩ : ∃ G, hexB i.bits = G := ⟨_, rfl⟩
      have sG : G.size ≤ 10 := by rw [← hG, hexB_size]; decide
      have HG : Hid (∀ v, Calls Tryz.prog 51 #[.int .i64 i.bits] v fun e w' => e = .returned (.string G) ∧ Below v.heap.size v w') := fun v => by rw [← hG]; exact (rhex_any i.bits HBB.out.1 HBB.out.2 v).mono fun e w' h => ⟨h.1, by rw [h.2]; exact bel0 v⟩
      have hbw : IntKind.wrap .i64 i.bits = i.bits := by have := HBB.out; rw [IntKind.wrap_i64]; omega
      have HR : Hid ((B ++ (⟨#[32]⟩ : ByteArray)) ++ G = sof (joinW (ws ++ [hexT i.bits]))) := by
       show _ = _
       rw [← hG, show hexB i.bits = sof (hexT i.bits) from by unfold hexT sof; simp]
       exact cat_w hB HWN.out (hexT i.bits)
      have z0 : ¬ 9223372036854775807 < B.size + 1 := by omega
      have z1 : ¬ 9223372036854775807 < B.size + 1 + G.size := by omega
      clear hB hBz hG sG
      go_wp2_with (first
       | (go_at_call 54; (with_reducible refine (HHN.out _).mono ?_); rintro e w3 ⟨rfl, hw3⟩; have hw4 := hw3.symm; subst hw4)
       | (go_at_call 51; (with_reducible refine (HG.out _).mono ?_); rintro e w3 ⟨rfl, b1⟩; have HH := hidC (bel HCUR.out b1); clear HCUR; have HCUR := hidC HH.out; clear HH; clear b1 n0 n1 n2 n3 n4 n5 n6; have n0 := kc HCUR.out X0.out; have n1 := kc HCUR.out X1.out; have n2 := kc HCUR.out X2.out; have n3 := kc HCUR.out X3.out; have n4 := kc HCUR.out X4.out; have n5 := kc HCUR.out X5.out; have n6 := kc HCUR.out X6.out)
       | fail)
      refine bodyPost_ret (by simp [results, Tryz.results20, go_sem, *]; try rfl) rfl ?_
      exact ⟨by rw [HWSS.out, ← HR.out], bel HB0.out HCUR.out⟩
     ·have hE : endS i O = [] := by unfold endS; rw [if_neg (by rw [hnb]; decide), if_neg q1]
      have f1 : ((O : Int) == 1) = false := by simp; omega
      rw [hnb] at HHN
      rw [hE] at HWSS
      clear hnb hE q1
      have HR : Hid (B = sof (joinW (ws ++ []))) := by show _ = _; rw [List.append_nil]; exact hB
      clear hB hBz 
      go_wp2_with (first
       | (go_at_call 54; (with_reducible refine (HHN.out _).mono ?_); rintro e w3 ⟨rfl, hw3⟩; have hw4 := hw3.symm; subst hw4)
       | fail)
      refine bodyPost_ret (by simp [results, Tryz.results20, go_sem, *]; try rfl) rfl ?_
      exact ⟨by rw [HWSS.out, ← HR.out], bel HB0.out HCUR.out⟩
 | false =>
  rw [HSS] at HSE HWS
  have HWSS : Hid (insWs i = ([opT i.op] ++ RL.map rgT) ++ endS i O) := by show _ = _; rw [HWS.out]; simp
  clear HWS
  have HB9 : Hid (A = sof (joinW [opT i.op]) ∧ A.size ≤ 30) := ⟨HAA.out.symm, by omega⟩
  have HD := HWO
  clear HSS
  go_upto_block 0 with (first
   | (go_at_call 35; (with_reducible refine (HSE.out _).mono ?_); rintro e w2 ⟨rfl, b1⟩; have HH := hidC (bel HCUR.out b1); clear HCUR; have HCUR := hidC HH.out; clear HH; clear b1 n0 n1 n2 n3 n4 n5 n6; have n0 := kc HCUR.out X0.out; have n1 := kc HCUR.out X1.out; have n2 := kc HCUR.out X2.out; have n3 := kc HCUR.out X3.out; have n4 := kc HCUR.out X4.out; have n5 := kc HCUR.out X5.out; have n6 := kc HCUR.out X6.out)
   | (go_at_call 49; (with_reducible refine (HD.out _).mono ?_); rintro e w2 ⟨rfl, b1⟩; have HH := hidC (bel HCUR.out b1); clear HCUR; have HCUR := hidC HH.out; clear HH; clear b1 n0 n1 n2 n3 n4 n5 n6; have n0 := kc HCUR.out X0.out; have n1 := kc HCUR.out X1.out; have n2 := kc HCUR.out X2.out; have n3 := kc HCUR.out X3.out; have n4 := kc HCUR.out X4.out; have n5 := kc HCUR.out X5.out; have n6 := kc HCUR.out X6.out)
   | (go_at_call 53; (with_reducible refine (HRE.out _).mono ?_); rintro e w2 ⟨v2, rfl, ho2, b1⟩; obtain ⟨q2, d2, rfl⟩ := own_len ho2; obtain ⟨E2, HOW⟩ : ∃ E2, Hid (w2.ownsRow E2 3 1 (.slice q2 RL.length d2) RL.length (i64s RL)) := ⟨_, ho2⟩; clear ho2; have HH := hidC (bel HCUR.out b1); clear HCUR; have HCUR := hidC HH.out; clear HH; clear b1 n0 n1 n2 n3 n4 n5 n6; have n0 := kc HCUR.out X0.out; have n1 := kc HCUR.out X1.out; have n2 := kc HCUR.out X2.out; have n3 := kc HCUR.out X3.out; have n4 := kc HCUR.out X4.out; have n5 := kc HCUR.out X5.out; have n6 := kc HCUR.out X6.out))
  clear n0 n1 n2 n3 n4 n5 n6 HD HSE HRE
  obtain ⟨N, hN⟩ : ∃ N, RL.length = N := ⟨_, rfl⟩
  rw [hN] at HOW
  have HNL := hidC hN
  simp only [hN]
  clear hN
  go_wp2_with fail
  go_loopw [3, 5] (fun sv iv wx => ∃ (j : Nat) (B : ByteArray), j ≤ N ∧ sv = .string B ∧ iv = .int .i64 (j : Int) ∧ Hid (B = sof (joinW ([opT i.op] ++ (RL.take j).map rgT)) ∧ B.size ≤ 30 + 12 * j ∧ wx.ownsRow E2 3 1 (.slice q2 N d2) N (i64s RL) ∧ Below V.heap.size V wx)) (fun _ iv _ => N - (intOf iv).toNat)
  case atStart => exact ⟨0, _, Nat.zero_le _, rfl, rfl, by rw [List.take_zero]; exact HB9.out.1, HB9.out.2, HOW.out, HCUR.out⟩
  case round =>
   clear HB9 HOW HCUR
   obtain ⟨j, B, hj, rfl, rfl, HJ⟩ := hrel
   obtain ⟨j0, j1, j2, j3⟩ := HJ.out
   have hN3 : N ≤ 3 := by have := HR3.out; have := HNL.out; omega
   by_cases hlt : j < N
   ·have hjl : j < RL.length := by have := HNL.out; omega
    have e1 : (j : Int) < (N : Int) := by omega
    have i1 : (0 : Int) ≤ (j : Int) := by omega
    obtain ⟨gb, cap, hv, -, -, hc1, -, hcell⟩ := own_open j2 (by omega)
    simp only [Value.slice.injEq] at hv
    obtain ⟨rfl, -, rfl⟩ := hv
    have hgc : wr.cell? ⟨gb, j, none⟩ = some (.int .i64 RL[j]) := hcell j _ (by simp [i64s, hjl])
    have hmb := HRG.out RL[j] (List.getElem_mem hjl)
    have HNX : Hid ([opT i.op] ++ (RL.take (j + 1)).map rgT = ([opT i.op] ++ (RL.take j).map rgT) ++ [rgT RL[j]]) := by show _ = _; rw [List.take_succ_eq_append_getElem hjl, List.map_append, ← List.append_assoc]; rfl
    obtain ⟨m, hm⟩ : ∃ m, RL[j] = m := ⟨_, rfl⟩
    rw [hm] at hgc hmb HNX
    obtain ⟨S, hS⟩ : ∃ S, sof (numT m) = S := ⟨_, rfl⟩
    have sS : S.size ≤ 10 := by rw [← hS]; exact num_sz hmb.2
    have HN : Hid (∀ v, Calls Tryz.prog 49 #[.int .i64 m] v fun e w' => e = .returned (.string S) ∧ Below v.heap.size v w') := fun v => by rw [← hS]; exact rdn_any m hmb.1 hmb.2 v
    have s1 : ¬ 9223372036854775807 < B.size + 2 := by omega
    have s2 : ¬ 9223372036854775807 < B.size + 2 + S.size := by omega
    have wi : IntKind.i64.wrap ((j : Int) + 1) = ((j + 1 : Nat) : Int) := by rw [IntKind.wrap_i64]; omega
    have HB8 : Hid ((B ++ (⟨#[32, 114]⟩ : ByteArray)) ++ S = sof (joinW ([opT i.op] ++ (RL.take (j + 1)).map rgT)) ∧ ((B ++ (⟨#[32, 114]⟩ : ByteArray)) ++ S).size ≤ 30 + 12 * (j + 1)) := ⟨by rw [HNX.out, ← hS]; exact cat_rg j0 (by simp) m, by simp [ByteArray.size_append]; have : (⟨#[32, 114]⟩ : ByteArray).size = 2 := rfl; omega⟩
    have J2 := hidC j2
    have J3 := hidC j3
    clear j0 j1 j2 j3 HJ hcell hmb hm hS sS hjl hlt HNX
    go_wp2_with (go_at_call 49; (with_reducible refine (HN.out _).mono ?_); rintro e w5 ⟨rfl, b5⟩; have H5 := hidC b5; clear b5)
    go_roundw
    case rel => exact ⟨j + 1, _, by omega, rfl, by go_num, HB8.out.1, HB8.out.2, own_below J2.out H5.out, bel J3.out H5.out⟩
    case measure => simp [intOf]; omega
   ·have e1 : ¬ (j : Int) < (N : Int) := by omega
    have hall : RL.take j = RL := List.take_of_length_le (by have := HNL.out; omega)
    rw [hall] at j0
    obtain ⟨ws, hws⟩ : ∃ ws, [opT i.op] ++ RL.map rgT = ws := ⟨_, rfl⟩
    have HWN : Hid (ws ≠ []) := by show _ ≠ _; rw [← hws]; simp
    rw [hws] at j0 HWSS
    have HCUR := hidC j3
    have n0 := kc HCUR.out X0.out; have n1 := kc HCUR.out X1.out; have n2 := kc HCUR.out X2.out; have n3 := kc HCUR.out X3.out; have n4 := kc HCUR.out X4.out; have n5 := kc HCUR.out X5.out; have n6 := kc HCUR.out X6.out
    have hBz : B.size ≤ 70 := by omega
    have hB := j0
    clear j0 j1 j2 j3 HJ hall hws hj hlt
    cases hnb : nmB O with
    | true =>
     have hE : endS i O = [numT i.n] := by unfold endS; rw [if_pos hnb]
     have f1 : ((O : Int) == 1) = false := by
      by_cases q : O = 1
      ·subst q; exact absurd hnb (by decide)
      ·simp; omega
     rw [hnb] at HHN
     rw [hE] at HWSS
     clear hnb hE
     obtain ⟨G, hG⟩ : ∃ G, sof (numT i.n) = G := ⟨_, rfl⟩
     have sG : G.size ≤ 10 := by rw [← hG]; exact num_sz HNN.out.2
     have HG : Hid (∀ v, Calls Tryz.prog 49 #[.int .i64 i.n] v fun e w' => e = .returned (.string G) ∧ Below v.heap.size v w') := fun v => by rw [← hG]; exact rdn_any i.n HNN.out.1 HNN.out.2 v
     have HR : Hid ((B ++ (⟨#[32]⟩ : ByteArray)) ++ G = sof (joinW (ws ++ [numT i.n]))) := by show _ = _; rw [← hG]; exact cat_w hB HWN.out (numT i.n)
     have z0 : ¬ 9223372036854775807 < B.size + 1 := by omega
     have z1 : ¬ 9223372036854775807 < B.size + 1 + G.size := by omega
     clear hB hBz hG sG
     go_wp2_with (first
      | (go_at_call 54; (with_reducible refine (HHN.out _).mono ?_); rintro e w3 ⟨rfl, hw3⟩; have hw4 := hw3.symm; subst hw4)
      | (go_at_call 49; (with_reducible refine (HG.out _).mono ?_); rintro e w3 ⟨rfl, b1⟩; have HH := hidC (bel HCUR.out b1); clear HCUR; have HCUR := hidC HH.out; clear HH; clear b1 n0 n1 n2 n3 n4 n5 n6; have n0 := kc HCUR.out X0.out; have n1 := kc HCUR.out X1.out; have n2 := kc HCUR.out X2.out; have n3 := kc HCUR.out X3.out; have n4 := kc HCUR.out X4.out; have n5 := kc HCUR.out X5.out; have n6 := kc HCUR.out X6.out)
      | fail)
     refine bodyPost_ret (by simp [results, Tryz.results20, go_sem, *]; try rfl) rfl ?_
     exact ⟨by rw [HWSS.out, ← HR.out], bel HB0.out HCUR.out⟩
    | false =>
     by_cases q1 : O = 1
     ·have hE : endS i O = [hexT i.bits] := by unfold endS; rw [if_neg (by rw [hnb]; decide), if_pos q1]
      have f1 : ((O : Int) == 1) = true := by simp; omega
      rw [hnb] at HHN
      rw [hE] at HWSS
      clear hnb hE q1
      obtain ⟨G, hG⟩ : ∃ G, hexB i.bits = G := ⟨_, rfl⟩
      have sG : G.size ≤ 10 := by rw [← hG, hexB_size]; decide
      have HG : Hid (∀ v, Calls Tryz.prog 51 #[.int .i64 i.bits] v fun e w' => e = .returned (.string G) ∧ Below v.heap.size v w') := fun v => by rw [← hG]; exact (rhex_any i.bits HBB.out.1 HBB.out.2 v).mono fun e w' h => ⟨h.1, by rw [h.2]; exact bel0 v⟩
      have hbw : IntKind.wrap .i64 i.bits = i.bits := by have := HBB.out; rw [IntKind.wrap_i64]; omega
      have HR : Hid ((B ++ (⟨#[32]⟩ : ByteArray)) ++ G = sof (joinW (ws ++ [hexT i.bits]))) := by
       show _ = _
       rw [← hG, show hexB i.bits = sof (hexT i.bits) from by unfold hexT sof; simp]
       exact cat_w hB HWN.out (hexT i.bits)
      have z0 : ¬ 9223372036854775807 < B.size + 1 := by omega
      have z1 : ¬ 9223372036854775807 < B.size + 1 + G.size := by omega
      clear hB hBz hG sG
      go_wp2_with (first
       | (go_at_call 54; (with_reducible refine (HHN.out _).mono ?_); rintro e w3 ⟨rfl, hw3⟩; have hw4 := hw3.symm; subst hw4)
       | (go_at_call 51; (with_reducible refine (HG.out _).mono ?_); rintro e w3 ⟨rfl, b1⟩; have HH := hidC (bel HCUR.out b1); clear HCUR; have HCUR := hidC HH.out; clear HH; clear b1 n0 n1 n2 n3 n4 n5 n6; have n0 := kc HCUR.out X0.out; have n1 := kc HCUR.out X1.out; have n2 := kc HCUR.out X2.out; have n3 := kc HCUR.out X3.out; have n4 := kc HCUR.out X4.out; have n5 := kc HCUR.out X5.out; have n6 := kc HCUR.out X6.out)
       | fail)
      refine bodyPost_ret (by simp [results, Tryz.results20, go_sem, *]; try rfl) rfl ?_
      exact ⟨by rw [HWSS.out, ← HR.out], bel HB0.out HCUR.out⟩
     ·have hE : endS i O = [] := by unfold endS; rw [if_neg (by rw [hnb]; decide), if_neg q1]
      have f1 : ((O : Int) == 1) = false := by simp; omega
      rw [hnb] at HHN
      rw [hE] at HWSS
      clear hnb hE q1
      have HR : Hid (B = sof (joinW (ws ++ []))) := by show _ = _; rw [List.append_nil]; exact hB
      clear hB hBz 
      go_wp2_with (first
       | (go_at_call 54; (with_reducible refine (HHN.out _).mono ?_); rintro e w3 ⟨rfl, hw3⟩; have hw4 := hw3.symm; subst hw4)
       | fail)
      refine bodyPost_ret (by simp [results, Tryz.results20, go_sem, *]; try rfl) rfl ?_
      exact ⟨by rw [HWSS.out, ← HR.out], bel HB0.out HCUR.out⟩
end Go.Proofs.YtgcmnkanjcfndaaGreatDoor
namespace Go.Proofs.YtgcmnkanjcfndaaGreatDoor
open Go.RowKit
set_option linter.unusedVariables false
set_option linter.unusedSimpArgs false
theorem rrow_lt (op : Int) (hk : knownP op = true) : ∃ a b c d e : UInt8, ((a.toNat : Int) = (ltR op).a ∧ (b.toNat : Int) = (ltR op).b ∧ (c.toNat : Int) = (ltR op).c ∧ (d.toNat : Int) = (ltR op).d ∧ (e.toNat : Int) = (ltR op).e) ∧ ∀ w, Calls Tryz.prog 68 #[.int .i64 op] w fun x w' => x = .returned (.tuple #[.string ⟨#[a, b, c, d, e]⟩, .bool true]) ∧ w' = w := by
 have hh : 1 ≤ op ∧ op ≤ 37 := by unfold knownP at hk; simp at hk; omega
 clear hk
 have : op = 1 ∨ op = 2 ∨ op = 3 ∨ op = 4 ∨ op = 5 ∨ op = 6 ∨ op = 7 ∨ op = 8 ∨ op = 9 ∨ op = 10 ∨ op = 11 ∨ op = 12 ∨ op = 13 ∨ op = 14 ∨ op = 15 ∨ op = 16 ∨ op = 17 ∨ op = 18 ∨ op = 19 ∨ op = 20 ∨ op = 21 ∨ op = 22 ∨ op = 23 ∨ op = 24 ∨ op = 25 ∨ op = 26 ∨ op = 27 ∨ op = 28 ∨ op = 29 ∨ op = 30 ∨ op = 31 ∨ op = 32 ∨ op = 33 ∨ op = 34 ∨ op = 35 ∨ op = 36 ∨ op = 37 := by omega
 rcases this with rfl | rfl | rfl | rfl | rfl | rfl | rfl | rfl | rfl | rfl | rfl | rfl | rfl | rfl | rfl | rfl | rfl | rfl | rfl | rfl | rfl | rfl | rfl | rfl | rfl | rfl | rfl | rfl | rfl | rfl | rfl | rfl | rfl | rfl | rfl | rfl | rfl
 ·exact ⟨_, _, _, _, _, ⟨rfl, rfl, rfl, rfl, rfl⟩, fun w => rrow_1 w⟩
 ·exact ⟨_, _, _, _, _, ⟨rfl, rfl, rfl, rfl, rfl⟩, fun w => rrow_2 w⟩
 ·exact ⟨_, _, _, _, _, ⟨rfl, rfl, rfl, rfl, rfl⟩, fun w => rrow_3 w⟩
 ·exact ⟨_, _, _, _, _, ⟨rfl, rfl, rfl, rfl, rfl⟩, fun w => rrow_4 w⟩
 ·exact ⟨_, _, _, _, _, ⟨rfl, rfl, rfl, rfl, rfl⟩, fun w => rrow_5 w⟩
 ·exact ⟨_, _, _, _, _, ⟨rfl, rfl, rfl, rfl, rfl⟩, fun w => rrow_6 w⟩
 ·exact ⟨_, _, _, _, _, ⟨rfl, rfl, rfl, rfl, rfl⟩, fun w => rrow_7 w⟩
 ·exact ⟨_, _, _, _, _, ⟨rfl, rfl, rfl, rfl, rfl⟩, fun w => rrow_8 w⟩
 ·exact ⟨_, _, _, _, _, ⟨rfl, rfl, rfl, rfl, rfl⟩, fun w => rrow_9 w⟩
 ·exact ⟨_, _, _, _, _, ⟨rfl, rfl, rfl, rfl, rfl⟩, fun w => rrow_10 w⟩
 ·exact ⟨_, _, _, _, _, ⟨rfl, rfl, rfl, rfl, rfl⟩, fun w => rrow_11 w⟩
 ·exact ⟨_, _, _, _, _, ⟨rfl, rfl, rfl, rfl, rfl⟩, fun w => rrow_12 w⟩
 ·exact ⟨_, _, _, _, _, ⟨rfl, rfl, rfl, rfl, rfl⟩, fun w => rrow_13 w⟩
 ·exact ⟨_, _, _, _, _, ⟨rfl, rfl, rfl, rfl, rfl⟩, fun w => rrow_14 w⟩
 ·exact ⟨_, _, _, _, _, ⟨rfl, rfl, rfl, rfl, rfl⟩, fun w => rrow_15 w⟩
 ·exact ⟨_, _, _, _, _, ⟨rfl, rfl, rfl, rfl, rfl⟩, fun w => rrow_16 w⟩
 ·exact ⟨_, _, _, _, _, ⟨rfl, rfl, rfl, rfl, rfl⟩, fun w => rrow_17 w⟩
 ·exact ⟨_, _, _, _, _, ⟨rfl, rfl, rfl, rfl, rfl⟩, fun w => rrow_18 w⟩
 ·exact ⟨_, _, _, _, _, ⟨rfl, rfl, rfl, rfl, rfl⟩, fun w => rrow_19 w⟩
 ·exact ⟨_, _, _, _, _, ⟨rfl, rfl, rfl, rfl, rfl⟩, fun w => rrow_20 w⟩
 ·exact ⟨_, _, _, _, _, ⟨rfl, rfl, rfl, rfl, rfl⟩, fun w => rrow_21 w⟩
 ·exact ⟨_, _, _, _, _, ⟨rfl, rfl, rfl, rfl, rfl⟩, fun w => rrow_22 w⟩
 ·exact ⟨_, _, _, _, _, ⟨rfl, rfl, rfl, rfl, rfl⟩, fun w => rrow_23 w⟩
 ·exact ⟨_, _, _, _, _, ⟨rfl, rfl, rfl, rfl, rfl⟩, fun w => rrow_24 w⟩
 ·exact ⟨_, _, _, _, _, ⟨rfl, rfl, rfl, rfl, rfl⟩, fun w => rrow_25 w⟩
 ·exact ⟨_, _, _, _, _, ⟨rfl, rfl, rfl, rfl, rfl⟩, fun w => rrow_26 w⟩
 ·exact ⟨_, _, _, _, _, ⟨rfl, rfl, rfl, rfl, rfl⟩, fun w => rrow_27 w⟩
 ·exact ⟨_, _, _, _, _, ⟨rfl, rfl, rfl, rfl, rfl⟩, fun w => rrow_28 w⟩
 ·exact ⟨_, _, _, _, _, ⟨rfl, rfl, rfl, rfl, rfl⟩, fun w => rrow_29 w⟩
 ·exact ⟨_, _, _, _, _, ⟨rfl, rfl, rfl, rfl, rfl⟩, fun w => rrow_30 w⟩
 ·exact ⟨_, _, _, _, _, ⟨rfl, rfl, rfl, rfl, rfl⟩, fun w => rrow_31 w⟩
 ·exact ⟨_, _, _, _, _, ⟨rfl, rfl, rfl, rfl, rfl⟩, fun w => rrow_32 w⟩
 ·exact ⟨_, _, _, _, _, ⟨rfl, rfl, rfl, rfl, rfl⟩, fun w => rrow_33 w⟩
 ·exact ⟨_, _, _, _, _, ⟨rfl, rfl, rfl, rfl, rfl⟩, fun w => rrow_34 w⟩
 ·exact ⟨_, _, _, _, _, ⟨rfl, rfl, rfl, rfl, rfl⟩, fun w => rrow_35 w⟩
 ·exact ⟨_, _, _, _, _, ⟨rfl, rfl, rfl, rfl, rfl⟩, fun w => rrow_36 w⟩
 ·exact ⟨_, _, _, _, _, ⟨rfl, rfl, rfl, rfl, rfl⟩, fun w => rrow_37 w⟩
def letOK (b : Int) : Prop := b = 45 ∨ b = 110 ∨ b = 119 ∨ b = 118 ∨ b = 100 ∨ b = 120 ∨ b = 99 ∨ b = 97
instance (b : Int) : Decidable (letOK b) := by unfold letOK; infer_instance
def okL (L : Lt) : Bool := decide (letOK L.a) && (decide (letOK L.b) && (decide (letOK L.c) && (decide (letOK L.d) && (decide (L.e = 45 ∨ L.e = 105 ∨ L.e = 112 ∨ L.e = 115 ∨ L.e = 113) && decide (L.e = 112 → L.a = 118 ∨ (L.a = 45 ∧ L.b = 118))))))
theorem okL_ite {p : Prop} [Decidable p] {x y : Lt} (h : okL x = true) (k : okL y = true) : okL (if p then x else y) = true := by
 split
 ·exact h
 ·exact k
theorem ltR_okL (op : Int) : okL (ltR op) = true := by
 unfold ltR
 iterate 19 refine okL_ite (by decide) ?_
 decide
theorem ltR_ok (op : Int) : letOK (ltR op).a ∧ letOK (ltR op).b ∧ letOK (ltR op).c ∧ letOK (ltR op).d ∧ ((ltR op).e = 45 ∨ (ltR op).e = 105 ∨ (ltR op).e = 112 ∨ (ltR op).e = 115 ∨ (ltR op).e = 113) ∧ ((ltR op).e = 112 → (ltR op).a = 118 ∨ ((ltR op).a = 45 ∧ (ltR op).b = 118)) := by
 have := ltR_okL op
 unfold okL at this
 simp only [Bool.and_eq_true, decide_eq_true_eq] at this
 exact this
set_option maxRecDepth 100000 in
set_option maxHeartbeats 2000000 in
theorem rfits_no (v0 v1 v2 v3 : Value) (i : Ins) (h0 : 0 ≤ i.bits) (h1 : i.bits < 4294967296) (h : (knownP i.op && ((i.op == 1 || i.bits == 0) && toldB i.bits)) = false) (w : World) :
  Calls Tryz.prog 66 #[.agg #[v0, v1, v2, v3], insV i] w fun e w' => e = .returned (.bool false) ∧ Below w.heap.size w w' := by
 have HCAN : Hid (∀ w, Calls Tryz.prog 65 #[.int .u32 i.bits] w fun e w' => e = .returned (.bool (toldB i.bits)) ∧ Below w.heap.size w w') := rcanonical_any i.bits h0 h1
 cases hk : knownP i.op
 ·have HROW : Hid (∀ w, Calls Tryz.prog 68 #[.int .i64 i.op] w fun e w' => e = .returned (.tuple #[.string ⟨#[]⟩, .bool false]) ∧ w' = w) := rrow_none i.op hk
  obtain ⟨op, D, A, B, E, n, bt⟩ := i
  unfold insV
  simp only at HROW HCAN ⊢
  clear h hk
  go_enter Tryz.func66, Tryz.ntmps66
  go_wp2_with (go_at_call 68; refine (HROW.out _).mono ?_; rintro e w1 ⟨rfl, rfl⟩)
  go_ret
  exact ⟨rfl, bel (bel_alloc _ _) (bel_alloc _ _)⟩
 ·obtain ⟨a, b, c, d, e, -, hc⟩ := rrow_lt i.op hk
  have HROW : Hid (∀ w, Calls Tryz.prog 68 #[.int .i64 i.op] w fun x w' => x = .returned (.tuple #[.string ⟨#[a, b, c, d, e]⟩, .bool true]) ∧ w' = w) := hc
  rw [hk, Bool.true_and] at h
  clear hc hk
  obtain ⟨op, D, A, B, E, n, bt⟩ := i
  unfold insV
  simp only at HROW HCAN h ⊢
  cases ho : (op == 1)
  ·have ho' : (op != 1) = true := by simpa using ho
   cases hz : (bt == 0)
   ·have hz' : (bt != 0) = true := by simpa using hz
    clear h
    go_enter Tryz.func66, Tryz.ntmps66
    go_wp2_with (go_at_call 68; refine (HROW.out _).mono ?_; rintro e w1 ⟨rfl, rfl⟩)
    go_ret
    exact ⟨rfl, bel (bel_alloc _ _) (bel_alloc _ _)⟩
   ·rw [ho, hz, Bool.false_or, Bool.true_and] at h
    rw [h] at HCAN
    have hz' : (bt != 0) = false := by simpa using hz
    clear h
    go_enter Tryz.func66, Tryz.ntmps66
    go_wp2_with (first
     | (go_at_call 68; refine (HROW.out _).mono ?_; rintro e w1 ⟨rfl, rfl⟩)
     | (go_at_call 65; refine (HCAN.out _).mono ?_; rintro e w2 ⟨rfl, hb2⟩; have HB2 : Hid _ := hb2; clear hb2))
    go_ret
    exact ⟨rfl, bel (bel (bel_alloc _ _) (bel_alloc _ _)) HB2.out⟩
  ·rw [ho, Bool.true_or, Bool.true_and] at h
   rw [h] at HCAN
   have ho' : (op != 1) = false := by simpa using ho
   clear h
   go_enter Tryz.func66, Tryz.ntmps66
   go_wp2_with (first
    | (go_at_call 68; refine (HROW.out _).mono ?_; rintro e w1 ⟨rfl, rfl⟩)
    | (go_at_call 65; refine (HCAN.out _).mono ?_; rintro e w2 ⟨rfl, hb2⟩; have HB2 : Hid _ := hb2; clear hb2))
   go_ret
   exact ⟨rfl, bel (bel (bel_alloc _ _) (bel_alloc _ _)) HB2.out⟩
structure TW (w : World) (v0 v1 v2 v3 : Value) (J : Nat) (op D A B E n bt : Int) (v : World) : Prop where
 bel : Below w.heap.size w v
 c0 : v.cell? ⟨w.heap.size, 0, none⟩ = some v0
 c1 : v.cell? ⟨w.heap.size, 1, none⟩ = some v1
 c2 : v.cell? ⟨w.heap.size, 2, none⟩ = some v2
 c3 : v.cell? ⟨w.heap.size, 3, none⟩ = some v3
 i0 : v.cell? ⟨J, 0, none⟩ = some (.int .i64 op)
 i1 : v.cell? ⟨J, 1, none⟩ = some (.int .i64 D)
 i2 : v.cell? ⟨J, 2, none⟩ = some (.int .i64 A)
 i3 : v.cell? ⟨J, 3, none⟩ = some (.int .i64 B)
 i4 : v.cell? ⟨J, 4, none⟩ = some (.int .i64 E)
 i5 : v.cell? ⟨J, 5, none⟩ = some (.int .i64 n)
 i6 : v.cell? ⟨J, 6, none⟩ = some (.int .u32 bt)
theorem TW.next {w : World} {v0 v1 v2 v3 : Value} {J : Nat} {op D A B E n bt : Int} {v v' : World} (h : TW w v0 v1 v2 v3 J op D A B E n bt v) (k : Below v.heap.size v v') : TW w v0 v1 v2 v3 J op D A B E n bt v' :=
 ⟨Go.Proofs.YtgcmnkanjcfndaaGreatDoor.bel h.bel k, kc k h.c0, kc k h.c1, kc k h.c2, kc k h.c3, kc k h.i0, kc k h.i1, kc k h.i2, kc k h.i3, kc k h.i4, kc k h.i5, kc k h.i6⟩
theorem TW.keep {w : World} {v0 v1 v2 v3 : Value} {J : Nat} {op D A B E n bt : Int} {v : World} (h : TW w v0 v1 v2 v3 J op D A B E n bt v) {g o : Nat} (x : Value) (h1 : w.heap.size < g) (h2 : g ≠ J) : TW w v0 v1 v2 v3 J op D A B E n bt (v.setCell ⟨g, o, none⟩ x) := by
 have f1 : ∀ j, (v.setCell ⟨g, o, none⟩ x).cell? ⟨w.heap.size, j, none⟩ = v.cell? ⟨w.heap.size, j, none⟩ := fun j => World.cell?_of_block (Below.heap_setCell _ _ _ _ (by show w.heap.size ≠ g; omega))
 have f2 : ∀ j, (v.setCell ⟨g, o, none⟩ x).cell? ⟨J, j, none⟩ = v.cell? ⟨J, j, none⟩ := fun j => World.cell?_of_block (Below.heap_setCell _ _ _ _ (by show J ≠ g; omega))
 exact ⟨h.bel.setCell (by show w.heap.size ≤ g; omega) _, (f1 0).trans h.c0, (f1 1).trans h.c1, (f1 2).trans h.c2, (f1 3).trans h.c3, (f2 0).trans h.i0, (f2 1).trans h.i1, (f2 2).trans h.i2, (f2 3).trans h.i3, (f2 4).trans h.i4, (f2 5).trans h.i5, (f2 6).trans h.i6⟩
theorem TW.start (w : World) (v0 v1 v2 v3 : Value) (op D A B E n bt : Int) : TW w v0 v1 v2 v3 (w.heap.size + 1) op D A B E n bt ((w.alloc (.cells #[v0, v1, v2, v3] 27)).alloc (.cells #[.int .i64 op, .int .i64 D, .int .i64 A, .int .i64 B, .int .i64 E, .int .i64 n, .int .u32 bt] 46)) := by
 have k := bel_alloc (w.alloc (.cells #[v0, v1, v2, v3] 27)) (.cells #[.int .i64 op, .int .i64 D, .int .i64 A, .int .i64 B, .int .i64 E, .int .i64 n, .int .u32 bt] 46)
 exact ⟨Go.Proofs.YtgcmnkanjcfndaaGreatDoor.bel (bel_alloc _ _) k, kc k (by simp [go_sem]), kc k (by simp [go_sem]), kc k (by simp [go_sem]), kc k (by simp [go_sem]), by simp [go_sem], by simp [go_sem], by simp [go_sem], by simp [go_sem], by simp [go_sem], by simp [go_sem], by simp [go_sem]⟩
theorem bel_drewR {n : Nat} {w v : World} (h : Below n w v) : Below n w v.drew := h.drew
end Go.Proofs.YtgcmnkanjcfndaaGreatDoor
