import Derived.Test.YtnlgkkbmbijndaaGreatBck20
import Derived.Deep.DeepCutAuto
import Derived.Test.YtnlgkkbmbijndaaGreatBck17
/- Package code: the reader: a list of parameters. By program (tool/layer25/genrl.py). -/
namespace Go.Proofs.YtnlgkkbmbijndaaGreat
open Go.RowKit
set_option linter.unusedVariables false
set_option linter.unusedSimpArgs false

set_option maxRecDepth 100000 in
set_option maxHeartbeats 8000000 in
theorem rlistP_any (E RB : Nat) (s : ByteArray) (A : Nat) (w : World) (h : RdM E RB s A w) (hA : A ≤ s.size) (hs : s.size ≤ 140737488355328) (hE : E ≤ w.heap.size) :
    Calls Tryz.prog 50 #[.pointer (some ⟨RB, 0, none⟩), .int .i64 64, .func (.func 51) #[.pointer (some ⟨RB, 0, none⟩)] #[]] w (RdL E RB s w 59 3 parCells (pLst 64 pPar ((bytN s).drop A) A)) := by
  have KN : Calls Tryz.prog 84 #[.pointer (some ⟨RB, 0, none⟩), .int .i64 64] w (RdT E RB s w (fun (b : Nat) => .int .i64 (b : Int)) (pCount 64 ((bytN s).drop A) A)) := count_any E RB s A 64 w h hA hs hE
  have hRB : RB < w.heap.size := h.b.lt
  cases hq : pCount 64 ((bytN s).drop A) A with
  | error er =>
    obtain ⟨er, at_⟩ := er
    have HP : Hid (pLst 64 pPar ((bytN s).drop A) A = .error (er, at_)) := by show pLst _ _ _ _ = _; unfold pLst; exact pBind_err hq
    rw [HP.out]
    rw [hq] at KN
    have KN' := hidC KN
    unfold RdT flt at KN'
    unfold RdL flt
    simp only at KN' ⊢
    clear h KN hq HP hRB
    go_enter Tryz.func50, Tryz.ntmps50
    go_wp2_with (go_at_call 84; (with_reducible refine KN'.out.mono ?_); rintro e9 w4 ⟨rfl, hb4, ho4⟩; have HB4 := hidC hb4; have HO4 := hidC ho4; clear hb4 ho4)
    exact ⟨rfl, rfl, HB4.out, HO4.out⟩
  | ok r =>
    obtain ⟨N, l1, A1⟩ := r
    have hN := pCount_in hq
    rw [hq] at KN
    have KN' := hidC KN
    unfold RdT at KN'
    simp only at KN'
    have HST : Hid (l1 = (bytN s).drop A1 → pLst 64 pPar ((bytN s).drop A) A = pMore pPar (N - 0) [] ((bytN s).drop A1) A1) := fun e => by
      unfold pLst
      rw [pBind_at hq, Nat.sub_zero, pMore_start, e]
    obtain ⟨R, hR⟩ : ∃ R, pLst 64 pPar ((bytN s).drop A) A = R := ⟨_, rfl⟩
    rw [hR] at HST ⊢
    have HRB := hidC hRB
    have HE := hidC hE
    have HS := hidC hs
    clear h KN hq hR hRB hA hs hE
    go_enter Tryz.func50, Tryz.ntmps50
    go_upto_block 0 with (go_at_call 84; (with_reducible refine KN'.out.mono ?_); rintro e9 w4 ⟨rfl, hb4, ho4, hm4, hl4, hd4⟩; have HJ0 := hidC (And.intro hb4 (And.intro ho4 (And.intro hm4 (And.intro hl4 hd4)))); clear hb4 ho4 hm4 hl4 hd4)
    go_wp2_with fail
    go_loopw [7, 11] (fun lv iv wx => ∃ (k A' : Nat) (xs : List Par) (p : Option Addr) (q : Nat), k ≤ N ∧ iv = .int .i64 (k : Int) ∧ lv = .slice p k q ∧ Hid (xs.length = k ∧ Below E w wx ∧ RdO RB w wx ∧ RdM E RB s A' wx ∧ A' ≤ s.size ∧ wx.ownsRow w.heap.size 59 3 (.slice p k q) k (flat parCells xs) ∧ R = pMore pPar (N - k) xs ((bytN s).drop A') A')) (fun _ iv _ => N - (intOf iv).toNat)
    case atStart =>
      obtain ⟨j1, j2, j3, j4, j5⟩ := HJ0.out
      exact ⟨0, A1, [], none, 0, Nat.zero_le _, rfl, rfl, rfl, j1, j2, j3, j4, World.ownsRow_nil _ _ _ 3, HST.out j5⟩
    case round =>
      clear HJ0 HST KN'
      obtain ⟨k, A', xs, p, q, hk, rfl, rfl, HJ⟩ := hrel
      by_cases hlt : k < N
      · obtain ⟨j1, j2, j3, j4, j5, j6, j7⟩ := HJ.out
        have e1 : (k : Int) < (N : Int) := by omega
        have hEr : E ≤ wr.heap.size := Nat.le_trans HE.out j3.1
        have KX := param_any E RB s A' wr j4 j5 HS.out hEr
        rw [show N - k = (N - (k + 1)) + 1 by omega, pMore_step] at j7
        cases hq2 : pPar ((bytN s).drop A') A' with
        | error er =>
          obtain ⟨er, at_⟩ := er
          rw [pBind_err hq2] at j7
          rw [hq2] at KX
          have KX' := hidC KX
          unfold RdT flt at KX'
          simp only at KX'
          have HG : Hid (∀ w', Below E wr w' → RdO RB wr w' → RdL E RB s w 59 3 parCells R (flt er at_) w') := fun w' a b => by rw [j7]; exact ⟨rfl, j2.trans a, j3.trans b⟩
          unfold flt at HG
          clear j1 j2 j3 j4 j5 j6 j7 hq2 KX HJ hEr hlt
          go_wp2_with (go_at_call 51; (with_reducible refine KX'.out.mono ?_); rintro e9 w5 ⟨rfl, hb5, ho5⟩; have HR5 := hidC (HG.out _ hb5 ho5); clear hb5 ho5)
          exact ⟨rfl, HR5.out⟩
        | ok r =>
          obtain ⟨x, l2, A2⟩ := r
          rw [pBind_at hq2] at j7
          rw [hq2] at KX
          have KX' := hidC KX
          unfold RdT at KX'
          simp only [pv] at KX'
          have HAP : Hid (∀ w5, RdO RB wr w5 → ∃ g c' w6, (Builtin.append_ #[22, 22] 22 #[.slice p k q, .slice (some ⟨w5.heap.size, 0, none⟩) 1 1]).run Tryz.prog (w5.alloc (.cells #[.string (x.name), .int .i64 (x.kind), .int .i64 (x.len)] 59)) = .ok (.slice (some ⟨g, 0, none⟩) (k + 1) c') w6 ∧ Below w.heap.size w5 w6 ∧ w6.ownsRow w.heap.size 59 3 (.slice (some ⟨g, 0, none⟩) (k + 1) c') (k + 1) (flat parCells (xs ++ [x]))) := fun w5 ho => by
            have hown : w5.ownsRow w.heap.size 59 3 (.slice p k q) k (flat parCells xs) := own_keep j6 fun b hb => ho.2 b (j6.lt b hb).2 (fun e => by have := (j6.lt b hb).1; have := HRB.out; omega)
            obtain ⟨g, c', w6, a1, a2, a3, -⟩ := own_app2 Tryz.underlying22 info_Param rfl (by decide) hown (Nat.le_trans j3.1 ho.1) #[.string (x.name), .int .i64 (x.kind), .int .i64 (x.len)] rfl (fun u hu => parC_one x u hu) (by unfold maxLen; omega) (by omega) 22
            refine ⟨g, c', w6, a1, a2, ?_⟩
            rw [flat_snoc]
            exact a3
          have HG : Hid (∀ w5 w6, Below E wr w5 → RdO RB wr w5 → RdM E RB s A2 w5 → Below w.heap.size w5 w6 → Below E w w6 ∧ RdO RB w w6 ∧ RdM E RB s A2 w6) := fun w5 w6 a b c d =>
            ⟨(j2.trans a).trans (d.mono HE.out), ⟨Nat.le_trans (j3.trans b).1 d.size, fun i hi hne => (d.block i hi).trans ((j3.trans b).2 i hi hne)⟩, ⟨c.b.of_block (d.block _ HRB.out), c.ge⟩⟩
          have HXL : Hid ((xs ++ [x]).length = k + 1) := by show _ = _; rw [List.length_append, j1]; rfl
          have H7 := hidC j7
          have wi : IntKind.i64.wrap ((k : Int) + 1) = ((k + 1 : Nat) : Int) := by rw [IntKind.wrap_i64]; omega
          clear j1 j2 j3 j4 j5 j6 j7 hq2 KX HJ hEr
          go_wp2_with (first | (go_at_call 51; (with_reducible refine KX'.out.mono ?_); rintro e9 w5 ⟨rfl, hb5, ho5, hm5, hl5, hd5⟩; obtain ⟨g, c', w6, hrun, hb6, ho6⟩ := HAP.out w5 ho5; have HRUN := hidC hrun; have HO6 := hidC ho6; have HQ := hidC (HG.out w5 w6 hb5 ho5 hm5 hb6); have HL5 := hidC hl5; have HD5 := hidC hd5; clear hb5 ho5 hm5 hl5 hd5 hrun hb6 ho6) | (at_builtin; refine wpList_app (by rfl) _ _ _ (by rfl) _ _ _ (by rfl) (by rfl) HRUN.out ?_))
          go_roundw
          case rel => exact ⟨k + 1, A2, xs ++ [x], some ⟨g, 0, none⟩, c', by omega, by go_num, rfl, HXL.out, HQ.out.1, HQ.out.2.1, HQ.out.2.2, HL5.out, HO6.out, by rw [← HD5.out]; exact H7.out⟩
          case measure => simp [intOf]; omega
      · obtain ⟨j1, j2, j3, j4, j5, j6, j7⟩ := HJ.out
        have e1 : ¬ (k : Int) < (N : Int) := by omega
        rw [show N - k = 0 by omega, pMore_end] at j7
        have HG : Hid (RdL E RB s w 59 3 parCells R (.returned (.slice p k q)) wr) := by show RdL _ _ _ _ _ _ _ _ _ _; rw [j7]; exact ⟨_, rfl, by rw [j1]; exact j6, j2, j3, j4, j5, rfl⟩
        clear j1 j2 j3 j4 j5 j6 j7 HJ hlt
        go_wp2
        refine bodyPost_ret (by simp [results, Tryz.results50, go_sem, *]; try rfl) rfl ?_
        exact HG.out

end Go.Proofs.YtnlgkkbmbijndaaGreat
/- Package code: the reader: instruction. -/
namespace Go.Proofs.YtnlgkkbmbijndaaGreat
open Go.RowKit
set_option linter.unusedVariables false
set_option linter.unusedSimpArgs false

/-- An instruction's cells. -/
def in7 (i : Ins) (j : Nat) : Value := if j = 0 then .int .i64 i.op else if j = 1 then .int .i64 i.d else if j = 2 then .int .i64 i.a else if j = 3 then .int .i64 i.b else if j = 4 then .int .i64 i.c else if j = 5 then .int .i64 i.n else .int .u32 i.bits
theorem in7_set (i : Ins) {o : Nat} (h1 : 1 ≤ o) (h2 : o ≤ 5) (v : Int) (j : Nat) (hj : j < 7) : (if j = o then Value.int .i64 v else in7 i j) = in7 (setF i o v) j := by
  rcases (show o = 1 ∨ o = 2 ∨ o = 3 ∨ o = 4 ∨ o = 5 by omega) with rfl | rfl | rfl | rfl | rfl <;> rcases (show j = 0 ∨ j = 1 ∨ j = 2 ∨ j = 3 ∨ j = 4 ∨ j = 5 ∨ j = 6 by omega) with rfl | rfl | rfl | rfl | rfl | rfl | rfl <;> rfl
theorem in7_bits (i : Ins) (v : Int) (j : Nat) (hj : j < 7) : (if j = 6 then Value.int .u32 v else in7 i j) = in7 { i with bits := v } j := by
  rcases (show j = 0 ∨ j = 1 ∨ j = 2 ∨ j = 3 ∨ j = 4 ∨ j = 5 ∨ j = 6 by omega) with rfl | rfl | rfl | rfl | rfl | rfl | rfl <;> rfl
theorem in7_cells {w : World} {X : Nat} {i : Ins} (h : w.rowIs X 70 7 (in7 i)) : CellsAt w X 0 (inC i) := fun j hj => by
  have hj' : j < 7 := hj
  have h9 := h.cell hj'
  rw [Nat.zero_add, h9]
  rcases (show j = 0 ∨ j = 1 ∨ j = 2 ∨ j = 3 ∨ j = 4 ∨ j = 5 ∨ j = 6 by omega) with rfl | rfl | rfl | rfl | rfl | rfl | rfl <;> rfl
theorem in7_at {w : World} {X : Nat} {i : Ins} (h : w.rowIs X 70 7 (in7 i)) {o : Nat} (h1 : 1 ≤ o) (h2 : o ≤ 5) : ∃ v, w.cell? ⟨X, o, none⟩ = some (.int .i64 v) := by
  have h9 := h.cell (i := o) (by omega)
  rcases (show o = 1 ∨ o = 2 ∨ o = 3 ∨ o = 4 ∨ o = 5 by omega) with rfl | rfl | rfl | rfl | rfl <;> exact ⟨_, h9⟩
theorem pFs_at {os : List Nat} {k : Nat} (h : k < os.length) (i : Ins) : pFs (os.drop k) i = pBind pNum fun n => pFs (os.drop (k + 1)) (setF i os[k] (n : Int)) := by
  rw [List.drop_eq_getElem_cons h]
  rfl
theorem fldO_in {op : Nat} (h1 : 1 ≤ op) (h2 : op ≤ 37) : ∀ o ∈ fldO (ins0 op), 1 ≤ o ∧ o ≤ 5 := fun o ho => by
  rw [fld_O (i := ins0 op) op rfl] at ho
  rcases List.mem_append.1 ho with ho | ho
  · rcases List.mem_append.1 ho with ho | ho
    · split at ho <;> simp at ho; omega
    · have := List.mem_of_mem_take ho
      simp at this
      omega
  · split at ho <;> simp at ho; omega

set_option maxRecDepth 100000 in
set_option maxHeartbeats 16000000 in
theorem rins_any (E RB : Nat) (s : ByteArray) (A : Nat) (w : World) (h : RdM E RB s A w) (hA : A ≤ s.size) (hs : s.size ≤ 140737488355328) (hE : E ≤ w.heap.size) :
    Calls Tryz.prog 57 #[.pointer (some ⟨RB, 0, none⟩)] w (RdT E RB s w insV (pIns ((bytN s).drop A) A)) := by
  obtain ⟨W0, hW0⟩ : ∃ W, w.alloc (.cells #[.int .i64 0, .int .i64 0, .int .i64 0, .int .i64 0, .int .i64 0, .int .i64 0, .int .u32 0] 70) = W := ⟨_, rfl⟩
  have hb0 : Below w.heap.size w W0 := by rw [← hW0]; exact bel_alloc _ _
  have h0 := h.below hb0
  have hE0 : E ≤ W0.heap.size := Nat.le_trans hE hb0.size
  obtain ⟨X, hX⟩ : ∃ X, w.heap.size = X := ⟨_, rfl⟩
  have hXR : X ≠ RB := by have := h.b.lt; omega
  have hr0 : W0.rowIs X 70 7 (in7 (ins0 0)) := by
    rw [← hW0, ← hX]
    exact World.rowIs_alloc w #[.int .i64 0, .int .i64 0, .int .i64 0, .int .i64 0, .int .i64 0, .int .i64 0, .int .u32 0] 70 _ (fun i hi => by
      rcases (show i = 0 ∨ i = 1 ∨ i = 2 ∨ i = 3 ∨ i = 4 ∨ i = 5 ∨ i = 6 by have : i < 7 := hi; omega) with rfl | rfl | rfl | rfl | rfl | rfl | rfl <;> rfl)
  have KS : Calls Tryz.prog 85 #[.pointer (some ⟨RB, 0, none⟩), .int .i64 1, .int .i64 37] W0 (RdT E RB s W0 (fun (b : Nat) => .int .i64 (b : Int)) (pByte 1 37 ((bytN s).drop A) A)) := small_any E RB s A 1 37 W0 h0 hA hs hE0
  obtain ⟨R, hR⟩ : ∃ R, pIns ((bytN s).drop A) A = R := ⟨_, rfl⟩
  rw [hR]
  rw [pIns_eq] at hR
  have HRS := hidC ((Rds.start h).below hE hb0)
  cases hq : pByte 1 37 ((bytN s).drop A) A with
  | error er =>
    obtain ⟨er, at_⟩ := er
    have HP : R = .error (er, at_) := by rw [← hR]; exact pBind_err hq
    rw [hq] at KS
    have KS' := hidC KS
    have HG : Hid (∀ w', Below E W0 w' → RdO RB W0 w' → RdT E RB s w insV R (flt er at_) w') := fun w' a b => by rw [HP]; exact HRS.out.bad insV er at_ a b
    unfold RdT flt at KS'
    unfold flt at HG
    simp only at KS'
    clear h h0 hb0 hr0 KS hq HP hR hX hXR hE0
    go_enter Tryz.func57, Tryz.ntmps57
    go_upto_region 1 with fail
    try rw [hW0]
    clear hW0
    go_wp2_with (go_at_call 85; (with_reducible refine KS'.out.mono ?_); rintro e9 w4 ⟨rfl, hb4, ho4⟩; have HR5 := hidC (HG.out _ hb4 ho4); clear hb4 ho4)
    exact ⟨rfl, HR5.out⟩
  | ok r =>
    obtain ⟨k, l', A1⟩ := r
    have hk := pByte_in hq
    rw [pBind_at hq] at hR
    rw [hq] at KS
    have KS' := hidC KS
    unfold RdT at KS'
    simp only at KS'
    have HR0 := hidC hr0
    have HRB := hidC h.b.lt
    have HX : Hid (w.heap.size ≤ X) := Nat.le_of_eq hX
    have HRR := hidC hR
    clear h h0 hb0 hr0 KS hE0 hR hq
    go_enter Tryz.func57, Tryz.ntmps57
    go_upto_region 1 with fail
    try rw [hW0]
    try rw [hX]
    clear hW0 hX
    go_upto_region 2 with (go_at_call 85; (with_reducible refine KS'.out.mono ?_); rintro e9 w4 ⟨rfl, hb4, ho4, hm4, hl4, hd4⟩; have HB4 := hidC hb4; have HO4 := hidC ho4; have HM4 := hidC hm4; have HD4 := hidC hd4; have HL4 := hidC hl4; clear hb4 ho4 hm4 hl4 hd4)
    obtain ⟨Y, hY⟩ : ∃ Y, w4.heap.size = Y := ⟨_, rfl⟩
    obtain ⟨V, hV⟩ : ∃ V, w4.alloc (.cells #[.int .i64 (k : Int), .int .i64 0, .int .i64 0, .int .i64 0, .int .i64 0, .int .i64 0, .int .u32 0] 70) = V := ⟨_, rfl⟩
    have hbV : Below w4.heap.size w4 V := by rw [← hV]; exact bel_alloc _ _
    have r4 := rdo_row HO4.out HR0.out hXR
    have rx := r4.of_block (hbV.block _ r4.lt)
    have ry : V.rowIs Y 70 7 (in7 (ins0 k)) := by
      rw [← hV, ← hY]
      exact World.rowIs_alloc w4 #[.int .i64 (k : Int), .int .i64 0, .int .i64 0, .int .i64 0, .int .i64 0, .int .i64 0, .int .u32 0] 70 _ (fun i hi => by
      rcases (show i = 0 ∨ i = 1 ∨ i = 2 ∨ i = 3 ∨ i = 4 ∨ i = 5 ∨ i = 6 by have : i < 7 := hi; omega) with rfl | rfl | rfl | rfl | rfl | rfl | rfl <;> rfl)
    have hXY : X ≠ Y := by have := r4.lt; omega
    have hYR : Y ≠ RB := by have := HM4.out.b.lt; omega
    have hwY : w.heap.size ≤ Y := by have := r4.lt; have := HX.out; omega
    have D1 : Rds E RB s A1 w V := ((HRS.out.next HB4.out HO4.out HM4.out).below hE hbV)
    have KF := fields_any Y (ins0 k) (by show (1 : Int) ≤ (k : Int); omega) (by show (k : Int) ≤ 37; omega) V (in7_cells ry)
    have hR := HRR.out
    rw [HD4.out] at hR
    have HFI := hidC (fldO_in hk.1 hk.2)
    obtain ⟨F, hF⟩ : ∃ F, fldO (ins0 k) = F := ⟨_, rfl⟩
    rw [hF] at KF hR HFI
    obtain ⟨N, hN⟩ : ∃ N, F.length = N := ⟨_, rfl⟩
    rw [hN] at KF
    have hN5 : N ≤ 5 := by rw [← hN, ← hF]; exact fld_len _
    have HN := hidC hN
    have HRR2 := hidC hR
    have KF' := hidC KF
    have HD1 := hidC D1
    have HRX := hidC rx
    have HRY := hidC ry
    have HYL : Hid (Y < V.heap.size) := ry.lt
    try rw [hV]
    try rw [hY]
    clear hV hY hbV HRR KS' HB4 HO4 HM4 HD4 HR0 HRS D1 rx ry r4 KF hR hF hN
    go_upto_block 0 with (go_at_call 81; (with_reducible refine KF'.out.mono ?_); rintro e9 w5 ⟨q5, d5, rfl, ho5, hb5⟩; have HB5 := hidC hb5; have HF5 := hidC ho5; clear hb5 ho5)
    have HPC : Hid (∀ (u : World), (∀ b, V.heap.size ≤ b → b < w5.heap.size → u.heap[b]? = w5.heap[b]?) → ∀ j (hj : j < F.length), ∃ gb, q5 = some ⟨gb, 0, none⟩ ∧ u.cell? ⟨gb, j, none⟩ = some (.pointer (some ⟨Y, F[j], none⟩))) := fun u hu j hj => by
      have hF5 := HF5.out
      rcases hF5.2 with ⟨e1, e2⟩ | ⟨gb, cap, cur, e1, -, -⟩
      · exact absurd e2 (by have := HN.out; omega)
      · simp only [Value.slice.injEq] at e1
        have hq : q5 = some ⟨gb, 0, none⟩ := e1.1
        have hob : (Value.slice q5 N d5).ownBlock = some gb := by rw [hq]; rfl
        have hlt := hF5.lt gb hob
        have hc := hF5.cells hob j (.pointer (some ⟨Y, F[j], none⟩)) (by simp [ptrN, hj])
        have hadd : (⟨gb, 0, none⟩ : Addr).add j = ⟨gb, j, none⟩ := by unfold Addr.add; split <;> simp_all
        rw [hadd] at hc
        exact ⟨gb, hq, (World.cell?_of_block (hu gb hlt.1 hlt.2) (a := ⟨gb, j, none⟩)).trans hc⟩
    have HSt : Hid (Rds E RB s A1 w w5 ∧ w5.rowIs X 70 7 (in7 (ins0 0)) ∧ w5.rowIs Y 70 7 (in7 (ins0 k))) := ⟨HD1.out.below hE HB5.out, HRX.out.of_block (HB5.out.block _ HRX.out.lt), HRY.out.of_block (HB5.out.block _ HRY.out.lt)⟩
    have HRV : Hid (RB < V.heap.size ∧ V.heap.size ≤ w5.heap.size) := ⟨HD1.out.2.2.b.lt, HB5.out.size⟩
    clear HB5 HF5 HD1 HRX HRY KF'
    go_wp2_with fail
    go_loopw [11] (fun iv wx => ∃ (j A' : Nat) (i : Ins), j ≤ N ∧ iv = .int .i64 (j : Int) ∧ Hid ((i.op = (k : Int) ∧ i.bits = 0) ∧ Rds E RB s A' w wx ∧ A' ≤ s.size ∧ wx.rowIs X 70 7 (in7 (ins0 0)) ∧ wx.rowIs Y 70 7 (in7 i) ∧ (∀ b, V.heap.size ≤ b → b < w5.heap.size → wx.heap[b]? = w5.heap[b]?) ∧ w5.heap.size ≤ wx.heap.size ∧ R = pBind (pFs (F.drop j) i) (fun i => pBind (pBit k) fun z => pPure { i with bits := z }) ((bytN s).drop A') A')) (fun iv _ => N - (intOf iv).toNat)
    case atStart => exact ⟨0, A1, ins0 k, Nat.zero_le _, rfl, ⟨rfl, rfl⟩, HSt.out.1, HL4.out, HSt.out.2.1, HSt.out.2.2, fun _ _ _ => rfl, Nat.le_refl _, HRR2.out.symm⟩
    case round =>
      clear HSt HRR2
      obtain ⟨j, A', i, hj, rfl, HJ⟩ := hrel
      obtain ⟨jop, j1, j2, j3, j4, j5, j5b, j6⟩ := HJ.out
      by_cases hlt : j < N
      · have hjl : j < F.length := by have := HN.out; omega
        have e1 : (j : Int) < (N : Int) := by omega
        have i1 : (0 : Int) ≤ (j : Int) := by omega
        obtain ⟨gb, rfl, hgc⟩ := HPC.out wr j5 j hjl
        obtain ⟨ho1, ho2⟩ := HFI.out F[j] (List.getElem_mem hjl)
        rw [pFs_at hjl, pBind_assoc] at j6
        obtain ⟨o, hoe⟩ : ∃ o, F[j] = o := ⟨_, rfl⟩
        rw [hoe] at hgc ho1 ho2 j6
        have KN := number_any E RB s A' wr j1.2.2 j2 hs (Nat.le_trans hE j1.2.1.1)
        cases hq3 : pNum ((bytN s).drop A') A' with
        | error er =>
          obtain ⟨er, at_⟩ := er
          rw [pBind_err hq3] at j6
          rw [hq3] at KN
          have KN' := hidC KN
          unfold RdT flt at KN'
          simp only at KN'
          have HG : Hid (∀ w', Below E wr w' → RdO RB wr w' → RdT E RB s w insV R (flt er at_) w') := fun w' a b => by rw [j6]; exact j1.bad insV er at_ a b
          unfold flt at HG
          clear j1 j2 j3 j4 j5 j5b j6 jop hq3 KN HJ hlt hoe HPC HFI
          go_wp2_with (go_at_call 87; (with_reducible refine KN'.out.mono ?_); rintro e9 w7 ⟨rfl, hb7, ho7⟩; have HR7 := hidC (HG.out _ hb7 ho7); clear hb7 ho7)
          exact ⟨rfl, HR7.out⟩
        | ok r =>
          obtain ⟨n, l3, A3⟩ := r
          rw [pBind_at hq3] at j6
          rw [hq3] at KN
          have KN' := hidC KN
          unfold RdT at KN'
          simp only at KN'
          have HG : Hid (∀ w', Below E wr w' → RdO RB wr w' → RdM E RB s A3 w' → Rds E RB s A3 w w' ∧ w'.rowIs X 70 7 (in7 (ins0 0)) ∧ w'.rowIs Y 70 7 (in7 i) ∧ (∀ b, V.heap.size ≤ b → b < w5.heap.size → w'.heap[b]? = w5.heap[b]?) ∧ w5.heap.size ≤ w'.heap.size) := fun w' a b c => ⟨j1.next a b c, rdo_row b j3 hXR, rdo_row b j4 hYR, fun x h1 h2 => (b.2 x (by omega) (by have := HRV.out; omega)).trans (j5 x h1 h2), Nat.le_trans j5b b.1⟩
          have H6 := hidC j6
          have HOP := hidC jop
          have wi : IntKind.i64.wrap ((j : Int) + 1) = ((j + 1 : Nat) : Int) := by rw [IntKind.wrap_i64]; omega
          clear j1 j2 j3 j4 j5 j5b j6 jop hq3 KN HJ hoe HPC HFI
          go_wp2_with (go_at_call 87; (with_reducible refine KN'.out.mono ?_); rintro e9 w7 ⟨rfl, hb7, ho7, hm7, hl7, hd7⟩; obtain ⟨D7, x7, z7, u7, s7⟩ := HG.out _ hb7 ho7 hm7; have HL7 := hidC hl7; have HD7 := hidC hd7; obtain ⟨vo, y7⟩ := in7_at z7 ho1 ho2; have f7 := z7.frozen o; have HD := hidC (D7.set hE HRB.out hwY o (.int .i64 (n : Int))); have HX7 : Hid ((w7.setCell ⟨Y, o, none⟩ (.int .i64 (n : Int))).rowIs X 70 7 (in7 (ins0 0))) := x7.of_block (Below.heap_setCell _ _ _ _ hXY); have HZ7 : Hid ((w7.setCell ⟨Y, o, none⟩ (.int .i64 (n : Int))).rowIs Y 70 7 (in7 (setF i o (n : Int)))) := (z7.set o (.int .i64 (n : Int))).congr (in7_set i ho1 ho2 (n : Int)); have HU7 : Hid ((∀ b, V.heap.size ≤ b → b < w5.heap.size → (w7.setCell ⟨Y, o, none⟩ (.int .i64 (n : Int))).heap[b]? = w5.heap[b]?) ∧ w5.heap.size ≤ (w7.setCell ⟨Y, o, none⟩ (.int .i64 (n : Int))).heap.size) := ⟨fun b h1 h2 => (Below.heap_setCell _ _ _ _ (by show b ≠ Y; have := HYL.out; omega)).trans (u7 b h1 h2), by simpa using s7⟩; clear hb7 ho7 hm7 hl7 hd7 D7 x7 z7 u7 s7)
          go_roundw
          case rel => exact ⟨j + 1, A3, setF i o (n : Int), by omega, by go_num, ⟨(setF_op i o _).trans HOP.out.1, (setF_bits i o _).trans HOP.out.2⟩, HD.out, HL7.out, HX7.out, HZ7.out, HU7.out.1, HU7.out.2, by rw [← HD7.out]; exact H6.out⟩
          case measure => simp [intOf]; omega
      · have e1 : ¬ (j : Int) < (N : Int) := by omega
        have hjN : F.drop j = [] := List.drop_eq_nil_of_le (by have := HN.out; omega)
        rw [hjN, pFs, pBind_pure] at j6
        obtain ⟨iop, d, a, b, c, n, z⟩ := i
        obtain ⟨jop, jz⟩ := jop
        simp only at jop jz
        subst jop
        have HZ0 := hidC jz
        clear jz
        have y0 : wr.cell? ⟨Y, 0, none⟩ = some (.int .i64 (k : Int)) := j4.cell (i := 0) (by decide)
        have y1 : wr.cell? ⟨Y, 1, none⟩ = some (.int .i64 d) := j4.cell (i := 1) (by decide)
        have y2 : wr.cell? ⟨Y, 2, none⟩ = some (.int .i64 a) := j4.cell (i := 2) (by decide)
        have y3 : wr.cell? ⟨Y, 3, none⟩ = some (.int .i64 b) := j4.cell (i := 3) (by decide)
        have y4 : wr.cell? ⟨Y, 4, none⟩ = some (.int .i64 c) := j4.cell (i := 4) (by decide)
        have y5 : wr.cell? ⟨Y, 5, none⟩ = some (.int .i64 n) := j4.cell (i := 5) (by decide)
        have y6 : wr.cell? ⟨Y, 6, none⟩ = some (.int .u32 z) := j4.cell (i := 6) (by decide)
        clear hjN HJ HPC HFI hlt j5 j5b
        by_cases q : k = 1
        · have q2 : ((k : Int) == 1) = true := by rw [q]; rfl
          have hpb : pBit k = pBind (pFix 4) fun n => pPure (n : Int) := by unfold pBit; rw [if_pos q]
          rw [hpb, pBind_assoc] at j6
          have KN := pattern_any E RB s A' wr j1.2.2 j2 hs (Nat.le_trans hE j1.2.1.1)
          clear q hpb
          cases hq3 : pFix 4 ((bytN s).drop A') A' with
          | error er =>
            obtain ⟨er, at_⟩ := er
            rw [pBind_err hq3] at j6
            rw [hq3] at KN
            have KN' := hidC KN
            unfold RdT flt at KN'
            simp only at KN'
            have HG : Hid (∀ w', Below E wr w' → RdO RB wr w' → RdT E RB s w insV R (flt er at_) w') := fun w' a b => by rw [j6]; exact j1.bad insV er at_ a b
            unfold flt at HG
            clear j1 j2 j3 j4 j6 hq3 KN
            go_wp2_with (go_at_call 88; (with_reducible refine KN'.out.mono ?_); rintro e9 w7 ⟨rfl, hb7, ho7⟩; have HR7 := hidC (HG.out _ hb7 ho7); clear hb7 ho7)
            exact ⟨rfl, HR7.out⟩
          | ok r =>
            obtain ⟨m, l3, A3⟩ := r
            rw [pBind_at hq3, pBind_pure] at j6
            rw [hq3] at KN
            have KN' := hidC KN
            unfold RdT at KN'
            simp only at KN'
            have HRR : Hid (R = .ok (⟨(k : Int), d, a, b, c, n, (m : Int)⟩, l3, A3)) := j6
            have HG : Hid (∀ w', Below E wr w' → RdO RB wr w' → RdM E RB s A3 w' → Rds E RB s A3 w w' ∧ w'.rowIs X 70 7 (in7 (ins0 0)) ∧ w'.rowIs Y 70 7 (in7 ⟨(k : Int), d, a, b, c, n, z⟩)) := fun w' a b c => ⟨j1.next a b c, rdo_row b j3 hXR, rdo_row b j4 hYR⟩
            clear j1 j2 j3 j4 j6 hq3 KN y1 y2 y3 y4 y5 y6
            go_upto_region 9 with (go_at_call 88; (with_reducible refine KN'.out.mono ?_); rintro e9 w7 ⟨rfl, hb7, ho7, hm7, hl7, hd7⟩; obtain ⟨D7, x7, z7⟩ := HG.out _ hb7 ho7 hm7; have HL7 := hidC hl7; have HD7 := hidC hd7; have y7 : w7.cell? ⟨Y, 6, none⟩ = some (.int .u32 z) := z7.cell (i := 6) (by decide); have f7' := z7.frozen 6; clear hb7 ho7 hm7 hl7 hd7)
            obtain ⟨V3, hV3⟩ : ∃ V3, w7.setCell ⟨Y, 6, none⟩ (.int .u32 (m : Int)) = V3 := ⟨_, rfl⟩
            have xr := x7.of_block (w' := V3) (by rw [← hV3]; exact Below.heap_setCell _ _ _ _ hXY)
            have zr : V3.rowIs Y 70 7 (in7 ⟨(k : Int), d, a, b, c, n, (m : Int)⟩) := by
              rw [← hV3]
              exact (z7.set 6 (.int .u32 (m : Int))).congr (in7_bits _ _)
            have D8 : Rds E RB s A3 w V3 := by rw [← hV3]; exact D7.set hE HRB.out hwY 6 _
            have b0 : V3.cell? ⟨Y, 0, none⟩ = some (.int .i64 (k : Int)) := zr.cell (i := 0) (by decide)
            have b1 : V3.cell? ⟨Y, 1, none⟩ = some (.int .i64 d) := zr.cell (i := 1) (by decide)
            have b2 : V3.cell? ⟨Y, 2, none⟩ = some (.int .i64 a) := zr.cell (i := 2) (by decide)
            have b3 : V3.cell? ⟨Y, 3, none⟩ = some (.int .i64 b) := zr.cell (i := 3) (by decide)
            have b4 : V3.cell? ⟨Y, 4, none⟩ = some (.int .i64 c) := zr.cell (i := 4) (by decide)
            have b5 : V3.cell? ⟨Y, 5, none⟩ = some (.int .i64 n) := zr.cell (i := 5) (by decide)
            have b6 : V3.cell? ⟨Y, 6, none⟩ = some (.int .u32 (m : Int)) := zr.cell (i := 6) (by decide)
            have x0 : V3.cell? ⟨X, 0, none⟩ = some (.int .i64 0) := xr.cell (i := 0) (by decide)
            have f0 := xr.frozen 0
            have x1 : V3.cell? ⟨X, 1, none⟩ = some (.int .i64 0) := xr.cell (i := 1) (by decide)
            have f1 := xr.frozen 1
            have x2 : V3.cell? ⟨X, 2, none⟩ = some (.int .i64 0) := xr.cell (i := 2) (by decide)
            have f2 := xr.frozen 2
            have x3 : V3.cell? ⟨X, 3, none⟩ = some (.int .i64 0) := xr.cell (i := 3) (by decide)
            have f3 := xr.frozen 3
            have x4 : V3.cell? ⟨X, 4, none⟩ = some (.int .i64 0) := xr.cell (i := 4) (by decide)
            have f4 := xr.frozen 4
            have x5 : V3.cell? ⟨X, 5, none⟩ = some (.int .i64 0) := xr.cell (i := 5) (by decide)
            have f5 := xr.frozen 5
            have x6 : V3.cell? ⟨X, 6, none⟩ = some (.int .u32 0) := xr.cell (i := 6) (by decide)
            have f6 := xr.frozen 6
            have HD := hidC (((((((D8.set hE HRB.out HX.out 0 (.int .i64 (k : Int))).set hE HRB.out HX.out 1 (.int .i64 d)).set hE HRB.out HX.out 2 (.int .i64 a)).set hE HRB.out HX.out 3 (.int .i64 b)).set hE HRB.out HX.out 4 (.int .i64 c)).set hE HRB.out HX.out 5 (.int .i64 n)).set hE HRB.out HX.out 6 (.int .u32 (m : Int)))
            try rw [hV3]
            clear hV3 D7 D8 x7 z7 xr zr y7 f7' KN' HG
            go_wp2
            refine bodyPost_ret (by simp [results, Tryz.results57, go_sem, *]; try rfl) rfl ?_
            rw [HRR.out]
            exact HD.out.fin HL7.out HD7.out
        · have q2 : ((k : Int) == 1) = false := by simp; omega
          have hpb : pBit k = pPure 0 := by unfold pBit; rw [if_neg q]
          rw [hpb, pBind_pure] at j6
          have hz0 : z = 0 := HZ0.out
          subst hz0
          have HRR : Hid (R = .ok (⟨(k : Int), d, a, b, c, n, 0⟩, (bytN s).drop A', A')) := j6
          have xr := j3
          have D8 := j1
          have HL7 := hidC j2
          have x0 : wr.cell? ⟨X, 0, none⟩ = some (.int .i64 0) := xr.cell (i := 0) (by decide)
          have f0 := xr.frozen 0
          have x1 : wr.cell? ⟨X, 1, none⟩ = some (.int .i64 0) := xr.cell (i := 1) (by decide)
          have f1 := xr.frozen 1
          have x2 : wr.cell? ⟨X, 2, none⟩ = some (.int .i64 0) := xr.cell (i := 2) (by decide)
          have f2 := xr.frozen 2
          have x3 : wr.cell? ⟨X, 3, none⟩ = some (.int .i64 0) := xr.cell (i := 3) (by decide)
          have f3 := xr.frozen 3
          have x4 : wr.cell? ⟨X, 4, none⟩ = some (.int .i64 0) := xr.cell (i := 4) (by decide)
          have f4 := xr.frozen 4
          have x5 : wr.cell? ⟨X, 5, none⟩ = some (.int .i64 0) := xr.cell (i := 5) (by decide)
          have f5 := xr.frozen 5
          have x6 : wr.cell? ⟨X, 6, none⟩ = some (.int .u32 0) := xr.cell (i := 6) (by decide)
          have f6 := xr.frozen 6
          have HD := hidC (((((((D8.set hE HRB.out HX.out 0 (.int .i64 (k : Int))).set hE HRB.out HX.out 1 (.int .i64 d)).set hE HRB.out HX.out 2 (.int .i64 a)).set hE HRB.out HX.out 3 (.int .i64 b)).set hE HRB.out HX.out 4 (.int .i64 c)).set hE HRB.out HX.out 5 (.int .i64 n)).set hE HRB.out HX.out 6 (.int .u32 0))
          clear D8 xr j1 j2 j3 j4 j6 hpb q
          go_wp2
          refine bodyPost_ret (by simp [results, Tryz.results57, go_sem, *]; try rfl) rfl ?_
          rw [HRR.out]
          exact HD.out.fin HL7.out rfl

end Go.Proofs.YtnlgkkbmbijndaaGreat
/- Package code: the reader: a list of instructions. By program (tool/layer25/genrl.py). -/
namespace Go.Proofs.YtnlgkkbmbijndaaGreat
open Go.RowKit
set_option linter.unusedVariables false
set_option linter.unusedSimpArgs false

set_option maxRecDepth 100000 in
set_option maxHeartbeats 8000000 in
theorem rlistI_any (E RB : Nat) (s : ByteArray) (A : Nat) (w : World) (h : RdM E RB s A w) (hA : A ≤ s.size) (hs : s.size ≤ 140737488355328) (hE : E ≤ w.heap.size) :
    Calls Tryz.prog 56 #[.pointer (some ⟨RB, 0, none⟩), .int .i64 32768, .func (.func 57) #[.pointer (some ⟨RB, 0, none⟩)] #[]] w (RdL E RB s w 70 7 inC (pLst 32768 pIns ((bytN s).drop A) A)) := by
  have KN : Calls Tryz.prog 84 #[.pointer (some ⟨RB, 0, none⟩), .int .i64 32768] w (RdT E RB s w (fun (b : Nat) => .int .i64 (b : Int)) (pCount 32768 ((bytN s).drop A) A)) := count_any E RB s A 32768 w h hA hs hE
  have hRB : RB < w.heap.size := h.b.lt
  cases hq : pCount 32768 ((bytN s).drop A) A with
  | error er =>
    obtain ⟨er, at_⟩ := er
    have HP : Hid (pLst 32768 pIns ((bytN s).drop A) A = .error (er, at_)) := by show pLst _ _ _ _ = _; unfold pLst; exact pBind_err hq
    rw [HP.out]
    rw [hq] at KN
    have KN' := hidC KN
    unfold RdT flt at KN'
    unfold RdL flt
    simp only at KN' ⊢
    clear h KN hq HP hRB
    go_enter Tryz.func56, Tryz.ntmps56
    go_wp2_with (go_at_call 84; (with_reducible refine KN'.out.mono ?_); rintro e9 w4 ⟨rfl, hb4, ho4⟩; have HB4 := hidC hb4; have HO4 := hidC ho4; clear hb4 ho4)
    exact ⟨rfl, rfl, HB4.out, HO4.out⟩
  | ok r =>
    obtain ⟨N, l1, A1⟩ := r
    have hN := pCount_in hq
    rw [hq] at KN
    have KN' := hidC KN
    unfold RdT at KN'
    simp only at KN'
    have HST : Hid (l1 = (bytN s).drop A1 → pLst 32768 pIns ((bytN s).drop A) A = pMore pIns (N - 0) [] ((bytN s).drop A1) A1) := fun e => by
      unfold pLst
      rw [pBind_at hq, Nat.sub_zero, pMore_start, e]
    obtain ⟨R, hR⟩ : ∃ R, pLst 32768 pIns ((bytN s).drop A) A = R := ⟨_, rfl⟩
    rw [hR] at HST ⊢
    have HRB := hidC hRB
    have HE := hidC hE
    have HS := hidC hs
    clear h KN hq hR hRB hA hs hE
    go_enter Tryz.func56, Tryz.ntmps56
    go_upto_block 0 with (go_at_call 84; (with_reducible refine KN'.out.mono ?_); rintro e9 w4 ⟨rfl, hb4, ho4, hm4, hl4, hd4⟩; have HJ0 := hidC (And.intro hb4 (And.intro ho4 (And.intro hm4 (And.intro hl4 hd4)))); clear hb4 ho4 hm4 hl4 hd4)
    go_wp2_with fail
    go_loopw [7, 11] (fun lv iv wx => ∃ (k A' : Nat) (xs : List Ins) (p : Option Addr) (q : Nat), k ≤ N ∧ iv = .int .i64 (k : Int) ∧ lv = .slice p k q ∧ Hid (xs.length = k ∧ Below E w wx ∧ RdO RB w wx ∧ RdM E RB s A' wx ∧ A' ≤ s.size ∧ wx.ownsRow w.heap.size 70 7 (.slice p k q) k (flat inC xs) ∧ R = pMore pIns (N - k) xs ((bytN s).drop A') A')) (fun _ iv _ => N - (intOf iv).toNat)
    case atStart =>
      obtain ⟨j1, j2, j3, j4, j5⟩ := HJ0.out
      exact ⟨0, A1, [], none, 0, Nat.zero_le _, rfl, rfl, rfl, j1, j2, j3, j4, World.ownsRow_nil _ _ _ 7, HST.out j5⟩
    case round =>
      clear HJ0 HST KN'
      obtain ⟨k, A', xs, p, q, hk, rfl, rfl, HJ⟩ := hrel
      by_cases hlt : k < N
      · obtain ⟨j1, j2, j3, j4, j5, j6, j7⟩ := HJ.out
        have e1 : (k : Int) < (N : Int) := by omega
        have hEr : E ≤ wr.heap.size := Nat.le_trans HE.out j3.1
        have KX := rins_any E RB s A' wr j4 j5 HS.out hEr
        rw [show N - k = (N - (k + 1)) + 1 by omega, pMore_step] at j7
        cases hq2 : pIns ((bytN s).drop A') A' with
        | error er =>
          obtain ⟨er, at_⟩ := er
          rw [pBind_err hq2] at j7
          rw [hq2] at KX
          have KX' := hidC KX
          unfold RdT flt at KX'
          simp only at KX'
          have HG : Hid (∀ w', Below E wr w' → RdO RB wr w' → RdL E RB s w 70 7 inC R (flt er at_) w') := fun w' a b => by rw [j7]; exact ⟨rfl, j2.trans a, j3.trans b⟩
          unfold flt at HG
          clear j1 j2 j3 j4 j5 j6 j7 hq2 KX HJ hEr hlt
          go_wp2_with (go_at_call 57; (with_reducible refine KX'.out.mono ?_); rintro e9 w5 ⟨rfl, hb5, ho5⟩; have HR5 := hidC (HG.out _ hb5 ho5); clear hb5 ho5)
          exact ⟨rfl, HR5.out⟩
        | ok r =>
          obtain ⟨x, l2, A2⟩ := r
          rw [pBind_at hq2] at j7
          rw [hq2] at KX
          have KX' := hidC KX
          unfold RdT at KX'
          simp only [insV] at KX'
          have HAP : Hid (∀ w5, RdO RB wr w5 → ∃ g c' w6, (Builtin.append_ #[25, 25] 25 #[.slice p k q, .slice (some ⟨w5.heap.size, 0, none⟩) 1 1]).run Tryz.prog (w5.alloc (.cells #[.int .i64 (x.op), .int .i64 (x.d), .int .i64 (x.a), .int .i64 (x.b), .int .i64 (x.c), .int .i64 (x.n), .int .u32 (x.bits)] 70)) = .ok (.slice (some ⟨g, 0, none⟩) (k + 1) c') w6 ∧ Below w.heap.size w5 w6 ∧ w6.ownsRow w.heap.size 70 7 (.slice (some ⟨g, 0, none⟩) (k + 1) c') (k + 1) (flat inC (xs ++ [x]))) := fun w5 ho => by
            have hown : w5.ownsRow w.heap.size 70 7 (.slice p k q) k (flat inC xs) := own_keep j6 fun b hb => ho.2 b (j6.lt b hb).2 (fun e => by have := (j6.lt b hb).1; have := HRB.out; omega)
            obtain ⟨g, c', w6, a1, a2, a3, -⟩ := own_app2 Tryz.underlying25 info_Inst rfl (by decide) hown (Nat.le_trans j3.1 ho.1) #[.int .i64 (x.op), .int .i64 (x.d), .int .i64 (x.a), .int .i64 (x.b), .int .i64 (x.c), .int .i64 (x.n), .int .u32 (x.bits)] rfl (fun u hu => inC_one x u hu) (by unfold maxLen; omega) (by omega) 25
            refine ⟨g, c', w6, a1, a2, ?_⟩
            rw [flat_snoc]
            exact a3
          have HG : Hid (∀ w5 w6, Below E wr w5 → RdO RB wr w5 → RdM E RB s A2 w5 → Below w.heap.size w5 w6 → Below E w w6 ∧ RdO RB w w6 ∧ RdM E RB s A2 w6) := fun w5 w6 a b c d =>
            ⟨(j2.trans a).trans (d.mono HE.out), ⟨Nat.le_trans (j3.trans b).1 d.size, fun i hi hne => (d.block i hi).trans ((j3.trans b).2 i hi hne)⟩, ⟨c.b.of_block (d.block _ HRB.out), c.ge⟩⟩
          have HXL : Hid ((xs ++ [x]).length = k + 1) := by show _ = _; rw [List.length_append, j1]; rfl
          have H7 := hidC j7
          have wi : IntKind.i64.wrap ((k : Int) + 1) = ((k + 1 : Nat) : Int) := by rw [IntKind.wrap_i64]; omega
          clear j1 j2 j3 j4 j5 j6 j7 hq2 KX HJ hEr
          go_wp2_with (first | (go_at_call 57; (with_reducible refine KX'.out.mono ?_); rintro e9 w5 ⟨rfl, hb5, ho5, hm5, hl5, hd5⟩; obtain ⟨g, c', w6, hrun, hb6, ho6⟩ := HAP.out w5 ho5; have HRUN := hidC hrun; have HO6 := hidC ho6; have HQ := hidC (HG.out w5 w6 hb5 ho5 hm5 hb6); have HL5 := hidC hl5; have HD5 := hidC hd5; clear hb5 ho5 hm5 hl5 hd5 hrun hb6 ho6) | (at_builtin; refine wpList_app (by rfl) _ _ _ (by rfl) _ _ _ (by rfl) (by rfl) HRUN.out ?_))
          go_roundw
          case rel => exact ⟨k + 1, A2, xs ++ [x], some ⟨g, 0, none⟩, c', by omega, by go_num, rfl, HXL.out, HQ.out.1, HQ.out.2.1, HQ.out.2.2, HL5.out, HO6.out, by rw [← HD5.out]; exact H7.out⟩
          case measure => simp [intOf]; omega
      · obtain ⟨j1, j2, j3, j4, j5, j6, j7⟩ := HJ.out
        have e1 : ¬ (k : Int) < (N : Int) := by omega
        rw [show N - k = 0 by omega, pMore_end] at j7
        have HG : Hid (RdL E RB s w 70 7 inC R (.returned (.slice p k q)) wr) := by show RdL _ _ _ _ _ _ _ _ _ _; rw [j7]; exact ⟨_, rfl, by rw [j1]; exact j6, j2, j3, j4, j5, rfl⟩
        clear j1 j2 j3 j4 j5 j6 j7 HJ hlt
        go_wp2
        refine bodyPost_ret (by simp [results, Tryz.results56, go_sem, *]; try rfl) rfl ?_
        exact HG.out

end Go.Proofs.YtnlgkkbmbijndaaGreat
/- Package code: the writer: lists of instructions. -/
namespace Go.Proofs.YtnlgkkbmbijndaaGreat
open Go.RowKit
set_option linter.unusedVariables false
set_option linter.unusedSimpArgs false

theorem eIns_len {i : Ins} (h : okIns i) : (eIns i).length ≤ 55 := by
  have h2 := flat_len_le (e := fun o => numB (fAt i o).toNat) (m := 9) (fldO i) (fun o ho => numB_nine (by have := fld_ok h o ho; omega))
  have h3 := fld_len i
  have h4 : (eBit i.op.toNat i.bits).length ≤ 4 := by unfold eBit; split; rw [lowB_len]; omega; simp
  rw [eIns_fld h.1 h.2.1, List.length_append, List.length_append, List.length_singleton]
  omega

set_option maxRecDepth 100000 in
set_option maxHeartbeats 4000000 in
theorem wlistI_any (E WB : Nat) (l : List Nat) (v : Value) (w : World) (h : WrM E WB l v w) (rs : List Ins) (hrs : ∀ x ∈ rs, okIns x) (hn : rs.length ≤ 32768) (p : Option Addr) (q : Nat) (hr : ∀ u, Below E w u → RowG 7 inC u (.slice p rs.length q) rs) (hl : l.length + 2000000 ≤ 100000000) :
    Calls Tryz.prog 46 #[.pointer (some ⟨WB, 0, none⟩), .slice p rs.length q, .func (.func 47) #[.pointer (some ⟨WB, 0, none⟩)] #[]] w fun e w' => e = .returned (.tuple #[]) ∧ Below E w w' ∧ ∃ v', WrM E WB (l ++ eLst eIns rs) v' w' ∧ WrO WB v w v' w' := by
  obtain ⟨N, hN⟩ : ∃ N, rs.length = N := ⟨_, rfl⟩
  have hnl := numB_nine (n := N) (by omega)
  have HLN : Hid (∀ k, ((l ++ numB N) ++ (rs.take k).flatMap eIns).length + 100 ≤ 100000000) := fun k => by
    have h1 := flat_len_le (e := eIns) (m := 55) (rs.take k) (fun x hx => eIns_len (hrs x (List.mem_of_mem_take hx)))
    rw [List.length_take] at h1
    rw [List.length_append, List.length_append]
    have h2 : min k rs.length ≤ 32768 := by omega
    omega
  have HFM := hidC (fun (k : Nat) (hk : k < rs.length) => flat_more eIns hk)
  have HEL : Hid (eLst eIns rs = numB N ++ rs.flatMap eIns) := by show eLst eIns rs = _; unfold eLst; rw [hN]
  have KW := hidC (fun (m : List Nat) (v : Value) (u : World) (a : WrM E WB m v u) (x : Ins) (hx : okIns x) (b : m.length + 100 ≤ 100000000) => wins_any E WB m v u a x hx (by omega))
  have KN := hidC (wnumber_any E WB l v w h N (by omega) (by omega))
  have HRW : Hid (∀ u, Below E w u → RowG 7 inC u (.slice p N q) rs) := fun u hu => by rw [← hN]; exact hr u hu
  have HOK := hidC hrs
  have HN := hidC hN
  rw [hN] at hn ⊢
  clear hr hrs h hN
  go_enter Tryz.func46, Tryz.ntmps46
  go_upto_block 0 with (go_at_call 79; (with_reducible refine KN.out.mono ?_); rintro e9 w4 ⟨rfl, hb4, v4, hm4, ho4⟩; have HJ0 : Hid (Below E w w4 ∧ ∃ v', WrM E WB ((l ++ numB N) ++ (rs.take 0).flatMap eIns) v' w4 ∧ WrO WB v w v' w4) := ⟨hb4, v4, (by rw [List.take_zero, List.flatMap_nil, List.append_nil]; exact hm4), ho4⟩; clear hb4 hm4 ho4)
  go_wp2_with fail
  go_loopw [14] (fun iv wx => ∃ k : Nat, k ≤ N ∧ iv = .int .i64 (k : Int) ∧ Hid (Below E w wx ∧ ∃ v', WrM E WB ((l ++ numB N) ++ (rs.take k).flatMap eIns) v' wx ∧ WrO WB v w v' wx)) (fun iv _ => N - (intOf iv).toNat)
  case atStart => exact ⟨0, Nat.zero_le _, rfl, HJ0.out⟩
  case round =>
    clear HJ0
    obtain ⟨k, hk, rfl, HJ⟩ := hrel
    by_cases hlt : k < N
    · have hkl : k < rs.length := by have := HN.out; omega
      obtain ⟨hb, v2, hm, ho⟩ := HJ.out
      obtain ⟨rb, ro, rfl, hcl⟩ := (HRW.out wr hb).at hkl
      have hx := HOK.out rs[k] (List.getElem_mem hkl)
      have hfm := HFM.out k hkl
      obtain ⟨x, hxe⟩ : ∃ x, rs[k] = x := ⟨_, rfl⟩
      rw [hxe] at hcl hx hfm
      obtain ⟨V, hV⟩ : ∃ V, wr.alloc (.cells #[.int .i64 (x.op), .int .i64 (x.d), .int .i64 (x.a), .int .i64 (x.b), .int .i64 (x.c), .int .i64 (x.n), .int .u32 (x.bits)] 70) = V := ⟨_, rfl⟩
      have hbV : Below wr.heap.size wr V := by rw [← hV]; exact bel_alloc _ _
      have y0 := hcl.at 0 (v := .int .i64 (x.op)) rfl
      rw [Nat.add_zero] at y0
      have y1 := hcl.at 1 (v := .int .i64 (x.d)) rfl
      have y2 := hcl.at 2 (v := .int .i64 (x.a)) rfl
      have y3 := hcl.at 3 (v := .int .i64 (x.b)) rfl
      have y4 := hcl.at 4 (v := .int .i64 (x.c)) rfl
      have y5 := hcl.at 5 (v := .int .i64 (x.n)) rfl
      have y6 := hcl.at 6 (v := .int .u32 (x.bits)) rfl
      have z0 : V.cell? ⟨wr.heap.size, 0, none⟩ = some (.int .i64 (x.op)) := by rw [← hV]; simp [go_sem]
      have z1 : V.cell? ⟨wr.heap.size, 1, none⟩ = some (.int .i64 (x.d)) := by rw [← hV]; simp [go_sem]
      have z2 : V.cell? ⟨wr.heap.size, 2, none⟩ = some (.int .i64 (x.a)) := by rw [← hV]; simp [go_sem]
      have z3 : V.cell? ⟨wr.heap.size, 3, none⟩ = some (.int .i64 (x.b)) := by rw [← hV]; simp [go_sem]
      have z4 : V.cell? ⟨wr.heap.size, 4, none⟩ = some (.int .i64 (x.c)) := by rw [← hV]; simp [go_sem]
      have z5 : V.cell? ⟨wr.heap.size, 5, none⟩ = some (.int .i64 (x.n)) := by rw [← hV]; simp [go_sem]
      have z6 : V.cell? ⟨wr.heap.size, 6, none⟩ = some (.int .u32 (x.bits)) := by rw [← hV]; simp [go_sem]
      have llb : rb < wr.heap.size := mcell_lt y0
      have n9 : ¬ rb = wr.heap.size := by omega
      have KX := hidC (KW.out _ v2 V (hm.below hbV) x hx (HLN.out k))
      have HFM' := hidC hfm
      have HBV : Hid (Below E w V) := hb.trans (hbV.mono hm.le)
      have HOV : Hid (∀ v' w', WrO WB v2 V v' w' → WrO WB v w v' w') := fun v' w' z => ho.trans (WrO.below hm hbV z)
      have i1 : (0 : Int) ≤ (k : Int) := by omega
      have i2 : (k : Int) < (N : Int) := by omega
      have wi : IntKind.i64.wrap ((k : Int) + 1) = ((k + 1 : Nat) : Int) := by rw [IntKind.wrap_i64]; omega
      clear hb hm ho hcl hx hfm hxe hbV llb HJ
      go_wp2_with (go_at_call 47; (with_reducible refine KX.out.mono ?_); rintro e9 w5 ⟨rfl, hb5, v5, hm5, ho5⟩; have HQ : Hid (Below E w w5 ∧ ∃ v', WrM E WB ((l ++ numB N) ++ (rs.take (k + 1)).flatMap eIns) v' w5 ∧ WrO WB v w v' w5) := ⟨HBV.out.trans hb5, v5, (by rw [HFM'.out, ← List.append_assoc]; exact hm5), HOV.out _ _ ho5⟩; clear hb5 hm5 ho5)
      go_roundw
      case rel => exact ⟨k + 1, by omega, by go_num, HQ.out⟩
      case measure => simp [intOf]; omega
    · have e1 : ¬ (k : Int) < (N : Int) := by omega
      have hall : rs.take k = rs := List.take_of_length_le (by have := HN.out; omega)
      have HQ : Hid (Below E w wr ∧ ∃ v', WrM E WB (l ++ eLst eIns rs) v' wr ∧ WrO WB v w v' wr) := by
        have h9 := HJ.out
        rw [hall, List.append_assoc, ← HEL.out] at h9
        exact h9
      clear hlt hall HJ
      go_wp2
      first | go_end0 | refine bodyPost_ret (results_none rfl _ _ _) rfl ?_ | (simp only [Exit.inBlock, Exit.then]; refine bodyPost_ret (results_none rfl _ _ _) rfl ?_)
      exact ⟨rfl, HQ.out.1, HQ.out.2⟩

end Go.Proofs.YtnlgkkbmbijndaaGreat
/- Package code: the writer: code. -/
namespace Go.Proofs.YtnlgkkbmbijndaaGreat
open Go.RowKit
set_option linter.unusedVariables false
set_option linter.unusedSimpArgs false

theorem eLst_len {α : Type} {e : α → List Nat} {m : Nat} (l : List α) (h : ∀ x ∈ l, (e x).length ≤ m) (hl : l.length < 9223372036854775808) : (eLst e l).length ≤ 9 + m * l.length := by
  unfold eLst
  rw [List.length_append]
  have := numB_nine hl
  have := flat_len_le l h
  omega
def mkB : ByteArray := ⟨#[108, 116, 104, 49]⟩

set_option maxRecDepth 100000 in
set_option maxHeartbeats 16000000 in
theorem wcode_any (E WB : Nat) (l : List Nat) (v : Value) (w : World) (h : WrM E WB l v w) (c : Cd) (hc : okCode c) (hl : l.length ≤ 1000) (CB : Nat) (p0 p1 p2 p3 : Option Addr) (q0 q1 q2 q3 : Nat)
    (hcl : ∀ u, Below E w u → u.cell? ⟨CB, 0, none⟩ = some (.slice p0 c.sign.length q0) ∧ u.cell? ⟨CB, 1, none⟩ = some (.slice p1 c.regs.length q1) ∧ u.cell? ⟨CB, 2, none⟩ = some (.slice p2 c.slots.length q2) ∧ u.cell? ⟨CB, 3, none⟩ = some (.slice p3 c.list.length q3))
    (hrw : ∀ u, Below E w u → RowG 3 parCells u (.slice p0 c.sign.length q0) c.sign ∧ RowG 2 tyC u (.slice p1 c.regs.length q1) c.regs ∧ RowG 5 slC u (.slice p2 c.slots.length q2) c.slots ∧ RowG 7 inC u (.slice p3 c.list.length q3) c.list) :
    Calls Tryz.prog 17 #[.pointer (some ⟨WB, 0, none⟩), .pointer (some ⟨CB, 0, none⟩)] w fun e w' => e = .returned (.tuple #[]) ∧ Below E w w' ∧ ∃ v', WrM E WB (l ++ (bytN mkB ++ eCode c)) v' w' ∧ WrO WB v w v' w' := by
  obtain ⟨⟨s1, s2⟩, ⟨r1, r2⟩, ⟨t1, t2⟩, ⟨i1, i2⟩⟩ := hc
  have lm : (bytN mkB).length = 4 := by rw [bytN_len]; rfl
  have l0 := eLst_len (e := ePar) (m := 90) c.sign (fun x hx => ePar_len (s2 x hx)) (by omega)
  have l1 := eLst_len (e := eTy) (m := 10) c.regs (fun x hx => eTy_len (r2 x hx)) (by omega)
  have l2 := eLst_len (e := eSl) (m := 20) c.slots (fun x hx => eSl_len (t2 x hx)) (by omega)
  have HT : Hid (l ++ (bytN mkB ++ eCode c) = (((((l ++ bytN mkB) ++ eLst ePar c.sign) ++ eLst eTy c.regs) ++ eLst eSl c.slots) ++ eLst eIns c.list)) := by
    show _ = _
    unfold eCode
    simp
  obtain ⟨p, q, p', q', n', w6, hv6, hrun, c6, f6, hb6, hm6, ho6, hg6⟩ := h.appS mkB (by show l.length + 4 ≤ _; omega)
  subst hv6
  have b0 : w.cell? ⟨WB, 0, none⟩ = some (.slice p l.length q) := h.b.cell (i := 0) (by decide)
  have hrun' : (Builtin.append_ #[49, 9] 49 #[.slice p l.length q, .string ⟨#[108, 116, 104, 49]⟩]).run Tryz.prog w = .ok (.slice p' n' q') w6 := hrun
  have HRUN := hidC hrun'
  obtain ⟨W6, hW6⟩ : ∃ W, w6.setCell ⟨WB, 0, none⟩ (.slice p' n' q') = W := ⟨_, rfl⟩
  rw [hW6] at hb6 hm6 ho6
  have HB6 := hidC hb6
  have HO6 := hidC ho6
  have K0 := hidC (wlistP_any E WB _ _ W6 hm6 c.sign s2 s1 p0 q0 (fun u hu => (hrw u (hb6.trans hu)).1) (by rw [List.length_append]; omega))
  have K1 : Hid (∀ (v : Value) (u : World), Below E w u → WrM E WB ((l ++ bytN mkB) ++ eLst ePar c.sign) v u → Calls Tryz.prog 42 #[.pointer (some ⟨WB, 0, none⟩), .slice p1 c.regs.length q1, .func (.func 43) #[.pointer (some ⟨WB, 0, none⟩)] #[]] u fun e w' => e = .returned (.tuple #[]) ∧ Below E u w' ∧ ∃ v', WrM E WB (((l ++ bytN mkB) ++ eLst ePar c.sign) ++ eLst eTy c.regs) v' w' ∧ WrO WB v u v' w') := fun v u hu a => wlistT_any E WB _ v u a c.regs r2 r1 p1 q1 (fun x hx => (hrw x (hu.trans hx)).2.1) (by rw [List.length_append, List.length_append]; omega)
  have K2 : Hid (∀ (v : Value) (u : World), Below E w u → WrM E WB (((l ++ bytN mkB) ++ eLst ePar c.sign) ++ eLst eTy c.regs) v u → Calls Tryz.prog 44 #[.pointer (some ⟨WB, 0, none⟩), .slice p2 c.slots.length q2, .func (.func 45) #[.pointer (some ⟨WB, 0, none⟩)] #[]] u fun e w' => e = .returned (.tuple #[]) ∧ Below E u w' ∧ ∃ v', WrM E WB ((((l ++ bytN mkB) ++ eLst ePar c.sign) ++ eLst eTy c.regs) ++ eLst eSl c.slots) v' w' ∧ WrO WB v u v' w') := fun v u hu a => wlistS_any E WB _ v u a c.slots t2 t1 p2 q2 (fun x hx => (hrw x (hu.trans hx)).2.2.1) (by rw [List.length_append, List.length_append, List.length_append]; omega)
  have K3 : Hid (∀ (v : Value) (u : World), Below E w u → WrM E WB ((((l ++ bytN mkB) ++ eLst ePar c.sign) ++ eLst eTy c.regs) ++ eLst eSl c.slots) v u → Calls Tryz.prog 46 #[.pointer (some ⟨WB, 0, none⟩), .slice p3 c.list.length q3, .func (.func 47) #[.pointer (some ⟨WB, 0, none⟩)] #[]] u fun e w' => e = .returned (.tuple #[]) ∧ Below E u w' ∧ ∃ v', WrM E WB (((((l ++ bytN mkB) ++ eLst ePar c.sign) ++ eLst eTy c.regs) ++ eLst eSl c.slots) ++ eLst eIns c.list) v' w' ∧ WrO WB v u v' w') := fun v u hu a => wlistI_any E WB _ v u a c.list i2 i1 p3 q3 (fun x hx => (hrw x (hu.trans hx)).2.2.2) (by rw [List.length_append, List.length_append, List.length_append, List.length_append]; omega)
  have HCL := hidC hcl
  have HGE := hidC h.ge
  obtain ⟨N0, hN0⟩ : ∃ n, c.sign.length = n := ⟨_, rfl⟩
  obtain ⟨N1, hN1⟩ : ∃ n, c.regs.length = n := ⟨_, rfl⟩
  obtain ⟨N2, hN2⟩ : ∃ n, c.slots.length = n := ⟨_, rfl⟩
  obtain ⟨N3, hN3⟩ : ∃ n, c.list.length = n := ⟨_, rfl⟩
  simp only [hN0, hN1, hN2, hN3] at K0 K1 K2 K3 HCL
  obtain ⟨x0, x1, x2, x3⟩ := HCL.out W6 hb6
  rw [← hW6] at x0 x1 x2 x3
  have HW6 := hidC hW6
  clear hrun hrun' hb6 hm6 ho6 hg6 hcl hrw h s1 s2 r1 r2 t1 t2 i1 i2 lm l0 l1 l2 hN0 hN1 hN2 hN3 hW6
  go_enter Tryz.func17, Tryz.ntmps17
  go_upto_region 1 with (at_builtin; refine wpList_appS (by rfl) _ _ _ _ (by rfl) _ _ _ (by rfl) (by rfl) HRUN.out ?_)
  rw [HW6.out] at x0 x1 x2 x3 ⊢
  clear b0 c6 f6 HRUN HW6
  go_upto_region 2 with (go_at_call 40; (with_reducible refine K0.out.mono ?_); rintro e9 w7 ⟨rfl, hb7, v7, hm7, ho7⟩; have HB7 := hidC (HB6.out.trans hb7); have HM7 := hidC hm7; have HO7 := hidC (HO6.out.trans ho7); clear hb7 hm7 ho7)
  clear x0 x1 x2 x3
  obtain ⟨x0, x1, x2, x3⟩ := HCL.out _ HB7.out
  have K7 := hidC (K1.out _ _ HB7.out HM7.out)
  clear K0 K1
  go_upto_region 3 with (go_at_call 42; (with_reducible refine K7.out.mono ?_); rintro e9 w8 ⟨rfl, hb8, v8, hm8, ho8⟩; have HB8 := hidC (HB7.out.trans hb8); have HM8 := hidC hm8; have HO8 := hidC (HO7.out.trans ho8); clear hb8 hm8 ho8)
  clear x0 x1 x2 x3
  obtain ⟨x0, x1, x2, x3⟩ := HCL.out _ HB8.out
  have K8 := hidC (K2.out _ _ HB8.out HM8.out)
  clear K7 K2
  go_upto_region 4 with (go_at_call 44; (with_reducible refine K8.out.mono ?_); rintro e9 w9 ⟨rfl, hb9, v9, hm9, ho9⟩; have HB9 := hidC (HB8.out.trans hb9); have HM9 := hidC hm9; have HO9 := hidC (HO8.out.trans ho9); clear hb9 hm9 ho9)
  clear x0 x1 x2 x3
  obtain ⟨x0, x1, x2, x3⟩ := HCL.out _ HB9.out
  have K9 := hidC (K3.out _ _ HB9.out HM9.out)
  clear K8 K3
  go_wp2_with (go_at_call 46; (with_reducible refine K9.out.mono ?_); rintro e9 wA ⟨rfl, hbA, vA, hmA, hoA⟩; have HBA := hidC (HB9.out.trans hbA); have HMA := hidC hmA; have HOA := hidC (HO9.out.trans hoA); clear hbA hmA hoA)
  first | go_end0 | refine bodyPost_ret (results_none rfl _ _ _) rfl ?_
  refine ⟨rfl, HBA.out, vA, ?_, HOA.out⟩
  rw [HT.out]
  exact HMA.out

end Go.Proofs.YtnlgkkbmbijndaaGreat
