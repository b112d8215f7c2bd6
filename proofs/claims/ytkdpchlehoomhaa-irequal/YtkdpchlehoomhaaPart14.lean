import Derived.Test.YtkdpchlehoomhaaPart13
namespace Go.Proofs.Ytkdpchlehoomhaa
open Go.RowKit
set_option linter.unusedVariables false
set_option linter.unusedSimpArgs false
instance : DecidableEq Par := fun a b => by
 cases a; cases b
 simp only [Par.mk.injEq]
 exact inferInstanceAs (Decidable (_ ∧ _ ∧ _))
theorem step_bin {P : Program} {w : World} {ops : Array Oper} {o : Oper} {a : Act} {K : Act → World → Prop} {Q : Exit → Act → World → Prop} {E : Prop} (hgd : o.guard = none) (t : TypeId) (x y : Operand) (yt : TypeId)
  (ho : o.op = .binOp .neq t x y yt) (v1 v2 v : Value) (hx : a.eval x = v1) (hy : a.eval y = v2) (hg : (eqGuard .neq t x y v1 v2).run P w = .ok () w) (hr : (binOp .neq t v1 v2).run P w = .ok v w) (h : K (a.put o.dst v) w) :
  if Region.wanted o (yielded ops a.tmps) = true then Oper.wp P o a w K Q else E := by
 have hw : Region.wanted o (yielded ops a.tmps) = true := by simp [Region.wanted, hgd]
 rw [if_pos hw]
 unfold Oper.wp execOp
 simp only [ho, Sem.run_bind, Sem.run_pure, Result.andThen_ok, hx, hy, hg, hr]
 exact h
set_option maxRecDepth 100000 in
set_option maxHeartbeats 1000000 in
theorem neq_Par (a b : Par) (w : World) : (binOp .neq 62 (pv a) (pv b)).run Try.prog w = .ok (.bool (!decide (a = b))) w := by
 obtain ⟨x0, x1, x2⟩ := a
 obtain ⟨y0, y1, y2⟩ := b
 unfold pv
 by_cases h0 : x0 = y0
 ·subst h0
  by_cases h1 : x1 = y1
  ·subst h1
   by_cases h2 : x2 = y2
   ·subst h2
    go_simp
   ·go_simp
  ·go_simp
 ·go_simp
  exact fun e => absurd (Go.WideShapes.bytes_inj (by rwa [ByteArray.toList_eq, ByteArray.toList_eq] at e)) h0
set_option maxRecDepth 100000 in
theorem grd_Par (p q : Operand) (a b : Par) (w : World) : (eqGuard .neq 62 p q (pv a) (pv b)).run Try.prog w = .ok () w := by
 obtain ⟨x0, x1, x2⟩ := a
 obtain ⟨y0, y1, y2⟩ := b
 unfold pv
 simp [eqGuard, go_sem]
set_option maxRecDepth 100000 in
set_option maxHeartbeats 4000000 in
theorem sEqual_Par (v u : Value) (l m : List Par) (hl : l.length ≤ 140737488351232) (hm : m.length ≤ 140737488351232) (w : World) (hv : RowG 3 parCells w v l) (hu : RowG 3 parCells w u m) :
  Calls Try.prog 26 #[v, u] w fun e w' => e = .returned (.bool (decide (l = m))) ∧ Below w.heap.size w w' := by
 have HV : Hid (RowG 3 parCells w v l) := hv
 have HU : Hid (RowG 3 parCells w u m) := hu
 obtain ⟨p, c, rfl, -⟩ := hv
 obtain ⟨q, d, rfl, -⟩ := hu
 by_cases hne : l.length = m.length
 ·have HLE : Hid (l = m ↔ ∀ j (h1 : j < l.length) (h2 : j < m.length), l[j] = m[j]) := ⟨fun e => by subst e; exact fun j h1 h2 => rfl, fun h => List.ext_getElem hne h⟩
  obtain ⟨N, hN⟩ : ∃ N, l.length = N := ⟨_, rfl⟩
  rw [hN] at hne HV hl ⊢
  rw [← hne] at HU ⊢
  have HN : Hid (l.length = N) := hN
  have HM : Hid (m.length = N) := hne.symm
  obtain ⟨R, hR⟩ : ∃ R, decide (l = m) = R := ⟨_, rfl⟩
  rw [hR]
  have HR : Hid (decide (l = m) = R) := hR
  clear hN hne hR hm
  go_enter Try.func26, Try.ntmps26
  go_wp2
  go_loopw [13] (fun iv wr => Below w.heap.size w wr ∧ ∃ j : Nat, j ≤ N ∧ iv = .int .i64 j ∧ Hid (∀ i (h1 : i < l.length) (h2 : i < m.length), i < j → l[i] = m[i])) (fun iv _ => N - (intOf iv).toNat)
  case atStart => exact ⟨bel0 w, 0, Nat.zero_le _, rfl, fun i _ _ hi => absurd hi (Nat.not_lt_zero _)⟩
  case round =>
   obtain ⟨hb, j, hj, rfl, hp⟩ := hrel
   by_cases hlt : j < N
   ·have h1 : j < l.length := by rw [HN.out]; exact hlt
    have h2 : j < m.length := by rw [HM.out]; exact hlt
    obtain ⟨b, o, rfl, hx⟩ := HV.out.at h1
    obtain ⟨b', o', rfl, hy⟩ := HU.out.at h2
    have hx' := hx.below hb
    have hy' := hy.below hb
    have x0 := hx'.at 0 rfl
    have y0 := hy'.at 0 rfl
    have x1 := hx'.at 1 rfl
    have y1 := hy'.at 1 rfl
    have x2 := hx'.at 2 rfl
    have y2 := hy'.at 2 rfl
    rw [Nat.add_zero] at x0 y0
    have NE := neq_Par l[j] m[j]
    have NX : Hid (l[j] = m[j] → ∀ i (h1 : i < l.length) (h2 : i < m.length), i < j + 1 → l[i] = m[i]) := fun e i h1 h2 hi => by
     by_cases e' : i = j
     ·subst e'; exact e
     ·exact hp.out i h1 h2 (by omega)
    have NB : Hid (¬ l[j] = m[j] → R = false) := fun e => by rw [← HR.out]; exact decide_eq_false fun e2 => e (HLE.out.1 e2 j h1 h2)
    obtain ⟨X, hX⟩ : ∃ X, l[j] = X := ⟨_, rfl⟩
    obtain ⟨Y, hY⟩ : ∃ Y, m[j] = Y := ⟨_, rfl⟩
    rw [hX] at x0 x1 x2 NX NB
    rw [hY] at y0 y1 y2 NX NB
    simp only [hX, hY] at NE
    obtain ⟨D, hD⟩ : ∃ D, decide (X = Y) = D := ⟨_, rfl⟩
    simp only [hD] at NE
    unfold pv at NE
    have HNE : Hid (∀ w, (binOp .neq 62 (.agg #[.string X.name, .int .i64 X.kind, .int .i64 X.len]) (.agg #[.string Y.name, .int .i64 Y.kind, .int .i64 Y.len])).run Try.prog w = .ok (.bool (!D)) w) := NE
    have i1 : (0 : Int) ≤ (j : Int) := by omega
    have i2 : (j : Int) < (N : Int) := by omega
    clear NE hX hY hp hx hy hx' hy'
    cases D
    ·have HB : Hid (¬ X = Y) := (show ¬ X = Y from of_decide_eq_false hD)
     clear hD
     go_wp2
     refine wp_region_held_drew (S := (fun v => v.cell? ⟨b, o + j * 3, none⟩ = some (.string X.name) ∧ v.cell? ⟨b, o + j * 3 + 1, none⟩ = some (.int .i64 X.kind) ∧ v.cell? ⟨b, o + j * 3 + 2, none⟩ = some (.int .i64 X.len) ∧ v.cell? ⟨b', o' + j * 3, none⟩ = some (.string Y.name) ∧ v.cell? ⟨b', o' + j * 3 + 1, none⟩ = some (.int .i64 Y.kind) ∧ v.cell? ⟨b', o' + j * 3 + 2, none⟩ = some (.int .i64 Y.len))) (by kernel_rfl) ?_ (fun hHeld => ?_)
     ·((try dsimp only); go_keep)
     refine wpAnyH_take (i := 0) (v := ?_) (by simp only [List.getElem?_toArray, List.getElem?_cons_succ, List.getElem?_cons_zero]; rfl) (by kernel_rfl) (by kernel_rfl) (by kernel_rfl) (by exact fun _ _ _ h => h) (Or.inl ⟨by rfl, ?_⟩) (by assumption) ?_
     rotate_left 1
     ·(intro wS hSw; (try dsimp only at hSw); go_simp; try (with_reducible rfl))
     try simp only [Act.put, List.setIfInBounds_toArray, List.set_cons_zero, List.set_cons_succ]
     refine wpAnyH_take (i := 1) (v := ?_) (by simp only [List.getElem?_toArray, List.getElem?_cons_succ, List.getElem?_cons_zero]; rfl) (by kernel_rfl) (by kernel_rfl) (by kernel_rfl) (by exact fun _ _ _ h => h) (Or.inl ⟨by rfl, ?_⟩) (by assumption) ?_
     rotate_left 1
     ·(intro wS hSw; (try dsimp only at hSw); go_simp; try (with_reducible rfl))
     try simp only [Act.put, List.setIfInBounds_toArray, List.set_cons_zero, List.set_cons_succ]
     refine wpAnyH_take (i := 2) (v := ?_) (by simp only [List.getElem?_toArray, List.getElem?_cons_succ, List.getElem?_cons_zero]; rfl) (by kernel_rfl) (by kernel_rfl) (by kernel_rfl) (by exact fun _ _ _ h => h) (Or.inl ⟨by rfl, ?_⟩) (by assumption) ?_
     rotate_left 1
     ·(intro wS hSw; (try dsimp only at hSw); go_simp; try (with_reducible rfl))
     try simp only [Act.put, List.setIfInBounds_toArray, List.set_cons_zero, List.set_cons_succ]
     refine wpAnyH_take (i := 3) (v := ?_) (by simp only [List.getElem?_toArray, List.getElem?_cons_succ, List.getElem?_cons_zero]; rfl) (by kernel_rfl) (by kernel_rfl) (by kernel_rfl) (by exact fun _ _ _ h => h) (Or.inl ⟨by rfl, ?_⟩) (by assumption) ?_
     rotate_left 1
     ·(intro wS hSw; (try dsimp only at hSw); go_simp; try (with_reducible rfl))
     try simp only [Act.put, List.setIfInBounds_toArray, List.set_cons_zero, List.set_cons_succ]
     refine wpAnyH_take (i := 4) (v := ?_) (by simp only [List.getElem?_toArray, List.getElem?_cons_succ, List.getElem?_cons_zero]; rfl) (by kernel_rfl) (by kernel_rfl) (by kernel_rfl) (by exact fun _ _ _ h => h) (Or.inl ⟨by rfl, ?_⟩) (by assumption) ?_
     rotate_left 1
     ·(intro wS hSw; (try dsimp only at hSw); go_simp; try (with_reducible rfl))
     try simp only [Act.put, List.setIfInBounds_toArray, List.set_cons_zero, List.set_cons_succ]
     refine wpAnyH_take (i := 5) (v := ?_) (by simp only [List.getElem?_toArray, List.getElem?_cons_succ, List.getElem?_cons_zero]; rfl) (by kernel_rfl) (by kernel_rfl) (by kernel_rfl) (by exact fun _ _ _ h => h) (Or.inl ⟨by rfl, ?_⟩) (by assumption) ?_
     rotate_left 1
     ·(intro wS hSw; (try dsimp only at hSw); go_simp; try (with_reducible rfl))
     try simp only [Act.put, List.setIfInBounds_toArray, List.set_cons_zero, List.set_cons_succ]
     refine wpAnyH_take (i := 6) (v := ?_) (by simp only [List.getElem?_toArray, List.getElem?_cons_succ, List.getElem?_cons_zero]; rfl) (by kernel_rfl) (by kernel_rfl) (by kernel_rfl) (by exact fun _ _ _ h => h) (Or.inl ⟨by rfl, ?_⟩) (by assumption) ?_
     rotate_left 1
     ·(intro wS hSw; (try dsimp only at hSw); go_simp; try (with_reducible rfl))
     try simp only [Act.put, List.setIfInBounds_toArray, List.set_cons_zero, List.set_cons_succ]
     refine wpAnyH_take (i := 7) (v := ?_) (by simp only [List.getElem?_toArray, List.getElem?_cons_succ, List.getElem?_cons_zero]; rfl) (by kernel_rfl) (by kernel_rfl) (by kernel_rfl) (by exact fun _ _ _ h => h) (Or.inl ⟨by rfl, ?_⟩) (by assumption) ?_
     rotate_left 1
     ·(intro wS hSw; (try dsimp only at hSw); go_simp; try (with_reducible rfl))
     try simp only [Act.put, List.setIfInBounds_toArray, List.set_cons_zero, List.set_cons_succ]
     clear hHeld
     refine wpAnyH_ready (rs := [8]) (by kernel_rfl) (by simp) ?_
     refine AllReadyH.cons (i := 8) (by simp only [List.getElem?_toArray, List.getElem?_cons_succ, List.getElem?_cons_zero]; rfl) (fun K hK => ?_) AllReadyH.nil
     refine step_bin (by rfl) _ _ _ _ (by rfl) _ _ _ (by rfl) (by rfl) (grd_Par _ _ X Y _) (HNE.out _) ?_
     refine hK.out _ _ ?_ (fun hHeld => ?_)
     ·((try dsimp only); go_keep)
     clear hK K
     try simp only [Act.put, List.setIfInBounds_toArray, List.set_cons_zero, List.set_cons_succ]
     refine wpAnyH_done (by kernel_rfl) ?_ _
     go_wp2
     go_ret
     exact ⟨ret_bool (NB.out HB.out).symm, hb.drew⟩
    ·have HE : Hid (X = Y) := (show X = Y from of_decide_eq_true hD)
     clear hD
     go_wp2
     refine wp_region_held_drew (S := (fun v => v.cell? ⟨b, o + j * 3, none⟩ = some (.string X.name) ∧ v.cell? ⟨b, o + j * 3 + 1, none⟩ = some (.int .i64 X.kind) ∧ v.cell? ⟨b, o + j * 3 + 2, none⟩ = some (.int .i64 X.len) ∧ v.cell? ⟨b', o' + j * 3, none⟩ = some (.string Y.name) ∧ v.cell? ⟨b', o' + j * 3 + 1, none⟩ = some (.int .i64 Y.kind) ∧ v.cell? ⟨b', o' + j * 3 + 2, none⟩ = some (.int .i64 Y.len))) (by kernel_rfl) ?_ (fun hHeld => ?_)
     ·((try dsimp only); go_keep)
     refine wpAnyH_take (i := 0) (v := ?_) (by simp only [List.getElem?_toArray, List.getElem?_cons_succ, List.getElem?_cons_zero]; rfl) (by kernel_rfl) (by kernel_rfl) (by kernel_rfl) (by exact fun _ _ _ h => h) (Or.inl ⟨by rfl, ?_⟩) (by assumption) ?_
     rotate_left 1
     ·(intro wS hSw; (try dsimp only at hSw); go_simp; try (with_reducible rfl))
     try simp only [Act.put, List.setIfInBounds_toArray, List.set_cons_zero, List.set_cons_succ]
     refine wpAnyH_take (i := 1) (v := ?_) (by simp only [List.getElem?_toArray, List.getElem?_cons_succ, List.getElem?_cons_zero]; rfl) (by kernel_rfl) (by kernel_rfl) (by kernel_rfl) (by exact fun _ _ _ h => h) (Or.inl ⟨by rfl, ?_⟩) (by assumption) ?_
     rotate_left 1
     ·(intro wS hSw; (try dsimp only at hSw); go_simp; try (with_reducible rfl))
     try simp only [Act.put, List.setIfInBounds_toArray, List.set_cons_zero, List.set_cons_succ]
     refine wpAnyH_take (i := 2) (v := ?_) (by simp only [List.getElem?_toArray, List.getElem?_cons_succ, List.getElem?_cons_zero]; rfl) (by kernel_rfl) (by kernel_rfl) (by kernel_rfl) (by exact fun _ _ _ h => h) (Or.inl ⟨by rfl, ?_⟩) (by assumption) ?_
     rotate_left 1
     ·(intro wS hSw; (try dsimp only at hSw); go_simp; try (with_reducible rfl))
     try simp only [Act.put, List.setIfInBounds_toArray, List.set_cons_zero, List.set_cons_succ]
     refine wpAnyH_take (i := 3) (v := ?_) (by simp only [List.getElem?_toArray, List.getElem?_cons_succ, List.getElem?_cons_zero]; rfl) (by kernel_rfl) (by kernel_rfl) (by kernel_rfl) (by exact fun _ _ _ h => h) (Or.inl ⟨by rfl, ?_⟩) (by assumption) ?_
     rotate_left 1
     ·(intro wS hSw; (try dsimp only at hSw); go_simp; try (with_reducible rfl))
     try simp only [Act.put, List.setIfInBounds_toArray, List.set_cons_zero, List.set_cons_succ]
     refine wpAnyH_take (i := 4) (v := ?_) (by simp only [List.getElem?_toArray, List.getElem?_cons_succ, List.getElem?_cons_zero]; rfl) (by kernel_rfl) (by kernel_rfl) (by kernel_rfl) (by exact fun _ _ _ h => h) (Or.inl ⟨by rfl, ?_⟩) (by assumption) ?_
     rotate_left 1
     ·(intro wS hSw; (try dsimp only at hSw); go_simp; try (with_reducible rfl))
     try simp only [Act.put, List.setIfInBounds_toArray, List.set_cons_zero, List.set_cons_succ]
     refine wpAnyH_take (i := 5) (v := ?_) (by simp only [List.getElem?_toArray, List.getElem?_cons_succ, List.getElem?_cons_zero]; rfl) (by kernel_rfl) (by kernel_rfl) (by kernel_rfl) (by exact fun _ _ _ h => h) (Or.inl ⟨by rfl, ?_⟩) (by assumption) ?_
     rotate_left 1
     ·(intro wS hSw; (try dsimp only at hSw); go_simp; try (with_reducible rfl))
     try simp only [Act.put, List.setIfInBounds_toArray, List.set_cons_zero, List.set_cons_succ]
     refine wpAnyH_take (i := 6) (v := ?_) (by simp only [List.getElem?_toArray, List.getElem?_cons_succ, List.getElem?_cons_zero]; rfl) (by kernel_rfl) (by kernel_rfl) (by kernel_rfl) (by exact fun _ _ _ h => h) (Or.inl ⟨by rfl, ?_⟩) (by assumption) ?_
     rotate_left 1
     ·(intro wS hSw; (try dsimp only at hSw); go_simp; try (with_reducible rfl))
     try simp only [Act.put, List.setIfInBounds_toArray, List.set_cons_zero, List.set_cons_succ]
     refine wpAnyH_take (i := 7) (v := ?_) (by simp only [List.getElem?_toArray, List.getElem?_cons_succ, List.getElem?_cons_zero]; rfl) (by kernel_rfl) (by kernel_rfl) (by kernel_rfl) (by exact fun _ _ _ h => h) (Or.inl ⟨by rfl, ?_⟩) (by assumption) ?_
     rotate_left 1
     ·(intro wS hSw; (try dsimp only at hSw); go_simp; try (with_reducible rfl))
     try simp only [Act.put, List.setIfInBounds_toArray, List.set_cons_zero, List.set_cons_succ]
     clear hHeld
     refine wpAnyH_ready (rs := [8]) (by kernel_rfl) (by simp) ?_
     refine AllReadyH.cons (i := 8) (by simp only [List.getElem?_toArray, List.getElem?_cons_succ, List.getElem?_cons_zero]; rfl) (fun K hK => ?_) AllReadyH.nil
     refine step_bin (by rfl) _ _ _ _ (by rfl) _ _ _ (by rfl) (by rfl) (grd_Par _ _ X Y _) (HNE.out _) ?_
     refine hK.out _ _ ?_ (fun hHeld => ?_)
     ·((try dsimp only); go_keep)
     clear hK K
     try simp only [Act.put, List.setIfInBounds_toArray, List.set_cons_zero, List.set_cons_succ]
     refine wpAnyH_done (by kernel_rfl) ?_ _
     go_wp2
     go_roundw
     case rel => exact ⟨hb.drew, j + 1, by omega, by go_num, NX.out HE.out⟩
     case measure => simp [intOf]; omega
   ·have : j = N := by omega
    subst this
    have HF : Hid (R = true) := by show _ = _; rw [← HR.out]; exact decide_eq_true (HLE.out.2 fun i h1 h2 => hp.out i h1 h2 (by rw [← HN.out]; exact h1))
    clear hp
    go_wp2
    go_ret
    exact ⟨ret_bool HF.out.symm, hb⟩
 ·have hf : decide (l = m) = false := decide_eq_false fun e => hne (by rw [e])
  rw [hf]
  obtain ⟨N, hN⟩ : ∃ N, l.length = N := ⟨_, rfl⟩
  obtain ⟨M, hM⟩ : ∃ M, m.length = M := ⟨_, rfl⟩
  rw [hN, hM] at hne
  rw [hN] at hl
  rw [hM] at hm
  rw [hN, hM]
  have h1 : ((N : Int) == (M : Int)) = false := by have : (N : Int) ≠ (M : Int) := (by omega); simpa using this
  have h2 : ((N : Int) != (M : Int)) = true := by have : (N : Int) ≠ (M : Int) := (by omega); simpa using this
  have h3 : (N == M) = false := by simpa using hne
  clear hne HV HU hf hN hM
  go_enter Try.func26, Try.ntmps26
  go_wp2
  all_goals (go_ret; exact ⟨rfl, bel0 w⟩)
set_option maxRecDepth 100000 in
set_option maxHeartbeats 1000000 in
theorem neq_Ty (a b : Ty) (w : World) : (binOp .neq 65 (tyV a) (tyV b)).run Try.prog w = .ok (.bool (!decide (a = b))) w := by
 obtain ⟨x0, x1⟩ := a
 obtain ⟨y0, y1⟩ := b
 unfold tyV
 by_cases h0 : x0 = y0
 ·subst h0
  by_cases h1 : x1 = y1
  ·subst h1
   go_simp
  ·go_simp
 ·go_simp
set_option maxRecDepth 100000 in
theorem grd_Ty (p q : Operand) (a b : Ty) (w : World) : (eqGuard .neq 65 p q (tyV a) (tyV b)).run Try.prog w = .ok () w := by
 obtain ⟨x0, x1⟩ := a
 obtain ⟨y0, y1⟩ := b
 unfold tyV
 simp [eqGuard, go_sem]
set_option maxRecDepth 100000 in
set_option maxHeartbeats 4000000 in
theorem sEqual_Ty (v u : Value) (l m : List Ty) (hl : l.length ≤ 140737488351232) (hm : m.length ≤ 140737488351232) (w : World) (hv : RowG 2 tyC w v l) (hu : RowG 2 tyC w u m) :
  Calls Try.prog 27 #[v, u] w fun e w' => e = .returned (.bool (decide (l = m))) ∧ Below w.heap.size w w' := by
 have HV : Hid (RowG 2 tyC w v l) := hv
 have HU : Hid (RowG 2 tyC w u m) := hu
 obtain ⟨p, c, rfl, -⟩ := hv
 obtain ⟨q, d, rfl, -⟩ := hu
 by_cases hne : l.length = m.length
 ·have HLE : Hid (l = m ↔ ∀ j (h1 : j < l.length) (h2 : j < m.length), l[j] = m[j]) := ⟨fun e => by subst e; exact fun j h1 h2 => rfl, fun h => List.ext_getElem hne h⟩
  obtain ⟨N, hN⟩ : ∃ N, l.length = N := ⟨_, rfl⟩
  rw [hN] at hne HV hl ⊢
  rw [← hne] at HU ⊢
  have HN : Hid (l.length = N) := hN
  have HM : Hid (m.length = N) := hne.symm
  obtain ⟨R, hR⟩ : ∃ R, decide (l = m) = R := ⟨_, rfl⟩
  rw [hR]
  have HR : Hid (decide (l = m) = R) := hR
  clear hN hne hR hm
  go_enter Try.func27, Try.ntmps27
  go_wp2
  go_loopw [13] (fun iv wr => Below w.heap.size w wr ∧ ∃ j : Nat, j ≤ N ∧ iv = .int .i64 j ∧ Hid (∀ i (h1 : i < l.length) (h2 : i < m.length), i < j → l[i] = m[i])) (fun iv _ => N - (intOf iv).toNat)
  case atStart => exact ⟨bel0 w, 0, Nat.zero_le _, rfl, fun i _ _ hi => absurd hi (Nat.not_lt_zero _)⟩
  case round =>
   obtain ⟨hb, j, hj, rfl, hp⟩ := hrel
   by_cases hlt : j < N
   ·have h1 : j < l.length := by rw [HN.out]; exact hlt
    have h2 : j < m.length := by rw [HM.out]; exact hlt
    obtain ⟨b, o, rfl, hx⟩ := HV.out.at h1
    obtain ⟨b', o', rfl, hy⟩ := HU.out.at h2
    have hx' := hx.below hb
    have hy' := hy.below hb
    have x0 := hx'.at 0 rfl
    have y0 := hy'.at 0 rfl
    have x1 := hx'.at 1 rfl
    have y1 := hy'.at 1 rfl
    rw [Nat.add_zero] at x0 y0
    have NE := neq_Ty l[j] m[j]
    have NX : Hid (l[j] = m[j] → ∀ i (h1 : i < l.length) (h2 : i < m.length), i < j + 1 → l[i] = m[i]) := fun e i h1 h2 hi => by
     by_cases e' : i = j
     ·subst e'; exact e
     ·exact hp.out i h1 h2 (by omega)
    have NB : Hid (¬ l[j] = m[j] → R = false) := fun e => by rw [← HR.out]; exact decide_eq_false fun e2 => e (HLE.out.1 e2 j h1 h2)
    obtain ⟨X, hX⟩ : ∃ X, l[j] = X := ⟨_, rfl⟩
    obtain ⟨Y, hY⟩ : ∃ Y, m[j] = Y := ⟨_, rfl⟩
    rw [hX] at x0 x1 NX NB
    rw [hY] at y0 y1 NX NB
    simp only [hX, hY] at NE
    obtain ⟨D, hD⟩ : ∃ D, decide (X = Y) = D := ⟨_, rfl⟩
    simp only [hD] at NE
    unfold tyV at NE
    have HNE : Hid (∀ w, (binOp .neq 65 (.agg #[.int .i64 X.kind, .int .i64 X.par]) (.agg #[.int .i64 Y.kind, .int .i64 Y.par])).run Try.prog w = .ok (.bool (!D)) w) := NE
    have i1 : (0 : Int) ≤ (j : Int) := by omega
    have i2 : (j : Int) < (N : Int) := by omega
    clear NE hX hY hp hx hy hx' hy'
    cases D
    ·have HB : Hid (¬ X = Y) := (show ¬ X = Y from of_decide_eq_false hD)
     clear hD
     go_wp2
     refine wp_region_held_drew (S := (fun v => v.cell? ⟨b, o + j * 2, none⟩ = some (.int .i64 X.kind) ∧ v.cell? ⟨b, o + j * 2 + 1, none⟩ = some (.int .i64 X.par) ∧ v.cell? ⟨b', o' + j * 2, none⟩ = some (.int .i64 Y.kind) ∧ v.cell? ⟨b', o' + j * 2 + 1, none⟩ = some (.int .i64 Y.par))) (by kernel_rfl) ?_ (fun hHeld => ?_)
     ·((try dsimp only); go_keep)
     refine wpAnyH_take (i := 0) (v := ?_) (by simp only [List.getElem?_toArray, List.getElem?_cons_succ, List.getElem?_cons_zero]; rfl) (by kernel_rfl) (by kernel_rfl) (by kernel_rfl) (by exact fun _ _ _ h => h) (Or.inl ⟨by rfl, ?_⟩) (by assumption) ?_
     rotate_left 1
     ·(intro wS hSw; (try dsimp only at hSw); go_simp; try (with_reducible rfl))
     try simp only [Act.put, List.setIfInBounds_toArray, List.set_cons_zero, List.set_cons_succ]
     refine wpAnyH_take (i := 1) (v := ?_) (by simp only [List.getElem?_toArray, List.getElem?_cons_succ, List.getElem?_cons_zero]; rfl) (by kernel_rfl) (by kernel_rfl) (by kernel_rfl) (by exact fun _ _ _ h => h) (Or.inl ⟨by rfl, ?_⟩) (by assumption) ?_
     rotate_left 1
     ·(intro wS hSw; (try dsimp only at hSw); go_simp; try (with_reducible rfl))
     try simp only [Act.put, List.setIfInBounds_toArray, List.set_cons_zero, List.set_cons_succ]
     refine wpAnyH_take (i := 2) (v := ?_) (by simp only [List.getElem?_toArray, List.getElem?_cons_succ, List.getElem?_cons_zero]; rfl) (by kernel_rfl) (by kernel_rfl) (by kernel_rfl) (by exact fun _ _ _ h => h) (Or.inl ⟨by rfl, ?_⟩) (by assumption) ?_
     rotate_left 1
     ·(intro wS hSw; (try dsimp only at hSw); go_simp; try (with_reducible rfl))
     try simp only [Act.put, List.setIfInBounds_toArray, List.set_cons_zero, List.set_cons_succ]
     refine wpAnyH_take (i := 3) (v := ?_) (by simp only [List.getElem?_toArray, List.getElem?_cons_succ, List.getElem?_cons_zero]; rfl) (by kernel_rfl) (by kernel_rfl) (by kernel_rfl) (by exact fun _ _ _ h => h) (Or.inl ⟨by rfl, ?_⟩) (by assumption) ?_
     rotate_left 1
     ·(intro wS hSw; (try dsimp only at hSw); go_simp; try (with_reducible rfl))
     try simp only [Act.put, List.setIfInBounds_toArray, List.set_cons_zero, List.set_cons_succ]
     refine wpAnyH_take (i := 4) (v := ?_) (by simp only [List.getElem?_toArray, List.getElem?_cons_succ, List.getElem?_cons_zero]; rfl) (by kernel_rfl) (by kernel_rfl) (by kernel_rfl) (by exact fun _ _ _ h => h) (Or.inl ⟨by rfl, ?_⟩) (by assumption) ?_
     rotate_left 1
     ·(intro wS hSw; (try dsimp only at hSw); go_simp; try (with_reducible rfl))
     try simp only [Act.put, List.setIfInBounds_toArray, List.set_cons_zero, List.set_cons_succ]
     refine wpAnyH_take (i := 5) (v := ?_) (by simp only [List.getElem?_toArray, List.getElem?_cons_succ, List.getElem?_cons_zero]; rfl) (by kernel_rfl) (by kernel_rfl) (by kernel_rfl) (by exact fun _ _ _ h => h) (Or.inl ⟨by rfl, ?_⟩) (by assumption) ?_
     rotate_left 1
     ·(intro wS hSw; (try dsimp only at hSw); go_simp; try (with_reducible rfl))
     try simp only [Act.put, List.setIfInBounds_toArray, List.set_cons_zero, List.set_cons_succ]
     refine wpAnyH_take (i := 6) (v := ?_) (by simp only [List.getElem?_toArray, List.getElem?_cons_succ, List.getElem?_cons_zero]; rfl) (by kernel_rfl) (by kernel_rfl) (by kernel_rfl) (by exact fun _ _ _ h => h) (Or.inl ⟨by rfl, ?_⟩) (by assumption) ?_
     rotate_left 1
     ·(intro wS hSw; (try dsimp only at hSw); go_simp; try (with_reducible rfl))
     try simp only [Act.put, List.setIfInBounds_toArray, List.set_cons_zero, List.set_cons_succ]
     refine wpAnyH_take (i := 7) (v := ?_) (by simp only [List.getElem?_toArray, List.getElem?_cons_succ, List.getElem?_cons_zero]; rfl) (by kernel_rfl) (by kernel_rfl) (by kernel_rfl) (by exact fun _ _ _ h => h) (Or.inl ⟨by rfl, ?_⟩) (by assumption) ?_
     rotate_left 1
     ·(intro wS hSw; (try dsimp only at hSw); go_simp; try (with_reducible rfl))
     try simp only [Act.put, List.setIfInBounds_toArray, List.set_cons_zero, List.set_cons_succ]
     clear hHeld
     refine wpAnyH_ready (rs := [8]) (by kernel_rfl) (by simp) ?_
     refine AllReadyH.cons (i := 8) (by simp only [List.getElem?_toArray, List.getElem?_cons_succ, List.getElem?_cons_zero]; rfl) (fun K hK => ?_) AllReadyH.nil
     refine step_bin (by rfl) _ _ _ _ (by rfl) _ _ _ (by rfl) (by rfl) (grd_Ty _ _ X Y _) (HNE.out _) ?_
     refine hK.out _ _ ?_ (fun hHeld => ?_)
     ·((try dsimp only); go_keep)
     clear hK K
     try simp only [Act.put, List.setIfInBounds_toArray, List.set_cons_zero, List.set_cons_succ]
     refine wpAnyH_done (by kernel_rfl) ?_ _
     go_wp2
     go_ret
     exact ⟨ret_bool (NB.out HB.out).symm, hb.drew⟩
    ·have HE : Hid (X = Y) := (show X = Y from of_decide_eq_true hD)
     clear hD
     go_wp2
     refine wp_region_held_drew (S := (fun v => v.cell? ⟨b, o + j * 2, none⟩ = some (.int .i64 X.kind) ∧ v.cell? ⟨b, o + j * 2 + 1, none⟩ = some (.int .i64 X.par) ∧ v.cell? ⟨b', o' + j * 2, none⟩ = some (.int .i64 Y.kind) ∧ v.cell? ⟨b', o' + j * 2 + 1, none⟩ = some (.int .i64 Y.par))) (by kernel_rfl) ?_ (fun hHeld => ?_)
     ·((try dsimp only); go_keep)
     refine wpAnyH_take (i := 0) (v := ?_) (by simp only [List.getElem?_toArray, List.getElem?_cons_succ, List.getElem?_cons_zero]; rfl) (by kernel_rfl) (by kernel_rfl) (by kernel_rfl) (by exact fun _ _ _ h => h) (Or.inl ⟨by rfl, ?_⟩) (by assumption) ?_
     rotate_left 1
     ·(intro wS hSw; (try dsimp only at hSw); go_simp; try (with_reducible rfl))
     try simp only [Act.put, List.setIfInBounds_toArray, List.set_cons_zero, List.set_cons_succ]
     refine wpAnyH_take (i := 1) (v := ?_) (by simp only [List.getElem?_toArray, List.getElem?_cons_succ, List.getElem?_cons_zero]; rfl) (by kernel_rfl) (by kernel_rfl) (by kernel_rfl) (by exact fun _ _ _ h => h) (Or.inl ⟨by rfl, ?_⟩) (by assumption) ?_
     rotate_left 1
     ·(intro wS hSw; (try dsimp only at hSw); go_simp; try (with_reducible rfl))
     try simp only [Act.put, List.setIfInBounds_toArray, List.set_cons_zero, List.set_cons_succ]
     refine wpAnyH_take (i := 2) (v := ?_) (by simp only [List.getElem?_toArray, List.getElem?_cons_succ, List.getElem?_cons_zero]; rfl) (by kernel_rfl) (by kernel_rfl) (by kernel_rfl) (by exact fun _ _ _ h => h) (Or.inl ⟨by rfl, ?_⟩) (by assumption) ?_
     rotate_left 1
     ·(intro wS hSw; (try dsimp only at hSw); go_simp; try (with_reducible rfl))
     try simp only [Act.put, List.setIfInBounds_toArray, List.set_cons_zero, List.set_cons_succ]
     refine wpAnyH_take (i := 3) (v := ?_) (by simp only [List.getElem?_toArray, List.getElem?_cons_succ, List.getElem?_cons_zero]; rfl) (by kernel_rfl) (by kernel_rfl) (by kernel_rfl) (by exact fun _ _ _ h => h) (Or.inl ⟨by rfl, ?_⟩) (by assumption) ?_
     rotate_left 1
     ·(intro wS hSw; (try dsimp only at hSw); go_simp; try (with_reducible rfl))
     try simp only [Act.put, List.setIfInBounds_toArray, List.set_cons_zero, List.set_cons_succ]
     refine wpAnyH_take (i := 4) (v := ?_) (by simp only [List.getElem?_toArray, List.getElem?_cons_succ, List.getElem?_cons_zero]; rfl) (by kernel_rfl) (by kernel_rfl) (by kernel_rfl) (by exact fun _ _ _ h => h) (Or.inl ⟨by rfl, ?_⟩) (by assumption) ?_
     rotate_left 1
     ·(intro wS hSw; (try dsimp only at hSw); go_simp; try (with_reducible rfl))
     try simp only [Act.put, List.setIfInBounds_toArray, List.set_cons_zero, List.set_cons_succ]
     refine wpAnyH_take (i := 5) (v := ?_) (by simp only [List.getElem?_toArray, List.getElem?_cons_succ, List.getElem?_cons_zero]; rfl) (by kernel_rfl) (by kernel_rfl) (by kernel_rfl) (by exact fun _ _ _ h => h) (Or.inl ⟨by rfl, ?_⟩) (by assumption) ?_
     rotate_left 1
     ·(intro wS hSw; (try dsimp only at hSw); go_simp; try (with_reducible rfl))
     try simp only [Act.put, List.setIfInBounds_toArray, List.set_cons_zero, List.set_cons_succ]
     refine wpAnyH_take (i := 6) (v := ?_) (by simp only [List.getElem?_toArray, List.getElem?_cons_succ, List.getElem?_cons_zero]; rfl) (by kernel_rfl) (by kernel_rfl) (by kernel_rfl) (by exact fun _ _ _ h => h) (Or.inl ⟨by rfl, ?_⟩) (by assumption) ?_
     rotate_left 1
     ·(intro wS hSw; (try dsimp only at hSw); go_simp; try (with_reducible rfl))
     try simp only [Act.put, List.setIfInBounds_toArray, List.set_cons_zero, List.set_cons_succ]
     refine wpAnyH_take (i := 7) (v := ?_) (by simp only [List.getElem?_toArray, List.getElem?_cons_succ, List.getElem?_cons_zero]; rfl) (by kernel_rfl) (by kernel_rfl) (by kernel_rfl) (by exact fun _ _ _ h => h) (Or.inl ⟨by rfl, ?_⟩) (by assumption) ?_
     rotate_left 1
     ·(intro wS hSw; (try dsimp only at hSw); go_simp; try (with_reducible rfl))
     try simp only [Act.put, List.setIfInBounds_toArray, List.set_cons_zero, List.set_cons_succ]
     clear hHeld
     refine wpAnyH_ready (rs := [8]) (by kernel_rfl) (by simp) ?_
     refine AllReadyH.cons (i := 8) (by simp only [List.getElem?_toArray, List.getElem?_cons_succ, List.getElem?_cons_zero]; rfl) (fun K hK => ?_) AllReadyH.nil
     refine step_bin (by rfl) _ _ _ _ (by rfl) _ _ _ (by rfl) (by rfl) (grd_Ty _ _ X Y _) (HNE.out _) ?_
     refine hK.out _ _ ?_ (fun hHeld => ?_)
     ·((try dsimp only); go_keep)
     clear hK K
     try simp only [Act.put, List.setIfInBounds_toArray, List.set_cons_zero, List.set_cons_succ]
     refine wpAnyH_done (by kernel_rfl) ?_ _
     go_wp2
     go_roundw
     case rel => exact ⟨hb.drew, j + 1, by omega, by go_num, NX.out HE.out⟩
     case measure => simp [intOf]; omega
   ·have : j = N := by omega
    subst this
    have HF : Hid (R = true) := by show _ = _; rw [← HR.out]; exact decide_eq_true (HLE.out.2 fun i h1 h2 => hp.out i h1 h2 (by rw [← HN.out]; exact h1))
    clear hp
    go_wp2
    go_ret
    exact ⟨ret_bool HF.out.symm, hb⟩
 ·have hf : decide (l = m) = false := decide_eq_false fun e => hne (by rw [e])
  rw [hf]
  obtain ⟨N, hN⟩ : ∃ N, l.length = N := ⟨_, rfl⟩
  obtain ⟨M, hM⟩ : ∃ M, m.length = M := ⟨_, rfl⟩
  rw [hN, hM] at hne
  rw [hN] at hl
  rw [hM] at hm
  rw [hN, hM]
  have h1 : ((N : Int) == (M : Int)) = false := by have : (N : Int) ≠ (M : Int) := (by omega); simpa using this
  have h2 : ((N : Int) != (M : Int)) = true := by have : (N : Int) ≠ (M : Int) := (by omega); simpa using this
  have h3 : (N == M) = false := by simpa using hne
  clear hne HV HU hf hN hM
  go_enter Try.func27, Try.ntmps27
  go_wp2
  all_goals (go_ret; exact ⟨rfl, bel0 w⟩)
set_option maxRecDepth 100000 in
set_option maxHeartbeats 1000000 in
theorem neq_Sl (a b : Sl) (w : World) : (binOp .neq 68 (slV a) (slV b)).run Try.prog w = .ok (.bool (!decide (a = b))) w := by
 obtain ⟨⟨x0, x1⟩, x2, x3, x4⟩ := a
 obtain ⟨⟨y0, y1⟩, y2, y3, y4⟩ := b
 unfold slV
 by_cases h0 : x0 = y0
 ·subst h0
  by_cases h1 : x1 = y1
  ·subst h1
   by_cases h2 : x2 = y2
   ·subst h2
    by_cases h3 : x3 = y3
    ·subst h3
     by_cases h4 : x4 = y4
     ·subst h4
      go_simp
     ·go_simp
    ·go_simp
   ·go_simp
  ·go_simp
 ·go_simp
set_option maxRecDepth 100000 in
theorem grd_Sl (p q : Operand) (a b : Sl) (w : World) : (eqGuard .neq 68 p q (slV a) (slV b)).run Try.prog w = .ok () w := by
 obtain ⟨⟨x0, x1⟩, x2, x3, x4⟩ := a
 obtain ⟨⟨y0, y1⟩, y2, y3, y4⟩ := b
 unfold slV
 simp [eqGuard, go_sem]
set_option maxRecDepth 100000 in
set_option maxHeartbeats 4000000 in
theorem sEqual_Sl (v u : Value) (l m : List Sl) (hl : l.length ≤ 140737488351232) (hm : m.length ≤ 140737488351232) (w : World) (hv : RowG 5 slC w v l) (hu : RowG 5 slC w u m) :
  Calls Try.prog 28 #[v, u] w fun e w' => e = .returned (.bool (decide (l = m))) ∧ Below w.heap.size w w' := by
 have HV : Hid (RowG 5 slC w v l) := hv
 have HU : Hid (RowG 5 slC w u m) := hu
 obtain ⟨p, c, rfl, -⟩ := hv
 obtain ⟨q, d, rfl, -⟩ := hu
 by_cases hne : l.length = m.length
 ·have HLE : Hid (l = m ↔ ∀ j (h1 : j < l.length) (h2 : j < m.length), l[j] = m[j]) := ⟨fun e => by subst e; exact fun j h1 h2 => rfl, fun h => List.ext_getElem hne h⟩
  obtain ⟨N, hN⟩ : ∃ N, l.length = N := ⟨_, rfl⟩
  rw [hN] at hne HV hl ⊢
  rw [← hne] at HU ⊢
  have HN : Hid (l.length = N) := hN
  have HM : Hid (m.length = N) := hne.symm
  obtain ⟨R, hR⟩ : ∃ R, decide (l = m) = R := ⟨_, rfl⟩
  rw [hR]
  have HR : Hid (decide (l = m) = R) := hR
  clear hN hne hR hm
  go_enter Try.func28, Try.ntmps28
  go_wp2
  go_loopw [13] (fun iv wr => Below w.heap.size w wr ∧ ∃ j : Nat, j ≤ N ∧ iv = .int .i64 j ∧ Hid (∀ i (h1 : i < l.length) (h2 : i < m.length), i < j → l[i] = m[i])) (fun iv _ => N - (intOf iv).toNat)
  case atStart => exact ⟨bel0 w, 0, Nat.zero_le _, rfl, fun i _ _ hi => absurd hi (Nat.not_lt_zero _)⟩
  case round =>
   obtain ⟨hb, j, hj, rfl, hp⟩ := hrel
   by_cases hlt : j < N
   ·have h1 : j < l.length := by rw [HN.out]; exact hlt
    have h2 : j < m.length := by rw [HM.out]; exact hlt
    obtain ⟨b, o, rfl, hx⟩ := HV.out.at h1
    obtain ⟨b', o', rfl, hy⟩ := HU.out.at h2
    have hx' := hx.below hb
    have hy' := hy.below hb
    have x0 := hx'.at 0 rfl
    have y0 := hy'.at 0 rfl
    have x1 := hx'.at 1 rfl
    have y1 := hy'.at 1 rfl
    have x2 := hx'.at 2 rfl
    have y2 := hy'.at 2 rfl
    have x3 := hx'.at 3 rfl
    have y3 := hy'.at 3 rfl
    have x4 := hx'.at 4 rfl
    have y4 := hy'.at 4 rfl
    rw [Nat.add_zero] at x0 y0
    have NE := neq_Sl l[j] m[j]
    have NX : Hid (l[j] = m[j] → ∀ i (h1 : i < l.length) (h2 : i < m.length), i < j + 1 → l[i] = m[i]) := fun e i h1 h2 hi => by
     by_cases e' : i = j
     ·subst e'; exact e
     ·exact hp.out i h1 h2 (by omega)
    have NB : Hid (¬ l[j] = m[j] → R = false) := fun e => by rw [← HR.out]; exact decide_eq_false fun e2 => e (HLE.out.1 e2 j h1 h2)
    obtain ⟨X, hX⟩ : ∃ X, l[j] = X := ⟨_, rfl⟩
    obtain ⟨Y, hY⟩ : ∃ Y, m[j] = Y := ⟨_, rfl⟩
    rw [hX] at x0 x1 x2 x3 x4 NX NB
    rw [hY] at y0 y1 y2 y3 y4 NX NB
    simp only [hX, hY] at NE
    obtain ⟨D, hD⟩ : ∃ D, decide (X = Y) = D := ⟨_, rfl⟩
    simp only [hD] at NE
    unfold slV at NE
    have HNE : Hid (∀ w, (binOp .neq 68 (.agg #[.int .i64 X.ty.kind, .int .i64 X.ty.par, .bool X.keep, .int .u32 X.bits, .int .i64 X.int_]) (.agg #[.int .i64 Y.ty.kind, .int .i64 Y.ty.par, .bool Y.keep, .int .u32 Y.bits, .int .i64 Y.int_])).run Try.prog w = .ok (.bool (!D)) w) := NE
    have i1 : (0 : Int) ≤ (j : Int) := by omega
    have i2 : (j : Int) < (N : Int) := by omega
    clear NE hX hY hp hx hy hx' hy'
    cases D
    ·have HB : Hid (¬ X = Y) := (show ¬ X = Y from of_decide_eq_false hD)
     clear hD
     go_wp2
     refine wp_region_held_drew (S := (fun v => v.cell? ⟨b, o + j * 5, none⟩ = some (.int .i64 X.ty.kind) ∧ v.cell? ⟨b, o + j * 5 + 1, none⟩ = some (.int .i64 X.ty.par) ∧ v.cell? ⟨b, o + j * 5 + 2, none⟩ = some (.bool X.keep) ∧ v.cell? ⟨b, o + j * 5 + 3, none⟩ = some (.int .u32 X.bits) ∧ v.cell? ⟨b, o + j * 5 + 4, none⟩ = some (.int .i64 X.int_) ∧ v.cell? ⟨b', o' + j * 5, none⟩ = some (.int .i64 Y.ty.kind) ∧ v.cell? ⟨b', o' + j * 5 + 1, none⟩ = some (.int .i64 Y.ty.par) ∧ v.cell? ⟨b', o' + j * 5 + 2, none⟩ = some (.bool Y.keep) ∧ v.cell? ⟨b', o' + j * 5 + 3, none⟩ = some (.int .u32 Y.bits) ∧ v.cell? ⟨b', o' + j * 5 + 4, none⟩ = some (.int .i64 Y.int_))) (by kernel_rfl) ?_ (fun hHeld => ?_)
     ·((try dsimp only); go_keep)
     refine wpAnyH_take (i := 0) (v := ?_) (by simp only [List.getElem?_toArray, List.getElem?_cons_succ, List.getElem?_cons_zero]; rfl) (by kernel_rfl) (by kernel_rfl) (by kernel_rfl) (by exact fun _ _ _ h => h) (Or.inl ⟨by rfl, ?_⟩) (by assumption) ?_
     rotate_left 1
     ·(intro wS hSw; (try dsimp only at hSw); go_simp; try (with_reducible rfl))
     try simp only [Act.put, List.setIfInBounds_toArray, List.set_cons_zero, List.set_cons_succ]
     refine wpAnyH_take (i := 1) (v := ?_) (by simp only [List.getElem?_toArray, List.getElem?_cons_succ, List.getElem?_cons_zero]; rfl) (by kernel_rfl) (by kernel_rfl) (by kernel_rfl) (by exact fun _ _ _ h => h) (Or.inl ⟨by rfl, ?_⟩) (by assumption) ?_
     rotate_left 1
     ·(intro wS hSw; (try dsimp only at hSw); go_simp; try (with_reducible rfl))
     try simp only [Act.put, List.setIfInBounds_toArray, List.set_cons_zero, List.set_cons_succ]
     refine wpAnyH_take (i := 2) (v := ?_) (by simp only [List.getElem?_toArray, List.getElem?_cons_succ, List.getElem?_cons_zero]; rfl) (by kernel_rfl) (by kernel_rfl) (by kernel_rfl) (by exact fun _ _ _ h => h) (Or.inl ⟨by rfl, ?_⟩) (by assumption) ?_
     rotate_left 1
     ·(intro wS hSw; (try dsimp only at hSw); go_simp; try (with_reducible rfl))
     try simp only [Act.put, List.setIfInBounds_toArray, List.set_cons_zero, List.set_cons_succ]
     refine wpAnyH_take (i := 3) (v := ?_) (by simp only [List.getElem?_toArray, List.getElem?_cons_succ, List.getElem?_cons_zero]; rfl) (by kernel_rfl) (by kernel_rfl) (by kernel_rfl) (by exact fun _ _ _ h => h) (Or.inl ⟨by rfl, ?_⟩) (by assumption) ?_
     rotate_left 1
     ·(intro wS hSw; (try dsimp only at hSw); go_simp; try (with_reducible rfl))
     try simp only [Act.put, List.setIfInBounds_toArray, List.set_cons_zero, List.set_cons_succ]
     refine wpAnyH_take (i := 4) (v := ?_) (by simp only [List.getElem?_toArray, List.getElem?_cons_succ, List.getElem?_cons_zero]; rfl) (by kernel_rfl) (by kernel_rfl) (by kernel_rfl) (by exact fun _ _ _ h => h) (Or.inl ⟨by rfl, ?_⟩) (by assumption) ?_
     rotate_left 1
     ·(intro wS hSw; (try dsimp only at hSw); go_simp; try (with_reducible rfl))
     try simp only [Act.put, List.setIfInBounds_toArray, List.set_cons_zero, List.set_cons_succ]
     refine wpAnyH_take (i := 5) (v := ?_) (by simp only [List.getElem?_toArray, List.getElem?_cons_succ, List.getElem?_cons_zero]; rfl) (by kernel_rfl) (by kernel_rfl) (by kernel_rfl) (by exact fun _ _ _ h => h) (Or.inl ⟨by rfl, ?_⟩) (by assumption) ?_
     rotate_left 1
     ·(intro wS hSw; (try dsimp only at hSw); go_simp; try (with_reducible rfl))
     try simp only [Act.put, List.setIfInBounds_toArray, List.set_cons_zero, List.set_cons_succ]
     refine wpAnyH_take (i := 6) (v := ?_) (by simp only [List.getElem?_toArray, List.getElem?_cons_succ, List.getElem?_cons_zero]; rfl) (by kernel_rfl) (by kernel_rfl) (by kernel_rfl) (by exact fun _ _ _ h => h) (Or.inl ⟨by rfl, ?_⟩) (by assumption) ?_
     rotate_left 1
     ·(intro wS hSw; (try dsimp only at hSw); go_simp; try (with_reducible rfl))
     try simp only [Act.put, List.setIfInBounds_toArray, List.set_cons_zero, List.set_cons_succ]
     refine wpAnyH_take (i := 7) (v := ?_) (by simp only [List.getElem?_toArray, List.getElem?_cons_succ, List.getElem?_cons_zero]; rfl) (by kernel_rfl) (by kernel_rfl) (by kernel_rfl) (by exact fun _ _ _ h => h) (Or.inl ⟨by rfl, ?_⟩) (by assumption) ?_
     rotate_left 1
     ·(intro wS hSw; (try dsimp only at hSw); go_simp; try (with_reducible rfl))
     try simp only [Act.put, List.setIfInBounds_toArray, List.set_cons_zero, List.set_cons_succ]
     clear hHeld
     refine wpAnyH_ready (rs := [8]) (by kernel_rfl) (by simp) ?_
     refine AllReadyH.cons (i := 8) (by simp only [List.getElem?_toArray, List.getElem?_cons_succ, List.getElem?_cons_zero]; rfl) (fun K hK => ?_) AllReadyH.nil
     refine step_bin (by rfl) _ _ _ _ (by rfl) _ _ _ (by rfl) (by rfl) (grd_Sl _ _ X Y _) (HNE.out _) ?_
     refine hK.out _ _ ?_ (fun hHeld => ?_)
     ·((try dsimp only); go_keep)
     clear hK K
     try simp only [Act.put, List.setIfInBounds_toArray, List.set_cons_zero, List.set_cons_succ]
     refine wpAnyH_done (by kernel_rfl) ?_ _
     go_wp2
     go_ret
     exact ⟨ret_bool (NB.out HB.out).symm, hb.drew⟩
    ·have HE : Hid (X = Y) := (show X = Y from of_decide_eq_true hD)
     clear hD
     go_wp2
     refine wp_region_held_drew (S := (fun v => v.cell? ⟨b, o + j * 5, none⟩ = some (.int .i64 X.ty.kind) ∧ v.cell? ⟨b, o + j * 5 + 1, none⟩ = some (.int .i64 X.ty.par) ∧ v.cell? ⟨b, o + j * 5 + 2, none⟩ = some (.bool X.keep) ∧ v.cell? ⟨b, o + j * 5 + 3, none⟩ = some (.int .u32 X.bits) ∧ v.cell? ⟨b, o + j * 5 + 4, none⟩ = some (.int .i64 X.int_) ∧ v.cell? ⟨b', o' + j * 5, none⟩ = some (.int .i64 Y.ty.kind) ∧ v.cell? ⟨b', o' + j * 5 + 1, none⟩ = some (.int .i64 Y.ty.par) ∧ v.cell? ⟨b', o' + j * 5 + 2, none⟩ = some (.bool Y.keep) ∧ v.cell? ⟨b', o' + j * 5 + 3, none⟩ = some (.int .u32 Y.bits) ∧ v.cell? ⟨b', o' + j * 5 + 4, none⟩ = some (.int .i64 Y.int_))) (by kernel_rfl) ?_ (fun hHeld => ?_)
     ·((try dsimp only); go_keep)
     refine wpAnyH_take (i := 0) (v := ?_) (by simp only [List.getElem?_toArray, List.getElem?_cons_succ, List.getElem?_cons_zero]; rfl) (by kernel_rfl) (by kernel_rfl) (by kernel_rfl) (by exact fun _ _ _ h => h) (Or.inl ⟨by rfl, ?_⟩) (by assumption) ?_
     rotate_left 1
     ·(intro wS hSw; (try dsimp only at hSw); go_simp; try (with_reducible rfl))
     try simp only [Act.put, List.setIfInBounds_toArray, List.set_cons_zero, List.set_cons_succ]
     refine wpAnyH_take (i := 1) (v := ?_) (by simp only [List.getElem?_toArray, List.getElem?_cons_succ, List.getElem?_cons_zero]; rfl) (by kernel_rfl) (by kernel_rfl) (by kernel_rfl) (by exact fun _ _ _ h => h) (Or.inl ⟨by rfl, ?_⟩) (by assumption) ?_
     rotate_left 1
     ·(intro wS hSw; (try dsimp only at hSw); go_simp; try (with_reducible rfl))
     try simp only [Act.put, List.setIfInBounds_toArray, List.set_cons_zero, List.set_cons_succ]
     refine wpAnyH_take (i := 2) (v := ?_) (by simp only [List.getElem?_toArray, List.getElem?_cons_succ, List.getElem?_cons_zero]; rfl) (by kernel_rfl) (by kernel_rfl) (by kernel_rfl) (by exact fun _ _ _ h => h) (Or.inl ⟨by rfl, ?_⟩) (by assumption) ?_
     rotate_left 1
     ·(intro wS hSw; (try dsimp only at hSw); go_simp; try (with_reducible rfl))
     try simp only [Act.put, List.setIfInBounds_toArray, List.set_cons_zero, List.set_cons_succ]
     refine wpAnyH_take (i := 3) (v := ?_) (by simp only [List.getElem?_toArray, List.getElem?_cons_succ, List.getElem?_cons_zero]; rfl) (by kernel_rfl) (by kernel_rfl) (by kernel_rfl) (by exact fun _ _ _ h => h) (Or.inl ⟨by rfl, ?_⟩) (by assumption) ?_
     rotate_left 1
     ·(intro wS hSw; (try dsimp only at hSw); go_simp; try (with_reducible rfl))
     try simp only [Act.put, List.setIfInBounds_toArray, List.set_cons_zero, List.set_cons_succ]
     refine wpAnyH_take (i := 4) (v := ?_) (by simp only [List.getElem?_toArray, List.getElem?_cons_succ, List.getElem?_cons_zero]; rfl) (by kernel_rfl) (by kernel_rfl) (by kernel_rfl) (by exact fun _ _ _ h => h) (Or.inl ⟨by rfl, ?_⟩) (by assumption) ?_
     rotate_left 1
     ·(intro wS hSw; (try dsimp only at hSw); go_simp; try (with_reducible rfl))
     try simp only [Act.put, List.setIfInBounds_toArray, List.set_cons_zero, List.set_cons_succ]
     refine wpAnyH_take (i := 5) (v := ?_) (by simp only [List.getElem?_toArray, List.getElem?_cons_succ, List.getElem?_cons_zero]; rfl) (by kernel_rfl) (by kernel_rfl) (by kernel_rfl) (by exact fun _ _ _ h => h) (Or.inl ⟨by rfl, ?_⟩) (by assumption) ?_
     rotate_left 1
     ·(intro wS hSw; (try dsimp only at hSw); go_simp; try (with_reducible rfl))
     try simp only [Act.put, List.setIfInBounds_toArray, List.set_cons_zero, List.set_cons_succ]
     refine wpAnyH_take (i := 6) (v := ?_) (by simp only [List.getElem?_toArray, List.getElem?_cons_succ, List.getElem?_cons_zero]; rfl) (by kernel_rfl) (by kernel_rfl) (by kernel_rfl) (by exact fun _ _ _ h => h) (Or.inl ⟨by rfl, ?_⟩) (by assumption) ?_
     rotate_left 1
     ·(intro wS hSw; (try dsimp only at hSw); go_simp; try (with_reducible rfl))
     try simp only [Act.put, List.setIfInBounds_toArray, List.set_cons_zero, List.set_cons_succ]
     refine wpAnyH_take (i := 7) (v := ?_) (by simp only [List.getElem?_toArray, List.getElem?_cons_succ, List.getElem?_cons_zero]; rfl) (by kernel_rfl) (by kernel_rfl) (by kernel_rfl) (by exact fun _ _ _ h => h) (Or.inl ⟨by rfl, ?_⟩) (by assumption) ?_
     rotate_left 1
     ·(intro wS hSw; (try dsimp only at hSw); go_simp; try (with_reducible rfl))
     try simp only [Act.put, List.setIfInBounds_toArray, List.set_cons_zero, List.set_cons_succ]
     clear hHeld
     refine wpAnyH_ready (rs := [8]) (by kernel_rfl) (by simp) ?_
     refine AllReadyH.cons (i := 8) (by simp only [List.getElem?_toArray, List.getElem?_cons_succ, List.getElem?_cons_zero]; rfl) (fun K hK => ?_) AllReadyH.nil
     refine step_bin (by rfl) _ _ _ _ (by rfl) _ _ _ (by rfl) (by rfl) (grd_Sl _ _ X Y _) (HNE.out _) ?_
     refine hK.out _ _ ?_ (fun hHeld => ?_)
     ·((try dsimp only); go_keep)
     clear hK K
     try simp only [Act.put, List.setIfInBounds_toArray, List.set_cons_zero, List.set_cons_succ]
     refine wpAnyH_done (by kernel_rfl) ?_ _
     go_wp2
     go_roundw
     case rel => exact ⟨hb.drew, j + 1, by omega, by go_num, NX.out HE.out⟩
     case measure => simp [intOf]; omega
   ·have : j = N := by omega
    subst this
    have HF : Hid (R = true) := by show _ = _; rw [← HR.out]; exact decide_eq_true (HLE.out.2 fun i h1 h2 => hp.out i h1 h2 (by rw [← HN.out]; exact h1))
    clear hp
    go_wp2
    go_ret
    exact ⟨ret_bool HF.out.symm, hb⟩
 ·have hf : decide (l = m) = false := decide_eq_false fun e => hne (by rw [e])
  rw [hf]
  obtain ⟨N, hN⟩ : ∃ N, l.length = N := ⟨_, rfl⟩
  obtain ⟨M, hM⟩ : ∃ M, m.length = M := ⟨_, rfl⟩
  rw [hN, hM] at hne
  rw [hN] at hl
  rw [hM] at hm
  rw [hN, hM]
  have h1 : ((N : Int) == (M : Int)) = false := by have : (N : Int) ≠ (M : Int) := (by omega); simpa using this
  have h2 : ((N : Int) != (M : Int)) = true := by have : (N : Int) ≠ (M : Int) := (by omega); simpa using this
  have h3 : (N == M) = false := by simpa using hne
  clear hne HV HU hf hN hM
  go_enter Try.func28, Try.ntmps28
  go_wp2
  all_goals (go_ret; exact ⟨rfl, bel0 w⟩)
set_option maxRecDepth 100000 in
set_option maxHeartbeats 1000000 in
theorem neq_Ins (a b : Ins) (w : World) : (binOp .neq 25 (insV a) (insV b)).run Try.prog w = .ok (.bool (!decide (a = b))) w := by
 obtain ⟨x0, x1, x2, x3, x4, x5, x6⟩ := a
 obtain ⟨y0, y1, y2, y3, y4, y5, y6⟩ := b
 unfold insV
 by_cases h0 : x0 = y0
 ·subst h0
  by_cases h1 : x1 = y1
  ·subst h1
   by_cases h2 : x2 = y2
   ·subst h2
    by_cases h3 : x3 = y3
    ·subst h3
     by_cases h4 : x4 = y4
     ·subst h4
      by_cases h5 : x5 = y5
      ·subst h5
       by_cases h6 : x6 = y6
       ·subst h6
        go_simp
       ·go_simp
      ·go_simp
     ·go_simp
    ·go_simp
   ·go_simp
  ·go_simp
 ·go_simp
set_option maxRecDepth 100000 in
theorem grd_Ins (p q : Operand) (a b : Ins) (w : World) : (eqGuard .neq 25 p q (insV a) (insV b)).run Try.prog w = .ok () w := by
 obtain ⟨x0, x1, x2, x3, x4, x5, x6⟩ := a
 obtain ⟨y0, y1, y2, y3, y4, y5, y6⟩ := b
 unfold insV
 simp [eqGuard, go_sem]
set_option maxRecDepth 100000 in
set_option maxHeartbeats 4000000 in
theorem sEqual_Ins (v u : Value) (l m : List Ins) (hl : l.length ≤ 140737488351232) (hm : m.length ≤ 140737488351232) (w : World) (hv : RowG 7 inC w v l) (hu : RowG 7 inC w u m) :
  Calls Try.prog 29 #[v, u] w fun e w' => e = .returned (.bool (decide (l = m))) ∧ Below w.heap.size w w' := by
 have HV : Hid (RowG 7 inC w v l) := hv
 have HU : Hid (RowG 7 inC w u m) := hu
 obtain ⟨p, c, rfl, -⟩ := hv
 obtain ⟨q, d, rfl, -⟩ := hu
 by_cases hne : l.length = m.length
 ·have HLE : Hid (l = m ↔ ∀ j (h1 : j < l.length) (h2 : j < m.length), l[j] = m[j]) := ⟨fun e => by subst e; exact fun j h1 h2 => rfl, fun h => List.ext_getElem hne h⟩
  obtain ⟨N, hN⟩ : ∃ N, l.length = N := ⟨_, rfl⟩
  rw [hN] at hne HV hl ⊢
  rw [← hne] at HU ⊢
  have HN : Hid (l.length = N) := hN
  have HM : Hid (m.length = N) := hne.symm
  obtain ⟨R, hR⟩ : ∃ R, decide (l = m) = R := ⟨_, rfl⟩
  rw [hR]
  have HR : Hid (decide (l = m) = R) := hR
  clear hN hne hR hm
  go_enter Try.func29, Try.ntmps29
  go_wp2
  go_loopw [13] (fun iv wr => Below w.heap.size w wr ∧ ∃ j : Nat, j ≤ N ∧ iv = .int .i64 j ∧ Hid (∀ i (h1 : i < l.length) (h2 : i < m.length), i < j → l[i] = m[i])) (fun iv _ => N - (intOf iv).toNat)
  case atStart => exact ⟨bel0 w, 0, Nat.zero_le _, rfl, fun i _ _ hi => absurd hi (Nat.not_lt_zero _)⟩
  case round =>
   obtain ⟨hb, j, hj, rfl, hp⟩ := hrel
   by_cases hlt : j < N
   ·have h1 : j < l.length := by rw [HN.out]; exact hlt
    have h2 : j < m.length := by rw [HM.out]; exact hlt
    obtain ⟨b, o, rfl, hx⟩ := HV.out.at h1
    obtain ⟨b', o', rfl, hy⟩ := HU.out.at h2
    have hx' := hx.below hb
    have hy' := hy.below hb
    have x0 := hx'.at 0 rfl
    have y0 := hy'.at 0 rfl
    have x1 := hx'.at 1 rfl
    have y1 := hy'.at 1 rfl
    have x2 := hx'.at 2 rfl
    have y2 := hy'.at 2 rfl
    have x3 := hx'.at 3 rfl
    have y3 := hy'.at 3 rfl
    have x4 := hx'.at 4 rfl
    have y4 := hy'.at 4 rfl
    have x5 := hx'.at 5 rfl
    have y5 := hy'.at 5 rfl
    have x6 := hx'.at 6 rfl
    have y6 := hy'.at 6 rfl
    rw [Nat.add_zero] at x0 y0
    have NE := neq_Ins l[j] m[j]
    have NX : Hid (l[j] = m[j] → ∀ i (h1 : i < l.length) (h2 : i < m.length), i < j + 1 → l[i] = m[i]) := fun e i h1 h2 hi => by
     by_cases e' : i = j
     ·subst e'; exact e
     ·exact hp.out i h1 h2 (by omega)
    have NB : Hid (¬ l[j] = m[j] → R = false) := fun e => by rw [← HR.out]; exact decide_eq_false fun e2 => e (HLE.out.1 e2 j h1 h2)
    obtain ⟨X, hX⟩ : ∃ X, l[j] = X := ⟨_, rfl⟩
    obtain ⟨Y, hY⟩ : ∃ Y, m[j] = Y := ⟨_, rfl⟩
    rw [hX] at x0 x1 x2 x3 x4 x5 x6 NX NB
    rw [hY] at y0 y1 y2 y3 y4 y5 y6 NX NB
    simp only [hX, hY] at NE
    obtain ⟨D, hD⟩ : ∃ D, decide (X = Y) = D := ⟨_, rfl⟩
    simp only [hD] at NE
    unfold insV at NE
    have HNE : Hid (∀ w, (binOp .neq 25 (.agg #[.int .i64 X.op, .int .i64 X.d, .int .i64 X.a, .int .i64 X.b, .int .i64 X.c, .int .i64 X.n, .int .u32 X.bits]) (.agg #[.int .i64 Y.op, .int .i64 Y.d, .int .i64 Y.a, .int .i64 Y.b, .int .i64 Y.c, .int .i64 Y.n, .int .u32 Y.bits])).run Try.prog w = .ok (.bool (!D)) w) := NE
    have i1 : (0 : Int) ≤ (j : Int) := by omega
    have i2 : (j : Int) < (N : Int) := by omega
    clear NE hX hY hp hx hy hx' hy'
    cases D
    ·have HB : Hid (¬ X = Y) := (show ¬ X = Y from of_decide_eq_false hD)
     clear hD
     go_wp2
     refine wp_region_held_drew (S := (fun v => v.cell? ⟨b, o + j * 7, none⟩ = some (.int .i64 X.op) ∧ v.cell? ⟨b, o + j * 7 + 1, none⟩ = some (.int .i64 X.d) ∧ v.cell? ⟨b, o + j * 7 + 2, none⟩ = some (.int .i64 X.a) ∧ v.cell? ⟨b, o + j * 7 + 3, none⟩ = some (.int .i64 X.b) ∧ v.cell? ⟨b, o + j * 7 + 4, none⟩ = some (.int .i64 X.c) ∧ v.cell? ⟨b, o + j * 7 + 5, none⟩ = some (.int .i64 X.n) ∧ v.cell? ⟨b, o + j * 7 + 6, none⟩ = some (.int .u32 X.bits) ∧ v.cell? ⟨b', o' + j * 7, none⟩ = some (.int .i64 Y.op) ∧ v.cell? ⟨b', o' + j * 7 + 1, none⟩ = some (.int .i64 Y.d) ∧ v.cell? ⟨b', o' + j * 7 + 2, none⟩ = some (.int .i64 Y.a) ∧ v.cell? ⟨b', o' + j * 7 + 3, none⟩ = some (.int .i64 Y.b) ∧ v.cell? ⟨b', o' + j * 7 + 4, none⟩ = some (.int .i64 Y.c) ∧ v.cell? ⟨b', o' + j * 7 + 5, none⟩ = some (.int .i64 Y.n) ∧ v.cell? ⟨b', o' + j * 7 + 6, none⟩ = some (.int .u32 Y.bits))) (by kernel_rfl) ?_ (fun hHeld => ?_)
     ·((try dsimp only); go_keep)
     refine wpAnyH_take (i := 0) (v := ?_) (by simp only [List.getElem?_toArray, List.getElem?_cons_succ, List.getElem?_cons_zero]; rfl) (by kernel_rfl) (by kernel_rfl) (by kernel_rfl) (by exact fun _ _ _ h => h) (Or.inl ⟨by rfl, ?_⟩) (by assumption) ?_
     rotate_left 1
     ·(intro wS hSw; (try dsimp only at hSw); go_simp; try (with_reducible rfl))
     try simp only [Act.put, List.setIfInBounds_toArray, List.set_cons_zero, List.set_cons_succ]
     refine wpAnyH_take (i := 1) (v := ?_) (by simp only [List.getElem?_toArray, List.getElem?_cons_succ, List.getElem?_cons_zero]; rfl) (by kernel_rfl) (by kernel_rfl) (by kernel_rfl) (by exact fun _ _ _ h => h) (Or.inl ⟨by rfl, ?_⟩) (by assumption) ?_
     rotate_left 1
     ·(intro wS hSw; (try dsimp only at hSw); go_simp; try (with_reducible rfl))
     try simp only [Act.put, List.setIfInBounds_toArray, List.set_cons_zero, List.set_cons_succ]
     refine wpAnyH_take (i := 2) (v := ?_) (by simp only [List.getElem?_toArray, List.getElem?_cons_succ, List.getElem?_cons_zero]; rfl) (by kernel_rfl) (by kernel_rfl) (by kernel_rfl) (by exact fun _ _ _ h => h) (Or.inl ⟨by rfl, ?_⟩) (by assumption) ?_
     rotate_left 1
     ·(intro wS hSw; (try dsimp only at hSw); go_simp; try (with_reducible rfl))
     try simp only [Act.put, List.setIfInBounds_toArray, List.set_cons_zero, List.set_cons_succ]
     refine wpAnyH_take (i := 3) (v := ?_) (by simp only [List.getElem?_toArray, List.getElem?_cons_succ, List.getElem?_cons_zero]; rfl) (by kernel_rfl) (by kernel_rfl) (by kernel_rfl) (by exact fun _ _ _ h => h) (Or.inl ⟨by rfl, ?_⟩) (by assumption) ?_
     rotate_left 1
     ·(intro wS hSw; (try dsimp only at hSw); go_simp; try (with_reducible rfl))
     try simp only [Act.put, List.setIfInBounds_toArray, List.set_cons_zero, List.set_cons_succ]
     refine wpAnyH_take (i := 4) (v := ?_) (by simp only [List.getElem?_toArray, List.getElem?_cons_succ, List.getElem?_cons_zero]; rfl) (by kernel_rfl) (by kernel_rfl) (by kernel_rfl) (by exact fun _ _ _ h => h) (Or.inl ⟨by rfl, ?_⟩) (by assumption) ?_
     rotate_left 1
     ·(intro wS hSw; (try dsimp only at hSw); go_simp; try (with_reducible rfl))
     try simp only [Act.put, List.setIfInBounds_toArray, List.set_cons_zero, List.set_cons_succ]
     refine wpAnyH_take (i := 5) (v := ?_) (by simp only [List.getElem?_toArray, List.getElem?_cons_succ, List.getElem?_cons_zero]; rfl) (by kernel_rfl) (by kernel_rfl) (by kernel_rfl) (by exact fun _ _ _ h => h) (Or.inl ⟨by rfl, ?_⟩) (by assumption) ?_
     rotate_left 1
     ·(intro wS hSw; (try dsimp only at hSw); go_simp; try (with_reducible rfl))
     try simp only [Act.put, List.setIfInBounds_toArray, List.set_cons_zero, List.set_cons_succ]
     refine wpAnyH_take (i := 6) (v := ?_) (by simp only [List.getElem?_toArray, List.getElem?_cons_succ, List.getElem?_cons_zero]; rfl) (by kernel_rfl) (by kernel_rfl) (by kernel_rfl) (by exact fun _ _ _ h => h) (Or.inl ⟨by rfl, ?_⟩) (by assumption) ?_
     rotate_left 1
     ·(intro wS hSw; (try dsimp only at hSw); go_simp; try (with_reducible rfl))
     try simp only [Act.put, List.setIfInBounds_toArray, List.set_cons_zero, List.set_cons_succ]
     refine wpAnyH_take (i := 7) (v := ?_) (by simp only [List.getElem?_toArray, List.getElem?_cons_succ, List.getElem?_cons_zero]; rfl) (by kernel_rfl) (by kernel_rfl) (by kernel_rfl) (by exact fun _ _ _ h => h) (Or.inl ⟨by rfl, ?_⟩) (by assumption) ?_
     rotate_left 1
     ·(intro wS hSw; (try dsimp only at hSw); go_simp; try (with_reducible rfl))
     try simp only [Act.put, List.setIfInBounds_toArray, List.set_cons_zero, List.set_cons_succ]
     clear hHeld
     refine wpAnyH_ready (rs := [8]) (by kernel_rfl) (by simp) ?_
     refine AllReadyH.cons (i := 8) (by simp only [List.getElem?_toArray, List.getElem?_cons_succ, List.getElem?_cons_zero]; rfl) (fun K hK => ?_) AllReadyH.nil
     refine step_bin (by rfl) _ _ _ _ (by rfl) _ _ _ (by rfl) (by rfl) (grd_Ins _ _ X Y _) (HNE.out _) ?_
     refine hK.out _ _ ?_ (fun hHeld => ?_)
     ·((try dsimp only); go_keep)
     clear hK K
     try simp only [Act.put, List.setIfInBounds_toArray, List.set_cons_zero, List.set_cons_succ]
     refine wpAnyH_done (by kernel_rfl) ?_ _
     go_wp2
     go_ret
     exact ⟨ret_bool (NB.out HB.out).symm, hb.drew⟩
    ·have HE : Hid (X = Y) := (show X = Y from of_decide_eq_true hD)
     clear hD
     go_wp2
     refine wp_region_held_drew (S := (fun v => v.cell? ⟨b, o + j * 7, none⟩ = some (.int .i64 X.op) ∧ v.cell? ⟨b, o + j * 7 + 1, none⟩ = some (.int .i64 X.d) ∧ v.cell? ⟨b, o + j * 7 + 2, none⟩ = some (.int .i64 X.a) ∧ v.cell? ⟨b, o + j * 7 + 3, none⟩ = some (.int .i64 X.b) ∧ v.cell? ⟨b, o + j * 7 + 4, none⟩ = some (.int .i64 X.c) ∧ v.cell? ⟨b, o + j * 7 + 5, none⟩ = some (.int .i64 X.n) ∧ v.cell? ⟨b, o + j * 7 + 6, none⟩ = some (.int .u32 X.bits) ∧ v.cell? ⟨b', o' + j * 7, none⟩ = some (.int .i64 Y.op) ∧ v.cell? ⟨b', o' + j * 7 + 1, none⟩ = some (.int .i64 Y.d) ∧ v.cell? ⟨b', o' + j * 7 + 2, none⟩ = some (.int .i64 Y.a) ∧ v.cell? ⟨b', o' + j * 7 + 3, none⟩ = some (.int .i64 Y.b) ∧ v.cell? ⟨b', o' + j * 7 + 4, none⟩ = some (.int .i64 Y.c) ∧ v.cell? ⟨b', o' + j * 7 + 5, none⟩ = some (.int .i64 Y.n) ∧ v.cell? ⟨b', o' + j * 7 + 6, none⟩ = some (.int .u32 Y.bits))) (by kernel_rfl) ?_ (fun hHeld => ?_)
     ·((try dsimp only); go_keep)
     refine wpAnyH_take (i := 0) (v := ?_) (by simp only [List.getElem?_toArray, List.getElem?_cons_succ, List.getElem?_cons_zero]; rfl) (by kernel_rfl) (by kernel_rfl) (by kernel_rfl) (by exact fun _ _ _ h => h) (Or.inl ⟨by rfl, ?_⟩) (by assumption) ?_
     rotate_left 1
     ·(intro wS hSw; (try dsimp only at hSw); go_simp; try (with_reducible rfl))
     try simp only [Act.put, List.setIfInBounds_toArray, List.set_cons_zero, List.set_cons_succ]
     refine wpAnyH_take (i := 1) (v := ?_) (by simp only [List.getElem?_toArray, List.getElem?_cons_succ, List.getElem?_cons_zero]; rfl) (by kernel_rfl) (by kernel_rfl) (by kernel_rfl) (by exact fun _ _ _ h => h) (Or.inl ⟨by rfl, ?_⟩) (by assumption) ?_
     rotate_left 1
     ·(intro wS hSw; (try dsimp only at hSw); go_simp; try (with_reducible rfl))
     try simp only [Act.put, List.setIfInBounds_toArray, List.set_cons_zero, List.set_cons_succ]
     refine wpAnyH_take (i := 2) (v := ?_) (by simp only [List.getElem?_toArray, List.getElem?_cons_succ, List.getElem?_cons_zero]; rfl) (by kernel_rfl) (by kernel_rfl) (by kernel_rfl) (by exact fun _ _ _ h => h) (Or.inl ⟨by rfl, ?_⟩) (by assumption) ?_
     rotate_left 1
     ·(intro wS hSw; (try dsimp only at hSw); go_simp; try (with_reducible rfl))
     try simp only [Act.put, List.setIfInBounds_toArray, List.set_cons_zero, List.set_cons_succ]
     refine wpAnyH_take (i := 3) (v := ?_) (by simp only [List.getElem?_toArray, List.getElem?_cons_succ, List.getElem?_cons_zero]; rfl) (by kernel_rfl) (by kernel_rfl) (by kernel_rfl) (by exact fun _ _ _ h => h) (Or.inl ⟨by rfl, ?_⟩) (by assumption) ?_
     rotate_left 1
     ·(intro wS hSw; (try dsimp only at hSw); go_simp; try (with_reducible rfl))
     try simp only [Act.put, List.setIfInBounds_toArray, List.set_cons_zero, List.set_cons_succ]
     refine wpAnyH_take (i := 4) (v := ?_) (by simp only [List.getElem?_toArray, List.getElem?_cons_succ, List.getElem?_cons_zero]; rfl) (by kernel_rfl) (by kernel_rfl) (by kernel_rfl) (by exact fun _ _ _ h => h) (Or.inl ⟨by rfl, ?_⟩) (by assumption) ?_
     rotate_left 1
     ·(intro wS hSw; (try dsimp only at hSw); go_simp; try (with_reducible rfl))
     try simp only [Act.put, List.setIfInBounds_toArray, List.set_cons_zero, List.set_cons_succ]
     refine wpAnyH_take (i := 5) (v := ?_) (by simp only [List.getElem?_toArray, List.getElem?_cons_succ, List.getElem?_cons_zero]; rfl) (by kernel_rfl) (by kernel_rfl) (by kernel_rfl) (by exact fun _ _ _ h => h) (Or.inl ⟨by rfl, ?_⟩) (by assumption) ?_
     rotate_left 1
     ·(intro wS hSw; (try dsimp only at hSw); go_simp; try (with_reducible rfl))
     try simp only [Act.put, List.setIfInBounds_toArray, List.set_cons_zero, List.set_cons_succ]
     refine wpAnyH_take (i := 6) (v := ?_) (by simp only [List.getElem?_toArray, List.getElem?_cons_succ, List.getElem?_cons_zero]; rfl) (by kernel_rfl) (by kernel_rfl) (by kernel_rfl) (by exact fun _ _ _ h => h) (Or.inl ⟨by rfl, ?_⟩) (by assumption) ?_
     rotate_left 1
     ·(intro wS hSw; (try dsimp only at hSw); go_simp; try (with_reducible rfl))
     try simp only [Act.put, List.setIfInBounds_toArray, List.set_cons_zero, List.set_cons_succ]
     refine wpAnyH_take (i := 7) (v := ?_) (by simp only [List.getElem?_toArray, List.getElem?_cons_succ, List.getElem?_cons_zero]; rfl) (by kernel_rfl) (by kernel_rfl) (by kernel_rfl) (by exact fun _ _ _ h => h) (Or.inl ⟨by rfl, ?_⟩) (by assumption) ?_
     rotate_left 1
     ·(intro wS hSw; (try dsimp only at hSw); go_simp; try (with_reducible rfl))
     try simp only [Act.put, List.setIfInBounds_toArray, List.set_cons_zero, List.set_cons_succ]
     clear hHeld
     refine wpAnyH_ready (rs := [8]) (by kernel_rfl) (by simp) ?_
     refine AllReadyH.cons (i := 8) (by simp only [List.getElem?_toArray, List.getElem?_cons_succ, List.getElem?_cons_zero]; rfl) (fun K hK => ?_) AllReadyH.nil
     refine step_bin (by rfl) _ _ _ _ (by rfl) _ _ _ (by rfl) (by rfl) (grd_Ins _ _ X Y _) (HNE.out _) ?_
     refine hK.out _ _ ?_ (fun hHeld => ?_)
     ·((try dsimp only); go_keep)
     clear hK K
     try simp only [Act.put, List.setIfInBounds_toArray, List.set_cons_zero, List.set_cons_succ]
     refine wpAnyH_done (by kernel_rfl) ?_ _
     go_wp2
     go_roundw
     case rel => exact ⟨hb.drew, j + 1, by omega, by go_num, NX.out HE.out⟩
     case measure => simp [intOf]; omega
   ·have : j = N := by omega
    subst this
    have HF : Hid (R = true) := by show _ = _; rw [← HR.out]; exact decide_eq_true (HLE.out.2 fun i h1 h2 => hp.out i h1 h2 (by rw [← HN.out]; exact h1))
    clear hp
    go_wp2
    go_ret
    exact ⟨ret_bool HF.out.symm, hb⟩
 ·have hf : decide (l = m) = false := decide_eq_false fun e => hne (by rw [e])
  rw [hf]
  obtain ⟨N, hN⟩ : ∃ N, l.length = N := ⟨_, rfl⟩
  obtain ⟨M, hM⟩ : ∃ M, m.length = M := ⟨_, rfl⟩
  rw [hN, hM] at hne
  rw [hN] at hl
  rw [hM] at hm
  rw [hN, hM]
  have h1 : ((N : Int) == (M : Int)) = false := by have : (N : Int) ≠ (M : Int) := (by omega); simpa using this
  have h2 : ((N : Int) != (M : Int)) = true := by have : (N : Int) ≠ (M : Int) := (by omega); simpa using this
  have h3 : (N == M) = false := by simpa using hne
  clear hne HV HU hf hN hM
  go_enter Try.func29, Try.ntmps29
  go_wp2
  all_goals (go_ret; exact ⟨rfl, bel0 w⟩)
end Go.Proofs.Ytkdpchlehoomhaa
