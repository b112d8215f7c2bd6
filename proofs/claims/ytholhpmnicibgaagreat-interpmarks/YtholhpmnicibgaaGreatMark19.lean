import Derived.Test.YtholhpmnicibgaaGreatMark1
import Derived.Test.YtholhpmnicibgaaGreatMark18
/- Package interp: one instruction done (numbers, whole numbers, copies of whole numbers). -/
namespace Go.Proofs.YtholhpmnicibgaaGreat
open Go.RowKit
set_option linter.unusedVariables false
set_option linter.unusedSimpArgs false

set_option maxRecDepth 100000 in
set_option maxHeartbeats 4000000 in
theorem elem_whole {T : Nat → Prop} {E E' : Nat} {a : Lay} {c : Cd} {G P : List (List Int)} {X : Nat → Value} {M : Nat} {m : Nat → Option Value} {f : Fr} (w : World) (x : FX T E E' a c G P w) (h : FV T E E' a c w X M m f) (hg : Good c) (ib io : Nat) (i : Ins) (hi : InsT (mutT T E E') w ib io i)
    (d0 : 0 ≤ i.d) (d1 : i.d < (c.regs.length : Int)) (a0 : 0 ≤ i.a) (a1 : i.a < (c.regs.length : Int)) (hk : (regT c.regs i.d).kind = 2) :
    Calls Tryz.prog 79 #[.pointer (some ⟨a.FR, 0, none⟩), .pointer (some ⟨ib, io, none⟩)] w fun e w' => e = .returned (.tuple #[]) ∧ StepOK T E E' a c G P M (elemI c f i) w w' := by
  have HEq : Hid (elemI c f i = { f with whs := putN f.whs i.d.toNat (f.whs i.a.toNat) }) := by
    show elemI c f i = _
    unfold elemI
    rw [if_pos hk]
  obtain ⟨F, hF⟩ : ∃ F, elemI c f i = F := ⟨_, rfl⟩
  rw [hF] at HEq ⊢
  have q1 := hi.cells.at 1 rfl
  have q2 := hi.cells.at 2 rfl
  obtain ⟨op, D, A, B, Ec, nn, bt⟩ := i
  simp only at *
  obtain ⟨D, rfl⟩ : ∃ j : Nat, D = (j : Int) := ⟨D.toNat, by omega⟩
  obtain ⟨A, rfl⟩ : ∃ j : Nat, A = (j : Int) := ⟨A.toNat, by omega⟩
  rw [Int.toNat_natCast, Int.toNat_natCast] at HEq
  have hD : D < c.regs.length := by omega
  have hA : A < c.regs.length := by omega
  rw [iregT_at hD] at hk
  have f0 := x.f0
  have f3 := x.f3
  have c1 := x.code.c1
  obtain ⟨b1, o1, m1, hv1, r0, r1⟩ := x.code.reg hD
  rw [hv1] at c1
  rw [hk] at r0
  have hN := hg.regsL
  have k1 := h.whs.cell hA
  have k2 := h.whs.cell hD
  have k3 := h.whs.frozen D
  have n1 : w.heap.size ≠ a.FR := by have := x.iFR; have := x.hE'; omega
  have n2 : w.heap.size ≠ a.C := by have := x.code.ltC; omega
  have n3 : w.heap.size ≠ ib := by have := hi.lt; omega
  have n4 : w.heap.size ≠ b1 := by have := mcell_lt r0; simp at this; omega
  have n5 : a.WB ≠ a.FR := Ne.symm x.d1.2.1
  have n6 : a.WB ≠ ib := fun e => hi.not (by rw [← e]; exact .inr x.iWB)
  have HX : Hid (FX T E E' a c G P w) := x
  have HV : Hid (FV T E E' a c w X M m f) := h
  have HD : Hid (D < c.regs.length) := hD
  obtain ⟨pp, r2⟩ : ∃ pp, w.cell? ⟨b1, o1 + D * 2 + 1, none⟩ = some (.int .i64 pp) := ⟨_, r1⟩
  clear r1
  obtain ⟨FR, hFR⟩ : ∃ FR, a.FR = FR := ⟨_, rfl⟩
  obtain ⟨WB, hWB⟩ : ∃ WB, a.WB = WB := ⟨_, rfl⟩
  obtain ⟨C, hC⟩ : ∃ C, a.C = C := ⟨_, rfl⟩
  obtain ⟨N, hN'⟩ : ∃ N, c.regs.length = N := ⟨_, rfl⟩
  obtain ⟨y, hy⟩ : ∃ y, f.whs A = y := ⟨_, rfl⟩
  obtain ⟨y2, hy2⟩ : ∃ y2, f.whs D = y2 := ⟨_, rfl⟩
  rw [hy] at k1 HEq
  rw [hy2] at k2
  simp only [hFR, hWB, hC, hN'] at f0 f3 c1 hN k1 k2 k3 n1 n2 n5 n6 hD hA d1 a1 ⊢
  have HWB : Hid (a.WB = WB) := hWB
  clear x h hg hi hk hv1 hFR hWB hC hN' hy hy2 hF
  go_enter Tryz.func79, Tryz.ntmps79
  go_wp2
  refine wp_region_held_drew (S := (fun v => v.cell? ⟨FR, 0, none⟩ = some (.pointer (some ⟨C, 0, none⟩)) ∧ v.cell? ⟨C, 1, none⟩ = some (.slice (some ⟨b1, o1, none⟩) N m1) ∧ v.cell? ⟨ib, io + 1, none⟩ = some (.int .i64 (D : Int)) ∧ v.cell? ⟨b1, o1 + D * 2, none⟩ = some (.int .i64 2) ∧ v.cell? ⟨b1, o1 + D * 2 + 1, none⟩ = some (.int .i64 pp))) (by kernel_rfl) ?_ (fun hHeld => ?_)
  · ((try dsimp only); go_keep)
  refine tkH (i := 0) (v := ?_) (hy := .inl ⟨by rfl, ?_⟩) (h := ?_)
  rotate_left 1
  · (intro wS hSw; (try dsimp only at hSw); go_simp; try (with_reducible rfl))
  try simp only [Act.put, List.setIfInBounds_toArray, List.set_cons_zero, List.set_cons_succ]
  refine tkH (i := 1) (v := ?_) (hy := .inl ⟨by rfl, ?_⟩) (h := ?_)
  rotate_left 1
  · (intro wS hSw; (try dsimp only at hSw); go_simp; try (with_reducible rfl))
  try simp only [Act.put, List.setIfInBounds_toArray, List.set_cons_zero, List.set_cons_succ]
  refine tkH (i := 2) (v := ?_) (hy := .inl ⟨by rfl, ?_⟩) (h := ?_)
  rotate_left 1
  · (intro wS hSw; (try dsimp only at hSw); go_simp; try (with_reducible rfl))
  try simp only [Act.put, List.setIfInBounds_toArray, List.set_cons_zero, List.set_cons_succ]
  refine tkH (i := 3) (v := ?_) (hy := .inl ⟨by rfl, ?_⟩) (h := ?_)
  rotate_left 1
  · (intro wS hSw; (try dsimp only at hSw); go_simp; try (with_reducible rfl))
  try simp only [Act.put, List.setIfInBounds_toArray, List.set_cons_zero, List.set_cons_succ]
  refine tkH (i := 4) (v := ?_) (hy := .inl ⟨by rfl, ?_⟩) (h := ?_)
  rotate_left 1
  · (intro wS hSw; (try dsimp only at hSw); go_simp; try (with_reducible rfl))
  try simp only [Act.put, List.setIfInBounds_toArray, List.set_cons_zero, List.set_cons_succ]
  refine tkH (i := 5) (v := ?_) (hy := .inl ⟨by rfl, ?_⟩) (h := ?_)
  rotate_left 1
  · (intro wS hSw; (try dsimp only at hSw); go_simp; try (with_reducible rfl))
  try simp only [Act.put, List.setIfInBounds_toArray, List.set_cons_zero, List.set_cons_succ]
  refine tkH (i := 6) (v := ?_) (hy := .inl ⟨by rfl, ?_⟩) (h := ?_)
  rotate_left 1
  · (intro wS hSw; (try dsimp only at hSw); go_simp; try (with_reducible rfl))
  try simp only [Act.put, List.setIfInBounds_toArray, List.set_cons_zero, List.set_cons_succ]
  refine tkH (i := 7) (v := ?_) (hy := .inl ⟨by rfl, ?_⟩) (h := ?_)
  rotate_left 1
  · (intro wS hSw; (try dsimp only at hSw); go_simp; try (with_reducible rfl))
  try simp only [Act.put, List.setIfInBounds_toArray, List.set_cons_zero, List.set_cons_succ]
  refine tkH (i := 8) (v := ?_) (hy := .inl ⟨by rfl, ?_⟩) (h := ?_)
  rotate_left 1
  · (intro wS hSw; (try dsimp only at hSw); go_simp; try (with_reducible rfl))
  try simp only [Act.put, List.setIfInBounds_toArray, List.set_cons_zero, List.set_cons_succ]
  refine tkH (i := 9) (v := ?_) (hy := .inl ⟨by rfl, ?_⟩) (h := ?_)
  rotate_left 1
  · (intro wS hSw; (try dsimp only at hSw); go_simp; try (with_reducible rfl))
  try simp only [Act.put, List.setIfInBounds_toArray, List.set_cons_zero, List.set_cons_succ]
  refine tkH (i := 10) (v := ?_) (hy := .inl ⟨by rfl, ?_⟩) (h := ?_)
  rotate_left 1
  · (intro wS hSw; (try dsimp only at hSw); go_simp; try (with_reducible rfl))
  try simp only [Act.put, List.setIfInBounds_toArray, List.set_cons_zero, List.set_cons_succ]
  refine tkH (i := 11) (v := ?_) (hy := .inl ⟨by rfl, ?_⟩) (h := ?_)
  rotate_left 1
  · (intro wS hSw; (try dsimp only at hSw); go_simp; try (with_reducible rfl))
  try simp only [Act.put, List.setIfInBounds_toArray, List.set_cons_zero, List.set_cons_succ]
  refine tkH (i := 12) (v := ?_) (hy := .inl ⟨by rfl, ?_⟩) (h := ?_)
  rotate_left 1
  · (intro wS hSw; (try dsimp only at hSw); go_simp; try (with_reducible rfl))
  try simp only [Act.put, List.setIfInBounds_toArray, List.set_cons_zero, List.set_cons_succ]
  clear hHeld
  refine wpAnyH_ready (rs := [13]) (by kernel_rfl) (by simp) ?_
  refine AllReadyH.cons (i := 13) (by simp only [List.getElem?_toArray, List.getElem?_cons_succ, List.getElem?_cons_zero]; rfl) (fun K hK => ?_) AllReadyH.nil
  go_simp
  refine hK.out _ _ ?_ (fun hHeld => ?_)
  · ((try dsimp only); go_keep)
  clear hK K
  try simp only [Act.put, List.setIfInBounds_toArray, List.set_cons_zero, List.set_cons_succ]
  clear hHeld
  refine wpAnyH_ready (rs := [14]) (by kernel_rfl) (by simp) ?_
  refine AllReadyH.cons (i := 14) (by simp only [List.getElem?_toArray, List.getElem?_cons_succ, List.getElem?_cons_zero]; rfl) (fun K hK => ?_) AllReadyH.nil
  go_simp
  refine hK.out _ _ ?_ (fun hHeld => ?_)
  · ((try dsimp only); go_keep)
  clear hK K
  try simp only [Act.put, List.setIfInBounds_toArray, List.set_cons_zero, List.set_cons_succ]
  refine wpAnyH_done (by kernel_rfl) ?_ _
  obtain ⟨W1, hW1⟩ : ∃ W1, (w.alloc (.cells #[.int .i64 2, .int .i64 pp] 63)).drew = W1 := ⟨_, rfl⟩
  have hb1 : Below w.heap.size w W1 := by rw [← hW1]; exact bel (bel_alloc _ _) (bel_drew _)
  have z0 : W1.cell? ⟨w.heap.size, 0, none⟩ = some (.int .i64 2) := by rw [← hW1]; simp [go_sem]
  rw [hW1]
  clear hW1 hHeld
  have HB1 : Hid (Below w.heap.size w W1) := hb1
  have g1 := kc hb1 q1
  have g2 := kc hb1 q2
  have g3 := kc hb1 f3
  have g4 := kc hb1 k1
  have g5 := kc hb1 k2
  have g6 := kf hb1 k2 k3
  clear q1 q2 f0 f3 c1 r0 r2 hb1 k1 k2 k3
  go_wp2
  refine wp_region_held_drew (S := (fun v => v.cell? ⟨FR, 3, none⟩ = some (.slice (some ⟨WB, 0, none⟩) N N) ∧ v.cell? ⟨ib, io + 1, none⟩ = some (.int .i64 (D : Int)) ∧ v.cell? ⟨ib, io + 2, none⟩ = some (.int .i64 (A : Int)))) (by kernel_rfl) ?_ (fun hHeld => ?_)
  · ((try dsimp only); go_keep)
  refine tkH (i := 0) (v := ?_) (hy := .inl ⟨by rfl, ?_⟩) (h := ?_)
  rotate_left 1
  · (intro wS hSw; (try dsimp only at hSw); go_simp; try (with_reducible rfl))
  try simp only [Act.put, List.setIfInBounds_toArray, List.set_cons_zero, List.set_cons_succ]
  refine tkH (i := 1) (v := ?_) (hy := .inl ⟨by rfl, ?_⟩) (h := ?_)
  rotate_left 1
  · (intro wS hSw; (try dsimp only at hSw); go_simp; try (with_reducible rfl))
  try simp only [Act.put, List.setIfInBounds_toArray, List.set_cons_zero, List.set_cons_succ]
  refine tkH (i := 2) (v := ?_) (hy := .inl ⟨by rfl, ?_⟩) (h := ?_)
  rotate_left 1
  · (intro wS hSw; (try dsimp only at hSw); go_simp; try (with_reducible rfl))
  try simp only [Act.put, List.setIfInBounds_toArray, List.set_cons_zero, List.set_cons_succ]
  refine tkH (i := 3) (v := ?_) (hy := .inl ⟨by rfl, ?_⟩) (h := ?_)
  rotate_left 1
  · (intro wS hSw; (try dsimp only at hSw); go_simp; try (with_reducible rfl))
  try simp only [Act.put, List.setIfInBounds_toArray, List.set_cons_zero, List.set_cons_succ]
  refine tkH (i := 4) (v := ?_) (hy := .inl ⟨by rfl, ?_⟩) (h := ?_)
  rotate_left 1
  · (intro wS hSw; (try dsimp only at hSw); go_simp; try (with_reducible rfl))
  try simp only [Act.put, List.setIfInBounds_toArray, List.set_cons_zero, List.set_cons_succ]
  refine tkH (i := 5) (v := ?_) (hy := .inl ⟨by rfl, ?_⟩) (h := ?_)
  rotate_left 1
  · (intro wS hSw; (try dsimp only at hSw); go_simp; try (with_reducible rfl))
  try simp only [Act.put, List.setIfInBounds_toArray, List.set_cons_zero, List.set_cons_succ]
  refine tkH (i := 6) (v := ?_) (hy := .inl ⟨by rfl, ?_⟩) (h := ?_)
  rotate_left 1
  · (intro wS hSw; (try dsimp only at hSw); go_simp; try (with_reducible rfl))
  try simp only [Act.put, List.setIfInBounds_toArray, List.set_cons_zero, List.set_cons_succ]
  refine tkH (i := 7) (v := ?_) (hy := .inl ⟨by rfl, ?_⟩) (h := ?_)
  rotate_left 1
  · (intro wS hSw; (try dsimp only at hSw); go_simp; try (with_reducible rfl))
  try simp only [Act.put, List.setIfInBounds_toArray, List.set_cons_zero, List.set_cons_succ]
  refine tkH (i := 8) (v := ?_) (hy := .inl ⟨by rfl, ?_⟩) (h := ?_)
  rotate_left 1
  · (intro wS hSw; (try dsimp only at hSw); go_simp; try (with_reducible rfl))
  try simp only [Act.put, List.setIfInBounds_toArray, List.set_cons_zero, List.set_cons_succ]
  refine tkH (i := 9) (v := ?_) (hy := .inl ⟨by rfl, ?_⟩) (h := ?_)
  rotate_left 1
  · (intro wS hSw; (try dsimp only at hSw); go_simp; try (with_reducible rfl))
  try simp only [Act.put, List.setIfInBounds_toArray, List.set_cons_zero, List.set_cons_succ]
  refine tkH (i := 10) (v := ?_) (hy := .inl ⟨by rfl, ?_⟩) (h := ?_)
  rotate_left 1
  · (intro wS hSw; (try dsimp only at hSw); go_simp; try (with_reducible rfl))
  try simp only [Act.put, List.setIfInBounds_toArray, List.set_cons_zero, List.set_cons_succ]
  refine tkH (i := 11) (v := ?_) (hy := .inl ⟨by rfl, ?_⟩) (h := ?_)
  rotate_left 1
  · (intro wS hSw; (try dsimp only at hSw); go_simp; try (with_reducible rfl))
  try simp only [Act.put, List.setIfInBounds_toArray, List.set_cons_zero, List.set_cons_succ]
  refine tkH (i := 12) (v := ?_) (hy := .inl ⟨by rfl, ?_⟩) (h := ?_)
  rotate_left 1
  · (intro wS hSw; (try dsimp only at hSw); go_simp; try (with_reducible rfl))
  try simp only [Act.put, List.setIfInBounds_toArray, List.set_cons_zero, List.set_cons_succ]
  refine tkH (i := 13) (v := ?_) (hy := .inl ⟨by rfl, ?_⟩) (h := ?_)
  rotate_left 1
  · (intro wS hSw; (try dsimp only at hSw); go_simp; try (with_reducible rfl))
  try simp only [Act.put, List.setIfInBounds_toArray, List.set_cons_zero, List.set_cons_succ]
  refine tkH (i := 14) (v := ?_) (hy := .inl ⟨by rfl, ?_⟩) (h := ?_)
  rotate_left 1
  · (intro wS hSw; (try dsimp only at hSw); go_simp; try (with_reducible rfl))
  try simp only [Act.put, List.setIfInBounds_toArray, List.set_cons_zero, List.set_cons_succ]
  refine tkH (i := 15) (v := ?_) (hy := .inl ⟨by rfl, ?_⟩) (h := ?_)
  rotate_left 1
  · (intro wS hSw; (try dsimp only at hSw); go_simp; try (with_reducible rfl))
  try simp only [Act.put, List.setIfInBounds_toArray, List.set_cons_zero, List.set_cons_succ]
  refine tkH (i := 16) (v := ?_) (hy := .inl ⟨by rfl, ?_⟩) (h := ?_)
  rotate_left 1
  · (intro wS hSw; (try dsimp only at hSw); go_simp; try (with_reducible rfl))
  try simp only [Act.put, List.setIfInBounds_toArray, List.set_cons_zero, List.set_cons_succ]
  clear hHeld
  refine wpAnyH_ready (rs := [17]) (by kernel_rfl) (by simp) ?_
  refine AllReadyH.cons (i := 17) (by simp only [List.getElem?_toArray, List.getElem?_cons_succ, List.getElem?_cons_zero]; rfl) (fun K hK => ?_) AllReadyH.nil
  go_simp
  refine hK.out _ _ ?_ (fun hHeld => ?_)
  · ((try dsimp only); go_keep)
  clear hK K
  try simp only [Act.put, List.setIfInBounds_toArray, List.set_cons_zero, List.set_cons_succ]
  refine tkH (i := 18) (v := ?_) (hy := .inl ⟨by rfl, ?_⟩) (h := ?_)
  rotate_left 1
  · (intro wS hSw; (try dsimp only at hSw); go_simp; try (with_reducible rfl))
  try simp only [Act.put, List.setIfInBounds_toArray, List.set_cons_zero, List.set_cons_succ]
  clear hHeld
  refine wpAnyH_ready (rs := [19]) (by kernel_rfl) (by simp) ?_
  refine AllReadyH.cons (i := 19) (by simp only [List.getElem?_toArray, List.getElem?_cons_succ, List.getElem?_cons_zero]; rfl) (fun K hK => ?_) AllReadyH.nil
  go_simp
  refine hK.out _ _ ?_ (fun hHeld => ?_)
  · ((try dsimp only); go_keep)
  clear hK K
  try simp only [Act.put, List.setIfInBounds_toArray, List.set_cons_zero, List.set_cons_succ]
  refine wpAnyH_done (by kernel_rfl) ?_ _
  go_wp2
  first | go_end0 | (simp only [Exit.inBlock, Exit.then]; refine bodyPost_ret (results_none rfl _ _ _) rfl ?_) | refine bodyPost_ret (results_none rfl _ _ _) rfl ?_
  have hfin := (StepOK.wh (HX.out.below HB1.out) (HV.out.below HB1.out) HD.out y).pre HB1.out
  rw [HWB.out] at hfin
  rw [HEq.out]
  exact ⟨rfl, hfin.on (bel_drew _)⟩

set_option maxRecDepth 100000 in
set_option maxHeartbeats 4000000 in
theorem do_num {T : Nat → Prop} {E E' : Nat} {a : Lay} {c : Cd} {G P : List (List Int)} {X : Nat → Value} {M : Nat} {m : Nat → Option Value} {f : Fr} (w : World) (x : FX T E E' a c G P w) (h : FV T E E' a c w X M m f) (hg : Good c) (ok : OkF c f) (ib io : Nat) (i : Ins) (hi : InsT (mutT T E E') w ib io i)
    (hop : isNum i.op = true) (d0 : 0 ≤ i.d) (d1 : i.d < (c.regs.length : Int)) (ha : i.op ≠ 1 → 0 ≤ i.a ∧ i.a < (c.regs.length : Int)) (hb : i.op = 16 → 0 ≤ i.b ∧ i.b < (c.regs.length : Int)) :
    Calls Tryz.prog 48 #[.pointer (some ⟨a.FR, 0, none⟩), .pointer (some ⟨ib, io, none⟩)] w fun e w' => e = .returned (.tuple #[]) ∧ StepOK T E E' a c G P M { f with nums := putN f.nums i.d.toNat (numI f i) } w w' := by
  have HK : Hid (∀ v, Below w.heap.size w v → Calls Tryz.prog 73 #[.pointer (some ⟨a.FR, 0, none⟩), .pointer (some ⟨ib, io, none⟩)] v fun e w' => e = .returned (.int .u32 (numI f i)) ∧ Below v.heap.size v w') := fun v hv => number_any v (x.below hv) (h.below hv) hg ok ib io i (hi.below hv).cells hop ha hb
  obtain ⟨y, hy⟩ : ∃ y, numI f i = y := ⟨_, rfl⟩
  rw [hy] at HK ⊢
  have q0 := hi.cells.at 0 rfl
  rw [Nat.add_zero] at q0
  have q1 := hi.cells.at 1 rfl
  have hnot := hi.not
  obtain ⟨op, D, A, B, Ec, nn, bt⟩ := i
  simp only at *
  obtain ⟨D, rfl⟩ : ∃ j : Nat, D = (j : Int) := ⟨D.toNat, by omega⟩
  rw [Int.toNat_natCast]
  have hD : D < c.regs.length := by omega
  have f2 := x.f2
  have hN := hg.regsL
  have k2 := h.nums.cell hD
  have k3 := h.nums.frozen D
  have n5 : a.NB ≠ a.FR := Ne.symm x.d1.1
  have n6 : a.NB ≠ ib := fun e => hnot (by rw [← e]; exact .inr x.iNB)
  obtain ⟨F, hF⟩ : ∃ F : Fr, ({ f with nums := putN f.nums D y } : Fr) = F := ⟨_, rfl⟩
  have HFin : Hid (∀ v, Below w.heap.size w v → StepOK T E E' a c G P M F w (v.setCell ⟨a.NB, D, none⟩ (.int .u32 y))) := fun v hv => by rw [← hF]; exact (StepOK.num (x.below hv) (h.below hv) hD y).pre hv
  rw [hF]
  obtain ⟨FR, hFR⟩ : ∃ FR, a.FR = FR := ⟨_, rfl⟩
  obtain ⟨NB, hNB⟩ : ∃ NB, a.NB = NB := ⟨_, rfl⟩
  obtain ⟨N, hN'⟩ : ∃ N, c.regs.length = N := ⟨_, rfl⟩
  obtain ⟨y2, hy2⟩ : ∃ y2, f.nums D = y2 := ⟨_, rfl⟩
  rw [hy2] at k2
  simp only [hFR, hNB, hN'] at f2 hN k2 k3 n5 n6 hD d1 HK HFin ⊢
  clear x h hg hi ok ha hb hy hFR hNB hN' hy2 hF hnot
  unfold isNum at hop
  simp only [Bool.or_eq_true, beq_iff_eq] at hop
  have hop' : op = 1 ∨ op = 16 ∨ op = 17 ∨ op = 19 ∨ op = 20 := by omega
  clear hop
  rcases hop' with rfl | rfl | rfl | rfl | rfl
  all_goals
    go_enter Tryz.func48, Tryz.ntmps48
    go_wp2
    refine wp_region_held_drew (S := (fun v => v.cell? ⟨FR, 2, none⟩ = some (.slice (some ⟨NB, 0, none⟩) N N) ∧ v.cell? ⟨ib, io + 1, none⟩ = some (.int .i64 (D : Int)))) (by kernel_rfl) ?_ (fun hHeld => ?_)
    · ((try dsimp only); go_keep)
    refine tkH (i := 0) (v := ?_) (hy := .inl ⟨by rfl, ?_⟩) (h := ?_)
    rotate_left 1
    · (intro wS hSw; (try dsimp only at hSw); go_simp; try (with_reducible rfl))
    try simp only [Act.put, List.setIfInBounds_toArray, List.set_cons_zero, List.set_cons_succ]
    refine tkH (i := 1) (v := ?_) (hy := .inl ⟨by rfl, ?_⟩) (h := ?_)
    rotate_left 1
    · (intro wS hSw; (try dsimp only at hSw); go_simp; try (with_reducible rfl))
    try simp only [Act.put, List.setIfInBounds_toArray, List.set_cons_zero, List.set_cons_succ]
    refine tkH (i := 2) (v := ?_) (hy := .inl ⟨by rfl, ?_⟩) (h := ?_)
    rotate_left 1
    · (intro wS hSw; (try dsimp only at hSw); go_simp; try (with_reducible rfl))
    try simp only [Act.put, List.setIfInBounds_toArray, List.set_cons_zero, List.set_cons_succ]
    refine tkH (i := 3) (v := ?_) (hy := .inl ⟨by rfl, ?_⟩) (h := ?_)
    rotate_left 1
    · (intro wS hSw; (try dsimp only at hSw); go_simp; try (with_reducible rfl))
    try simp only [Act.put, List.setIfInBounds_toArray, List.set_cons_zero, List.set_cons_succ]
    refine tkH (i := 4) (v := ?_) (hy := .inl ⟨by rfl, ?_⟩) (h := ?_)
    rotate_left 1
    · (intro wS hSw; (try dsimp only at hSw); go_simp; try (with_reducible rfl))
    try simp only [Act.put, List.setIfInBounds_toArray, List.set_cons_zero, List.set_cons_succ]
    refine tkH (i := 5) (v := ?_) (hy := .inl ⟨by rfl, ?_⟩) (h := ?_)
    rotate_left 1
    · (intro wS hSw; (try dsimp only at hSw); go_simp; try (with_reducible rfl))
    try simp only [Act.put, List.setIfInBounds_toArray, List.set_cons_zero, List.set_cons_succ]
    refine tkH (i := 6) (v := ?_) (hy := .inl ⟨by rfl, ?_⟩) (h := ?_)
    rotate_left 1
    · (intro wS hSw; (try dsimp only at hSw); go_simp; try (with_reducible rfl))
    try simp only [Act.put, List.setIfInBounds_toArray, List.set_cons_zero, List.set_cons_succ]
    refine tkH (i := 7) (v := ?_) (hy := .inl ⟨by rfl, ?_⟩) (h := ?_)
    rotate_left 1
    · (intro wS hSw; (try dsimp only at hSw); go_simp; try (with_reducible rfl))
    try simp only [Act.put, List.setIfInBounds_toArray, List.set_cons_zero, List.set_cons_succ]
    refine tkH (i := 8) (v := ?_) (hy := .inl ⟨by rfl, ?_⟩) (h := ?_)
    rotate_left 1
    · (intro wS hSw; (try dsimp only at hSw); go_simp; try (with_reducible rfl))
    try simp only [Act.put, List.setIfInBounds_toArray, List.set_cons_zero, List.set_cons_succ]
    refine tkH (i := 9) (v := ?_) (hy := .inl ⟨by rfl, ?_⟩) (h := ?_)
    rotate_left 1
    · (intro wS hSw; (try dsimp only at hSw); go_simp; try (with_reducible rfl))
    try simp only [Act.put, List.setIfInBounds_toArray, List.set_cons_zero, List.set_cons_succ]
    clear hHeld
    refine wpAnyH_ready (rs := [10]) (by kernel_rfl) (by simp) ?_
    refine AllReadyH.cons (i := 10) (by simp only [List.getElem?_toArray, List.getElem?_cons_succ, List.getElem?_cons_zero]; rfl) (fun K hK => ?_) AllReadyH.nil
    go_simp
    (go_at_call 73; refine (HK.out _ (bel_drew _)).mono ?_; rintro e w1 ⟨rfl, hb1⟩; have HB1 := bel (bel_drew _) hb1; have z1 := kc HB1 f2; have z2 := kc HB1 q1; have z3 := kc HB1 k2; have z4 := kf HB1 k2 k3; clear hb1)
    try (go_wp2_with fail)
    refine hK.out _ _ ?_ (fun hHeld => ?_)
    · ((try dsimp only); go_keep)
    clear hK K
    try simp only [Act.put, List.setIfInBounds_toArray, List.set_cons_zero, List.set_cons_succ]
    refine tkH (i := 11) (v := ?_) (hy := .inl ⟨by rfl, ?_⟩) (h := ?_)
    rotate_left 1
    · (intro wS hSw; (try dsimp only at hSw); go_simp; try (with_reducible rfl))
    try simp only [Act.put, List.setIfInBounds_toArray, List.set_cons_zero, List.set_cons_succ]
    clear hHeld
    refine wpAnyH_ready (rs := [12]) (by kernel_rfl) (by simp) ?_
    refine AllReadyH.cons (i := 12) (by simp only [List.getElem?_toArray, List.getElem?_cons_succ, List.getElem?_cons_zero]; rfl) (fun K hK => ?_) AllReadyH.nil
    go_simp
    refine hK.out _ _ ?_ (fun hHeld => ?_)
    · ((try dsimp only); go_keep)
    clear hK K
    try simp only [Act.put, List.setIfInBounds_toArray, List.set_cons_zero, List.set_cons_succ]
    refine wpAnyH_done (by kernel_rfl) ?_ _
    go_wp2
    go_end0
    exact ⟨rfl, HFin.out _ HB1⟩

set_option maxRecDepth 100000 in
set_option maxHeartbeats 4000000 in
theorem do_whole {T : Nat → Prop} {E E' : Nat} {a : Lay} {c : Cd} {G P : List (List Int)} {X : Nat → Value} {M : Nat} {m : Nat → Option Value} {f : Fr} (w : World) (x : FX T E E' a c G P w) (h : FV T E E' a c w X M m f) (hg : Good c) (ok : OkF c f) (ib io : Nat) (i : Ins) (hi : InsT (mutT T E E') w ib io i)
    (hop : isWhole i.op = true) (d0 : 0 ≤ i.d) (d1 : i.d < (c.regs.length : Int)) (ha : 0 ≤ i.a ∧ i.a < (c.regs.length : Int)) (hb : 0 ≤ i.b ∧ i.b < (c.regs.length : Int)) (hc : 0 ≤ i.c ∧ i.c < (c.regs.length : Int)) :
    Calls Tryz.prog 48 #[.pointer (some ⟨a.FR, 0, none⟩), .pointer (some ⟨ib, io, none⟩)] w fun e w' => e = .returned (.tuple #[]) ∧ StepOK T E E' a c G P M { f with whs := putN f.whs i.d.toNat (wholeI f i) } w w' := by
  have HK : Hid (∀ v, Below w.heap.size w v → Calls Tryz.prog 74 #[.pointer (some ⟨a.FR, 0, none⟩), .pointer (some ⟨ib, io, none⟩)] v fun e w' => e = .returned (.int .i64 (wholeI f i)) ∧ Below v.heap.size v w') := fun v hv => whole_any v (x.below hv) (h.below hv) hg ok ib io i (hi.below hv).cells hop ha hb hc
  obtain ⟨y, hy⟩ : ∃ y, wholeI f i = y := ⟨_, rfl⟩
  rw [hy] at HK ⊢
  have q0 := hi.cells.at 0 rfl
  rw [Nat.add_zero] at q0
  have q1 := hi.cells.at 1 rfl
  have hnot := hi.not
  obtain ⟨op, D, A, B, Ec, nn, bt⟩ := i
  simp only at *
  obtain ⟨D, rfl⟩ : ∃ j : Nat, D = (j : Int) := ⟨D.toNat, by omega⟩
  rw [Int.toNat_natCast]
  have hD : D < c.regs.length := by omega
  have f3 := x.f3
  have hN := hg.regsL
  have k2 := h.whs.cell hD
  have k3 := h.whs.frozen D
  have n5 : a.WB ≠ a.FR := Ne.symm x.d1.2.1
  have n6 : a.WB ≠ ib := fun e => hnot (by rw [← e]; exact .inr x.iWB)
  obtain ⟨F, hF⟩ : ∃ F : Fr, ({ f with whs := putN f.whs D y } : Fr) = F := ⟨_, rfl⟩
  have HFin : Hid (∀ v, Below w.heap.size w v → StepOK T E E' a c G P M F w (v.setCell ⟨a.WB, D, none⟩ (.int .i64 y))) := fun v hv => by rw [← hF]; exact (StepOK.wh (x.below hv) (h.below hv) hD y).pre hv
  rw [hF]
  obtain ⟨FR, hFR⟩ : ∃ FR, a.FR = FR := ⟨_, rfl⟩
  obtain ⟨WB, hWB⟩ : ∃ WB, a.WB = WB := ⟨_, rfl⟩
  obtain ⟨N, hN'⟩ : ∃ N, c.regs.length = N := ⟨_, rfl⟩
  obtain ⟨y2, hy2⟩ : ∃ y2, f.whs D = y2 := ⟨_, rfl⟩
  rw [hy2] at k2
  simp only [hFR, hWB, hN'] at f3 hN k2 k3 n5 n6 hD d1 HK HFin ⊢
  clear x h hg hi ok ha hb hc hy hFR hWB hN' hy2 hF hnot
  unfold isWhole at hop
  simp only [Bool.or_eq_true, Bool.and_eq_true, beq_iff_eq, decide_eq_true_eq] at hop
  have hop' : op = 2 ∨ op = 18 ∨ op = 21 ∨ op = 22 ∨ op = 23 ∨ op = 24 ∨ op = 25 ∨ op = 26 ∨ op = 27 ∨ op = 28 := by omega
  clear hop
  rcases hop' with rfl | rfl | rfl | rfl | rfl | rfl | rfl | rfl | rfl | rfl
  all_goals
    go_enter Tryz.func48, Tryz.ntmps48
    go_wp2
    refine wp_region_held_drew (S := (fun v => v.cell? ⟨FR, 3, none⟩ = some (.slice (some ⟨WB, 0, none⟩) N N) ∧ v.cell? ⟨ib, io + 1, none⟩ = some (.int .i64 (D : Int)))) (by kernel_rfl) ?_ (fun hHeld => ?_)
    · ((try dsimp only); go_keep)
    refine tkH (i := 0) (v := ?_) (hy := .inl ⟨by rfl, ?_⟩) (h := ?_)
    rotate_left 1
    · (intro wS hSw; (try dsimp only at hSw); go_simp; try (with_reducible rfl))
    try simp only [Act.put, List.setIfInBounds_toArray, List.set_cons_zero, List.set_cons_succ]
    refine tkH (i := 1) (v := ?_) (hy := .inl ⟨by rfl, ?_⟩) (h := ?_)
    rotate_left 1
    · (intro wS hSw; (try dsimp only at hSw); go_simp; try (with_reducible rfl))
    try simp only [Act.put, List.setIfInBounds_toArray, List.set_cons_zero, List.set_cons_succ]
    refine tkH (i := 2) (v := ?_) (hy := .inl ⟨by rfl, ?_⟩) (h := ?_)
    rotate_left 1
    · (intro wS hSw; (try dsimp only at hSw); go_simp; try (with_reducible rfl))
    try simp only [Act.put, List.setIfInBounds_toArray, List.set_cons_zero, List.set_cons_succ]
    refine tkH (i := 3) (v := ?_) (hy := .inl ⟨by rfl, ?_⟩) (h := ?_)
    rotate_left 1
    · (intro wS hSw; (try dsimp only at hSw); go_simp; try (with_reducible rfl))
    try simp only [Act.put, List.setIfInBounds_toArray, List.set_cons_zero, List.set_cons_succ]
    refine tkH (i := 4) (v := ?_) (hy := .inl ⟨by rfl, ?_⟩) (h := ?_)
    rotate_left 1
    · (intro wS hSw; (try dsimp only at hSw); go_simp; try (with_reducible rfl))
    try simp only [Act.put, List.setIfInBounds_toArray, List.set_cons_zero, List.set_cons_succ]
    refine tkH (i := 5) (v := ?_) (hy := .inl ⟨by rfl, ?_⟩) (h := ?_)
    rotate_left 1
    · (intro wS hSw; (try dsimp only at hSw); go_simp; try (with_reducible rfl))
    try simp only [Act.put, List.setIfInBounds_toArray, List.set_cons_zero, List.set_cons_succ]
    refine tkH (i := 6) (v := ?_) (hy := .inl ⟨by rfl, ?_⟩) (h := ?_)
    rotate_left 1
    · (intro wS hSw; (try dsimp only at hSw); go_simp; try (with_reducible rfl))
    try simp only [Act.put, List.setIfInBounds_toArray, List.set_cons_zero, List.set_cons_succ]
    refine tkH (i := 7) (v := ?_) (hy := .inl ⟨by rfl, ?_⟩) (h := ?_)
    rotate_left 1
    · (intro wS hSw; (try dsimp only at hSw); go_simp; try (with_reducible rfl))
    try simp only [Act.put, List.setIfInBounds_toArray, List.set_cons_zero, List.set_cons_succ]
    refine tkH (i := 8) (v := ?_) (hy := .inl ⟨by rfl, ?_⟩) (h := ?_)
    rotate_left 1
    · (intro wS hSw; (try dsimp only at hSw); go_simp; try (with_reducible rfl))
    try simp only [Act.put, List.setIfInBounds_toArray, List.set_cons_zero, List.set_cons_succ]
    refine tkH (i := 9) (v := ?_) (hy := .inl ⟨by rfl, ?_⟩) (h := ?_)
    rotate_left 1
    · (intro wS hSw; (try dsimp only at hSw); go_simp; try (with_reducible rfl))
    try simp only [Act.put, List.setIfInBounds_toArray, List.set_cons_zero, List.set_cons_succ]
    clear hHeld
    refine wpAnyH_ready (rs := [10]) (by kernel_rfl) (by simp) ?_
    refine AllReadyH.cons (i := 10) (by simp only [List.getElem?_toArray, List.getElem?_cons_succ, List.getElem?_cons_zero]; rfl) (fun K hK => ?_) AllReadyH.nil
    go_simp
    (go_at_call 74; refine (HK.out _ (bel_drew _)).mono ?_; rintro e w1 ⟨rfl, hb1⟩; have HB1 := bel (bel_drew _) hb1; have z1 := kc HB1 f3; have z2 := kc HB1 q1; have z3 := kc HB1 k2; have z4 := kf HB1 k2 k3; clear hb1)
    try (go_wp2_with fail)
    refine hK.out _ _ ?_ (fun hHeld => ?_)
    · ((try dsimp only); go_keep)
    clear hK K
    try simp only [Act.put, List.setIfInBounds_toArray, List.set_cons_zero, List.set_cons_succ]
    refine tkH (i := 11) (v := ?_) (hy := .inl ⟨by rfl, ?_⟩) (h := ?_)
    rotate_left 1
    · (intro wS hSw; (try dsimp only at hSw); go_simp; try (with_reducible rfl))
    try simp only [Act.put, List.setIfInBounds_toArray, List.set_cons_zero, List.set_cons_succ]
    clear hHeld
    refine wpAnyH_ready (rs := [12]) (by kernel_rfl) (by simp) ?_
    refine AllReadyH.cons (i := 12) (by simp only [List.getElem?_toArray, List.getElem?_cons_succ, List.getElem?_cons_zero]; rfl) (fun K hK => ?_) AllReadyH.nil
    go_simp
    refine hK.out _ _ ?_ (fun hHeld => ?_)
    · ((try dsimp only); go_keep)
    clear hK K
    try simp only [Act.put, List.setIfInBounds_toArray, List.set_cons_zero, List.set_cons_succ]
    refine wpAnyH_done (by kernel_rfl) ?_ _
    go_wp2
    go_end0
    exact ⟨rfl, HFin.out _ HB1⟩

end Go.Proofs.YtholhpmnicibgaaGreat
