import Derived.Test.YtholhpmnicibgaaGreatPart5
import Derived.Test.YtholhpmnicibgaaGreatPart4
namespace Go.Proofs.YtholhpmnicibgaaGreat
open Go.RowKit
set_option linter.unusedVariables false
set_option linter.unusedSimpArgs false
def stepU (a : Lay) (E E' : Nat) : Nat → Prop := fun b => b = a.S ∨ (E ≤ b ∧ b < E')
theorem stepU_in {a : Lay} {E E' B : Nat} (h : E ≤ B ∧ B < E') : ∀ b, b = B → stepU a E E' b := fun b e => .inr (e ▸ h)
theorem bel_drew (w : World) : Below w.heap.size w w.drew := (Below.refl _ _).drew
def StepOK (T : Nat → Prop) (E E' : Nat) (a : Lay) (c : Cd) (G P : List (List Int)) (M : Nat) (f : Fr) (w w' : World) : Prop :=
 FX T E E' a c G P w' ∧ (∃ X M' m, M' ≤ M + 1 ∧ FV T E E' a c w' X M' m f) ∧ Un (stepU a E E') w w'
section
variable {T : Nat → Prop} {E E' : Nat} {a : Lay} {c : Cd} {G P : List (List Int)} {X : Nat → Value} {M : Nat} {m : Nat → Option Value} {f : Fr} {w w1 w2 : World}
theorem StepOK.on (h : StepOK T E E' a c G P M f w w1) (k : Below w1.heap.size w1 w2) : StepOK T E E' a c G P M f w w2 := by
 obtain ⟨h1, ⟨X, M', m, h2, h3⟩, h4⟩ := h
 exact ⟨h1.below k, ⟨X, M', m, h2, h3.below k⟩, h4.on k⟩
theorem StepOK.same (x : FX T E E' a c G P w) (h : FV T E E' a c w X M m f) (k : Below w.heap.size w w1) : StepOK T E E' a c G P M f w w1 :=
 ⟨x.below k, ⟨X, M, m, by omega, h.below k⟩, Un.of k⟩
theorem StepOK.pre (k : Below w.heap.size w w1) (h : StepOK T E E' a c G P M f w1 w2) : StepOK T E E' a c G P M f w w2 := by
 obtain ⟨h1, h2, h4⟩ := h
 exact ⟨h1, h2, (Un.of k).trans h4⟩
theorem StepOK.num (x : FX T E E' a c G P w1) (h : FV T E E' a c w1 X M m f) {d : Nat} (hd : d < c.regs.length) (y : Int) : StepOK T E E' a c G P M { f with nums := putN f.nums d y } w1 (w1.setCell ⟨a.NB, d, none⟩ (.int .u32 y)) := by
 obtain ⟨h1, h2, h3⟩ := FV.num x h hd y rfl
 exact ⟨h1, ⟨X, M, m, by omega, h2⟩, h3.mono (stepU_in x.iNB)⟩
theorem StepOK.wh (x : FX T E E' a c G P w1) (h : FV T E E' a c w1 X M m f) {d : Nat} (hd : d < c.regs.length) (y : Int) : StepOK T E E' a c G P M { f with whs := putN f.whs d y } w1 (w1.setCell ⟨a.WB, d, none⟩ (.int .i64 y)) := by
 obtain ⟨h1, h2, h3⟩ := FV.wh x h hd y rfl
 exact ⟨h1, ⟨X, M, m, by omega, h2⟩, h3.mono (stepU_in x.iWB)⟩
theorem StepOK.vec (x : FX T E E' a c G P w1) (h : FV T E E' a c w1 X M m f) {d : Nat} (hd : d < c.regs.length) {v : Value} {l : List Int} (hv : Pt (mutT T E E') w1 v l) (hm : MapI w2 a.MB (M + 1) (updI m d v)) (hg : w1.grownBy w2 (some a.MB)) : StepOK T E E' a c G P M { f with vecs := putN f.vecs d l } w1 w2 := by
 obtain ⟨h1, h2, h3⟩ := FV.vec x h hd hv hm hg
 exact ⟨h1, ⟨X, M + 1, _, by omega, h2⟩, h3.mono (stepU_in x.iMB)⟩
theorem StepOK.slot (x : FX T E E' a c G P w1) (h : FV T E E' a c w1 X M m f) {d : Nat} (hd : d < f.slots.length) {v : Value} {hh : Hd} (hv : Pt (mutT T E E') w1 v hh.pats) : StepOK T E E' a c G P M { f with slots := f.slots.set d hh } w1 ((w1.setCell ⟨a.S, d * 2, none⟩ v).setCell ⟨a.S, d * 2 + 1, none⟩ (.int .i64 hh.whole)) := by
 obtain ⟨h1, ⟨X', h2⟩, h3⟩ := FV.slot x h hd hv rfl
 exact ⟨h1, ⟨X', M, _, by omega, h2⟩, h3.mono fun b e => .inl e⟩
end
theorem first_cell {T : Nat → Prop} {w : World} {q : Option Addr} {L cap : Nat} {y : Int} {l : List Int} (h : Pt T w (.slice q L cap) (y :: l)) : ∃ vb vo, q = some ⟨vb, vo, none⟩ ∧ ¬ T vb ∧ w.cell? ⟨vb, vo, none⟩ = some (.int .u32 y) ∧ 0 < L := by
 obtain ⟨q', c', e, hl⟩ := h
 simp only [Value.slice.injEq] at e
 obtain ⟨rfl, hL, rfl⟩ := e
 rcases hl with hl | ⟨vb, vo, rfl, hn, _, hl⟩
 ·cases hl
 ·refine ⟨vb, vo, rfl, hn, ?_, by rw [hL]; simp⟩
  have := (hl 0 (by simp)).at 0 (v := .int .u32 y) rfl
  simpa using this
set_option maxRecDepth 100000 in
set_option maxHeartbeats 2000000 in
theorem set_any {T : Nat → Prop} {E E' : Nat} {a : Lay} {c : Cd} {G P : List (List Int)} {X : Nat → Value} {M : Nat} {m : Nat → Option Value} {f : Fr} (w : World) (x : FX T E E' a c G P w) (h : FV T E E' a c w X M m f) (hg : Good c) (r : Nat) (hr : r < c.regs.length) (hM : M ≤ 1000000)
  (q : Option Addr) (L cap : Nat) (hh : Hd) (hv : Pt (mutT T E E') w (.slice q L cap) hh.pats) (h1 : c.regs[r].kind = 1 → hh.pats ≠ []) :
  Calls Tryz.prog 77 #[.pointer (some ⟨a.FR, 0, none⟩), .int .i64 r, .agg #[.slice q L cap, .int .i64 hh.whole]] w fun e w' => e = .returned (.tuple #[]) ∧ StepOK T E E' a c G P M (stP c f r hh) w w' := by
 obtain ⟨W1, hW1⟩ : ∃ W1, w.alloc (.cells #[.slice q L cap, .int .i64 hh.whole] 80) = W1 := ⟨_, rfl⟩
 have hb1 : Below w.heap.size w W1 := by rw [← hW1]; exact bel_alloc _ _
 have HX1 : Hid (FX T E E' a c G P W1) := x.below hb1
 have HV1 : Hid (FV T E E' a c W1 X M m f) := h.below hb1
 have HP1 : Hid (Pt (mutT T E E') W1 (.slice q L cap) hh.pats) := hv.below hb1
 have HS : Hid (E' ≤ w.heap.size) := x.hE'
 have z0 : W1.cell? ⟨w.heap.size, 0, none⟩ = some (.slice q L cap) := by rw [← hW1]; simp [go_sem]
 have z1 : W1.cell? ⟨w.heap.size, 1, none⟩ = some (.int .i64 hh.whole) := by rw [← hW1]; simp [go_sem]
 have HB1 : Hid (Below w.heap.size w W1) := hb1
 have f0 := HX1.out.f0
 have c1 := HX1.out.code.c1
 obtain ⟨b, o, mm, hv1, k0, -⟩ := HX1.out.code.reg hr
 rw [hv1] at c1
 have hN := hg.regsL
 have HE : Hid (stP c f r hh = if c.regs[r].kind = 1 then { f with nums := putN f.nums r (hh.pats.headD 0) } else if c.regs[r].kind = 2 then { f with whs := putN f.whs r hh.whole } else { f with vecs := putN f.vecs r hh.pats }) := by
  show stP c f r hh = _
  unfold stP
  rw [iregT_at hr, Int.toNat_natCast]
 obtain ⟨F, hF⟩ : ∃ F, stP c f r hh = F := ⟨_, rfl⟩
 rw [hF] at HE ⊢
 have H1 : Hid (c.regs[r].kind = 1 → hh.pats ≠ []) := h1
 obtain ⟨K, hK⟩ : ∃ K, c.regs[r].kind = K := ⟨_, rfl⟩
 obtain ⟨N, hN'⟩ : ∃ N, c.regs.length = N := ⟨_, rfl⟩
 rw [hK] at k0 H1 HE
 rw [hN'] at c1 hN
 have hrN : r < N := by omega
 have HR : Hid (r < c.regs.length) := hr
 obtain ⟨C, hC⟩ : ∃ C, a.C = C := ⟨_, rfl⟩
 obtain ⟨FR, hFR⟩ : ∃ FR, a.FR = FR := ⟨_, rfl⟩
 rw [hC] at c1 f0
 rw [hFR] at f0 ⊢
 have HA : Hid (a.FR = FR) := hFR
 have HN : Hid (c.regs.length = N) := hN'
 clear hK hN' hv1 hg h x hv h1 hr hb1 hC hFR hF
 by_cases h1 : K = 1
 ·subst h1
  have f2 := HX1.out.f2
  rw [HN.out, HA.out] at f2
  have q0 := HV1.out.nums.frozen r
  have q1 := HV1.out.nums.cell HR.out
  obtain ⟨NB, hNB⟩ : ∃ NB, a.NB = NB := ⟨_, rfl⟩
  rw [hNB] at f2 q0 q1
  have HNB : Hid (a.NB = NB) := hNB
  obtain ⟨y, l, hy⟩ : ∃ y l, hh.pats = y :: l := by
   cases e : hh.pats with
   | nil => exact absurd e (H1.out rfl)
   | cons y l => exact ⟨y, l, rfl⟩
  have HY : Hid (hh.pats = y :: l) := hy
  have hl := HP1.out
  rw [hy] at hl
  obtain ⟨vb, vo, rfl, hnv, y0, hL1⟩ := first_cell hl
  have n1 : FR ≠ NB := by rw [← HA.out, ← HNB.out]; exact HX1.out.d1.1
  have n2 : w.heap.size ≠ NB := by
   have i1 := HX1.out.iNB
   rw [HNB.out] at i1
   have := (HS.out : E' ≤ w.heap.size)
   omega
  have n3 : vb ≠ NB := fun e => hnv (by rw [e, ← HNB.out]; exact .inr HX1.out.iNB)
  have n1' := Ne.symm n1
  have n2' := Ne.symm n2
  have n3' := Ne.symm n3
  have e1 : (0 : Int) < (L : Int) := by omega
  clear hl hy hNB hnv
  go_enter Tryz.func77, Tryz.ntmps77
  go_wp2
  clear hW1
  refine wp_region_held_drew (S := (fun v => v.cell? ⟨FR, 2, none⟩ = some (.slice (some ⟨NB, 0, none⟩) N N) ∧ v.cell? ⟨w.heap.size, 0, none⟩ = some (.slice (some ⟨vb, vo, none⟩) L cap) ∧ v.cell? ⟨vb, vo, none⟩ = some (.int .u32 y))) (by kernel_rfl) ?_ (fun hHeld => ?_)
  ·((try dsimp only); go_keep)
  refine wpAnyH_take (i := 0) (v := ?_) (by simp only [List.getElem?_toArray, List.getElem?_cons_succ, List.getElem?_cons_zero]; rfl) (by kernel_rfl) (by kernel_rfl) (by kernel_rfl) (by exact fun _ _ _ h => h) (Or.inl ⟨by rfl, ?_⟩) (by assumption) ?_
  rotate_left 1
  ·(intro wS hSw; (try dsimp only at hSw); go_simp; try (with_reducible rfl))
  try simp only [Act.put, List.setIfInBounds_toArray, List.set_cons_zero, List.set_cons_succ]
  refine wpAnyH_take (i := 1) (v := ?_) (by simp only [List.getElem?_toArray, List.getElem?_cons_succ, List.getElem?_cons_zero]; rfl) (by kernel_rfl) (by kernel_rfl) (by kernel_rfl) (by exact fun _ _ _ h => h) (Or.inl ⟨by rfl, ?_⟩) (by assumption) ?_
  rotate_left 1
  ·(intro wS hSw; (try dsimp only at hSw); go_simp; try (with_reducible rfl))
  try simp only [Act.put, List.setIfInBounds_toArray, List.set_cons_zero, List.set_cons_succ]
  refine wpAnyH_take (i := 2) (v := ?_) (by simp only [List.getElem?_toArray, List.getElem?_cons_succ, List.getElem?_cons_zero]; rfl) (by kernel_rfl) (by kernel_rfl) (by kernel_rfl) (by exact fun _ _ _ h => h) (Or.inl ⟨by rfl, ?_⟩) (by assumption) ?_
  rotate_left 1
  ·(intro wS hSw; (try dsimp only at hSw); go_simp; try (with_reducible rfl))
  try simp only [Act.put, List.setIfInBounds_toArray, List.set_cons_zero, List.set_cons_succ]
  refine wpAnyH_take (i := 3) (v := ?_) (by simp only [List.getElem?_toArray, List.getElem?_cons_succ, List.getElem?_cons_zero]; rfl) (by kernel_rfl) (by kernel_rfl) (by kernel_rfl) (by exact fun _ _ _ h => h) (Or.inl ⟨by rfl, ?_⟩) (by assumption) ?_
  rotate_left 1
  ·(intro wS hSw; (try dsimp only at hSw); go_simp; try (with_reducible rfl))
  try simp only [Act.put, List.setIfInBounds_toArray, List.set_cons_zero, List.set_cons_succ]
  refine wpAnyH_take (i := 4) (v := ?_) (by simp only [List.getElem?_toArray, List.getElem?_cons_succ, List.getElem?_cons_zero]; rfl) (by kernel_rfl) (by kernel_rfl) (by kernel_rfl) (by exact fun _ _ _ h => h) (Or.inl ⟨by rfl, ?_⟩) (by assumption) ?_
  rotate_left 1
  ·(intro wS hSw; (try dsimp only at hSw); go_simp; try (with_reducible rfl))
  try simp only [Act.put, List.setIfInBounds_toArray, List.set_cons_zero, List.set_cons_succ]
  refine wpAnyH_take (i := 5) (v := ?_) (by simp only [List.getElem?_toArray, List.getElem?_cons_succ, List.getElem?_cons_zero]; rfl) (by kernel_rfl) (by kernel_rfl) (by kernel_rfl) (by exact fun _ _ _ h => h) (Or.inl ⟨by rfl, ?_⟩) (by assumption) ?_
  rotate_left 1
  ·(intro wS hSw; (try dsimp only at hSw); go_simp; try (with_reducible rfl))
  try simp only [Act.put, List.setIfInBounds_toArray, List.set_cons_zero, List.set_cons_succ]
  refine wpAnyH_take (i := 6) (v := ?_) (by simp only [List.getElem?_toArray, List.getElem?_cons_succ, List.getElem?_cons_zero]; rfl) (by kernel_rfl) (by kernel_rfl) (by kernel_rfl) (by exact fun _ _ _ h => h) (Or.inl ⟨by rfl, ?_⟩) (by assumption) ?_
  rotate_left 1
  ·(intro wS hSw; (try dsimp only at hSw); go_simp; try (with_reducible rfl))
  try simp only [Act.put, List.setIfInBounds_toArray, List.set_cons_zero, List.set_cons_succ]
  refine wpAnyH_take (i := 7) (v := ?_) (by simp only [List.getElem?_toArray, List.getElem?_cons_succ, List.getElem?_cons_zero]; rfl) (by kernel_rfl) (by kernel_rfl) (by kernel_rfl) (by exact fun _ _ _ h => h) (Or.inl ⟨by rfl, ?_⟩) (by assumption) ?_
  rotate_left 1
  ·(intro wS hSw; (try dsimp only at hSw); go_simp; try (with_reducible rfl))
  try simp only [Act.put, List.setIfInBounds_toArray, List.set_cons_zero, List.set_cons_succ]
  refine wpAnyH_take (i := 8) (v := ?_) (by simp only [List.getElem?_toArray, List.getElem?_cons_succ, List.getElem?_cons_zero]; rfl) (by kernel_rfl) (by kernel_rfl) (by kernel_rfl) (by exact fun _ _ _ h => h) (Or.inl ⟨by rfl, ?_⟩) (by assumption) ?_
  rotate_left 1
  ·(intro wS hSw; (try dsimp only at hSw); go_simp; try (with_reducible rfl))
  try simp only [Act.put, List.setIfInBounds_toArray, List.set_cons_zero, List.set_cons_succ]
  refine wpAnyH_take (i := 9) (v := ?_) (by simp only [List.getElem?_toArray, List.getElem?_cons_succ, List.getElem?_cons_zero]; rfl) (by kernel_rfl) (by kernel_rfl) (by kernel_rfl) (by exact fun _ _ _ h => h) (Or.inl ⟨by rfl, ?_⟩) (by assumption) ?_
  rotate_left 1
  ·(intro wS hSw; (try dsimp only at hSw); go_simp; try (with_reducible rfl))
  try simp only [Act.put, List.setIfInBounds_toArray, List.set_cons_zero, List.set_cons_succ]
  clear hHeld
  refine wpAnyH_ready (rs := [10]) (by kernel_rfl) (by simp) ?_
  refine AllReadyH.cons (i := 10) (by simp only [List.getElem?_toArray, List.getElem?_cons_succ, List.getElem?_cons_zero]; rfl) (fun K hK => ?_) AllReadyH.nil
  go_simp
  refine hK.out _ _ ?_ (fun hHeld => ?_)
  ·((try dsimp only); go_keep)
  clear hK K
  try simp only [Act.put, List.setIfInBounds_toArray, List.set_cons_zero, List.set_cons_succ]
  refine wpAnyH_done (by kernel_rfl) ?_ _
  go_wp2
  go_end0
  have hfin := (StepOK.num HX1.out HV1.out HR.out y).pre HB1.out
  rw [HNB.out] at hfin
  have e9 := HE.out
  simp only [if_true] at e9
  rw [HY.out] at e9
  rw [e9]
  exact ⟨rfl, hfin.on (bel_drew _)⟩
 ·have e1 : (K == 1) = false := by simpa using h1
  by_cases h2 : K = 2
  ·subst h2
   have f3 := HX1.out.f3
   rw [HN.out, HA.out] at f3
   have q0 := HV1.out.whs.frozen r
   have q1 := HV1.out.whs.cell HR.out
   obtain ⟨WB, hWB⟩ : ∃ WB, a.WB = WB := ⟨_, rfl⟩
   rw [hWB] at f3 q0 q1
   have HWB : Hid (a.WB = WB) := hWB
   have n1 : WB ≠ FR := by rw [← HA.out, ← HWB.out]; exact Ne.symm HX1.out.d1.2.1
   have n2 : WB ≠ w.heap.size := by
    have i1 := HX1.out.iWB
    rw [HWB.out] at i1
    have := (HS.out : E' ≤ w.heap.size)
    omega
   clear hWB h1
   obtain ⟨hw, hhw⟩ : ∃ hw, hh.whole = hw := ⟨_, rfl⟩
   have HHW : Hid (hh.whole = hw) := hhw
   rw [hhw] at z1 hW1 ⊢
   clear hhw
   go_enter Tryz.func77, Tryz.ntmps77
   go_wp2
   clear hW1
   refine wp_region_held_drew (S := (fun v => v.cell? ⟨FR, 3, none⟩ = some (.slice (some ⟨WB, 0, none⟩) N N) ∧ v.cell? ⟨w.heap.size, 1, none⟩ = some (.int .i64 hw))) (by kernel_rfl) ?_ (fun hHeld => ?_)
   ·((try dsimp only); go_keep)
   refine wpAnyH_take (i := 0) (v := ?_) (by simp only [List.getElem?_toArray, List.getElem?_cons_succ, List.getElem?_cons_zero]; rfl) (by kernel_rfl) (by kernel_rfl) (by kernel_rfl) (by exact fun _ _ _ h => h) (Or.inl ⟨by rfl, ?_⟩) (by assumption) ?_
   rotate_left 1
   ·(intro wS hSw; (try dsimp only at hSw); go_simp; try (with_reducible rfl))
   try simp only [Act.put, List.setIfInBounds_toArray, List.set_cons_zero, List.set_cons_succ]
   refine wpAnyH_take (i := 1) (v := ?_) (by simp only [List.getElem?_toArray, List.getElem?_cons_succ, List.getElem?_cons_zero]; rfl) (by kernel_rfl) (by kernel_rfl) (by kernel_rfl) (by exact fun _ _ _ h => h) (Or.inl ⟨by rfl, ?_⟩) (by assumption) ?_
   rotate_left 1
   ·(intro wS hSw; (try dsimp only at hSw); go_simp; try (with_reducible rfl))
   try simp only [Act.put, List.setIfInBounds_toArray, List.set_cons_zero, List.set_cons_succ]
   refine wpAnyH_take (i := 2) (v := ?_) (by simp only [List.getElem?_toArray, List.getElem?_cons_succ, List.getElem?_cons_zero]; rfl) (by kernel_rfl) (by kernel_rfl) (by kernel_rfl) (by exact fun _ _ _ h => h) (Or.inl ⟨by rfl, ?_⟩) (by assumption) ?_
   rotate_left 1
   ·(intro wS hSw; (try dsimp only at hSw); go_simp; try (with_reducible rfl))
   try simp only [Act.put, List.setIfInBounds_toArray, List.set_cons_zero, List.set_cons_succ]
   refine wpAnyH_take (i := 3) (v := ?_) (by simp only [List.getElem?_toArray, List.getElem?_cons_succ, List.getElem?_cons_zero]; rfl) (by kernel_rfl) (by kernel_rfl) (by kernel_rfl) (by exact fun _ _ _ h => h) (Or.inl ⟨by rfl, ?_⟩) (by assumption) ?_
   rotate_left 1
   ·(intro wS hSw; (try dsimp only at hSw); go_simp; try (with_reducible rfl))
   try simp only [Act.put, List.setIfInBounds_toArray, List.set_cons_zero, List.set_cons_succ]
   refine wpAnyH_take (i := 4) (v := ?_) (by simp only [List.getElem?_toArray, List.getElem?_cons_succ, List.getElem?_cons_zero]; rfl) (by kernel_rfl) (by kernel_rfl) (by kernel_rfl) (by exact fun _ _ _ h => h) (Or.inl ⟨by rfl, ?_⟩) (by assumption) ?_
   rotate_left 1
   ·(intro wS hSw; (try dsimp only at hSw); go_simp; try (with_reducible rfl))
   try simp only [Act.put, List.setIfInBounds_toArray, List.set_cons_zero, List.set_cons_succ]
   refine wpAnyH_take (i := 5) (v := ?_) (by simp only [List.getElem?_toArray, List.getElem?_cons_succ, List.getElem?_cons_zero]; rfl) (by kernel_rfl) (by kernel_rfl) (by kernel_rfl) (by exact fun _ _ _ h => h) (Or.inl ⟨by rfl, ?_⟩) (by assumption) ?_
   rotate_left 1
   ·(intro wS hSw; (try dsimp only at hSw); go_simp; try (with_reducible rfl))
   try simp only [Act.put, List.setIfInBounds_toArray, List.set_cons_zero, List.set_cons_succ]
   refine wpAnyH_take (i := 6) (v := ?_) (by simp only [List.getElem?_toArray, List.getElem?_cons_succ, List.getElem?_cons_zero]; rfl) (by kernel_rfl) (by kernel_rfl) (by kernel_rfl) (by exact fun _ _ _ h => h) (Or.inl ⟨by rfl, ?_⟩) (by assumption) ?_
   rotate_left 1
   ·(intro wS hSw; (try dsimp only at hSw); go_simp; try (with_reducible rfl))
   try simp only [Act.put, List.setIfInBounds_toArray, List.set_cons_zero, List.set_cons_succ]
   refine wpAnyH_take (i := 7) (v := ?_) (by simp only [List.getElem?_toArray, List.getElem?_cons_succ, List.getElem?_cons_zero]; rfl) (by kernel_rfl) (by kernel_rfl) (by kernel_rfl) (by exact fun _ _ _ h => h) (Or.inl ⟨by rfl, ?_⟩) (by assumption) ?_
   rotate_left 1
   ·(intro wS hSw; (try dsimp only at hSw); go_simp; try (with_reducible rfl))
   try simp only [Act.put, List.setIfInBounds_toArray, List.set_cons_zero, List.set_cons_succ]
   clear hHeld
   refine wpAnyH_ready (rs := [8]) (by kernel_rfl) (by simp) ?_
   refine AllReadyH.cons (i := 8) (by simp only [List.getElem?_toArray, List.getElem?_cons_succ, List.getElem?_cons_zero]; rfl) (fun K hK => ?_) AllReadyH.nil
   go_simp
   refine hK.out _ _ ?_ (fun hHeld => ?_)
   ·((try dsimp only); go_keep)
   clear hK K
   try simp only [Act.put, List.setIfInBounds_toArray, List.set_cons_zero, List.set_cons_succ]
   refine wpAnyH_done (by kernel_rfl) ?_ _
   go_wp2
   go_end0
   have hfin := (StepOK.wh HX1.out HV1.out HR.out hw).pre HB1.out
   rw [HWB.out] at hfin
   have e9 := HE.out
   rw [if_neg (by decide)] at e9
   simp only [if_true] at e9
   rw [HHW.out] at e9
   rw [e9]
   exact ⟨rfl, hfin.on (bel_drew _)⟩
  ·have e2 : (K == 2) = false := by simpa using h2
   have f4 := HX1.out.f4
   rw [HA.out] at f4
   have HX2 := HX1.out.below (bel_drew _)
   have HV2 := HV1.out.below (bel_drew _)
   obtain ⟨w2, hrun, hm2, hg2⟩ := HV2.map.put (by unfold maxLen; omega) Tryz.underlying93 (k := r) (by omega) (.slice q L cap)
   obtain ⟨MB, hMB⟩ : ∃ MB, a.MB = MB := ⟨_, rfl⟩
   have hfin := (StepOK.vec HX2 HV2 HR.out (HP1.out.below (bel_drew _)) hm2 hg2).pre (bel HB1.out (bel_drew _))
   have r4 := HX2.f4
   have r0 : w2.cell? ⟨FR, 4, none⟩ = some (.map (some MB)) := by
    have := hfin.1.f4
    rw [HA.out, hMB] at this
    exact this
   have r1 : w2.cell? ⟨w.heap.size, 0, none⟩ = some (.slice q L cap) := by
    refine (World.cell?_of_block (hg2.block _ ?_ ?_)).trans z0
    ·have := mcell_lt z0; exact this
    ·intro e
     have i1 := HX1.out.iMB
     have := (HS.out : E' ≤ w.heap.size)
     simp at e
     omega
   rw [hMB] at f4 hrun hm2 hg2
   have e9 := HE.out
   rw [if_neg h1, if_neg h2] at e9
   rw [← e9] at hfin
   have HFIN : Hid (StepOK T E E' a c G P M F w w2) := hfin
   clear hfin e9 hMB hm2 hg2 HX2 HV2 r4 h1 h2
   go_enter Tryz.func77, Tryz.ntmps77
   go_wp2
   clear hW1
   refine wp_region_held_drew (S := (fun v => v.cell? ⟨FR, 4, none⟩ = some (.map (some MB)) ∧ v.cell? ⟨w.heap.size, 0, none⟩ = some (.slice q L cap))) (by kernel_rfl) ?_ (fun hHeld => ?_)
   ·((try dsimp only); go_keep)
   refine wpAnyH_take (i := 0) (v := ?_) (by simp only [List.getElem?_toArray, List.getElem?_cons_succ, List.getElem?_cons_zero]; rfl) (by kernel_rfl) (by kernel_rfl) (by kernel_rfl) (by exact fun _ _ _ h => h) (Or.inl ⟨by rfl, ?_⟩) (by assumption) ?_
   rotate_left 1
   ·(intro wS hSw; (try dsimp only at hSw); go_simp; try (with_reducible rfl))
   try simp only [Act.put, List.setIfInBounds_toArray, List.set_cons_zero, List.set_cons_succ]
   refine wpAnyH_take (i := 1) (v := ?_) (by simp only [List.getElem?_toArray, List.getElem?_cons_succ, List.getElem?_cons_zero]; rfl) (by kernel_rfl) (by kernel_rfl) (by kernel_rfl) (by exact fun _ _ _ h => h) (Or.inl ⟨by rfl, ?_⟩) (by assumption) ?_
   rotate_left 1
   ·(intro wS hSw; (try dsimp only at hSw); go_simp; try (with_reducible rfl))
   try simp only [Act.put, List.setIfInBounds_toArray, List.set_cons_zero, List.set_cons_succ]
   refine wpAnyH_take (i := 2) (v := ?_) (by simp only [List.getElem?_toArray, List.getElem?_cons_succ, List.getElem?_cons_zero]; rfl) (by kernel_rfl) (by kernel_rfl) (by kernel_rfl) (by exact fun _ _ _ h => h) (Or.inl ⟨by rfl, ?_⟩) (by assumption) ?_
   rotate_left 1
   ·(intro wS hSw; (try dsimp only at hSw); go_simp; try (with_reducible rfl))
   try simp only [Act.put, List.setIfInBounds_toArray, List.set_cons_zero, List.set_cons_succ]
   refine wpAnyH_take (i := 3) (v := ?_) (by simp only [List.getElem?_toArray, List.getElem?_cons_succ, List.getElem?_cons_zero]; rfl) (by kernel_rfl) (by kernel_rfl) (by kernel_rfl) (by exact fun _ _ _ h => h) (Or.inl ⟨by rfl, ?_⟩) (by assumption) ?_
   rotate_left 1
   ·(intro wS hSw; (try dsimp only at hSw); go_simp; try (with_reducible rfl))
   try simp only [Act.put, List.setIfInBounds_toArray, List.set_cons_zero, List.set_cons_succ]
   refine wpAnyH_take (i := 4) (v := ?_) (by simp only [List.getElem?_toArray, List.getElem?_cons_succ, List.getElem?_cons_zero]; rfl) (by kernel_rfl) (by kernel_rfl) (by kernel_rfl) (by exact fun _ _ _ h => h) (Or.inl ⟨by rfl, ?_⟩) (by assumption) ?_
   rotate_left 1
   ·(intro wS hSw; (try dsimp only at hSw); go_simp; try (with_reducible rfl))
   try simp only [Act.put, List.setIfInBounds_toArray, List.set_cons_zero, List.set_cons_succ]
   refine wpAnyH_take (i := 5) (v := ?_) (by simp only [List.getElem?_toArray, List.getElem?_cons_succ, List.getElem?_cons_zero]; rfl) (by kernel_rfl) (by kernel_rfl) (by kernel_rfl) (by exact fun _ _ _ h => h) (Or.inl ⟨by rfl, ?_⟩) (by assumption) ?_
   rotate_left 1
   ·(intro wS hSw; (try dsimp only at hSw); go_simp; try (with_reducible rfl))
   try simp only [Act.put, List.setIfInBounds_toArray, List.set_cons_zero, List.set_cons_succ]
   refine wpAnyH_take (i := 6) (v := ?_) (by simp only [List.getElem?_toArray, List.getElem?_cons_succ, List.getElem?_cons_zero]; rfl) (by kernel_rfl) (by kernel_rfl) (by kernel_rfl) (by exact fun _ _ _ h => h) (Or.inl ⟨by rfl, ?_⟩) (by assumption) ?_
   rotate_left 1
   ·(intro wS hSw; (try dsimp only at hSw); go_simp; try (with_reducible rfl))
   try simp only [Act.put, List.setIfInBounds_toArray, List.set_cons_zero, List.set_cons_succ]
   clear hHeld
   refine wpAnyH_ready (rs := [7]) (by kernel_rfl) (by simp) ?_
   refine AllReadyH.cons (i := 7) (by simp only [List.getElem?_toArray, List.getElem?_cons_succ, List.getElem?_cons_zero]; rfl) (fun K hK => ?_) AllReadyH.nil
   go_simp
   refine hK.out _ _ ?_ (fun hHeld => ?_)
   ·((try dsimp only); go_keep)
   clear hK K
   try simp only [Act.put, List.setIfInBounds_toArray, List.set_cons_zero, List.set_cons_succ]
   refine wpAnyH_done (by kernel_rfl) ?_ _
   go_wp2
   go_end0
   exact ⟨rfl, HFIN.out⟩
end Go.Proofs.YtholhpmnicibgaaGreat
namespace Go.Proofs.YtholhpmnicibgaaGreat
open Go.RowKit
set_option linter.unusedVariables false
set_option linter.unusedSimpArgs false
set_option maxRecDepth 100000 in
set_option maxHeartbeats 400000 in
theorem over_any (a b : Int) (ha : 0 ≤ a ∧ a ≤ 2147483647) (hb : 0 ≤ b ∧ b ≤ 2147483647) (w : World) : Calls Tryz.prog 119 #[.int .i64 a, .int .i64 b] w fun e w' => e = .returned (.int .i64 (if b = 0 then 0 else a / b)) ∧ w' = w := by
 by_cases h : b = 0
 ·subst h
  go_enter Tryz.func119, Tryz.ntmps119
  go_wp2
  go_ret
  exact ⟨rfl, rfl⟩
 ·have h2 : (b == 0) = false := by simpa using h
  rw [if_neg h]
  have hq : a.tdiv b = a / b := Int.tdiv_eq_ediv_of_nonneg ha.1
  have hr : 0 ≤ a / b := Int.ediv_nonneg ha.1 hb.1
  have hr2 : a / b ≤ a := Int.ediv_le_self _ ha.1
  have hw : IntKind.i64.wrap (a.tdiv b) = a / b := by rw [hq, IntKind.wrap_i64]; omega
  go_enter Tryz.func119, Tryz.ntmps119
  go_wp2
  go_ret
  exact ⟨by first | rfl | (rw [hw]) | (simp only [hw]) | (simp [hw]), rfl⟩
end Go.Proofs.YtholhpmnicibgaaGreat
