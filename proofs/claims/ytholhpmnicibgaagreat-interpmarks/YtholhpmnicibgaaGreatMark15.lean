import Derived.Test.YtholhpmnicibgaaGreatMark1
import Derived.Test.YtholhpmnicibgaaGreatMark14
import Derived.Test.YtholhpmnicibgaaGreatMark13
/- Package interp: a register set. -/
namespace Go.Proofs.YtholhpmnicibgaaGreat
open Go.RowKit
set_option linter.unusedVariables false
set_option linter.unusedSimpArgs false

/-- What a step writes to. -/
def stepU (a : Lay) (E E' : Nat) : Nat → Prop := fun b => b = a.S ∨ (E ≤ b ∧ b < E')
theorem stepU_in {a : Lay} {E E' B : Nat} (h : E ≤ B ∧ B < E') : ∀ b, b = B → stepU a E E' b := fun b e => .inr (e ▸ h)
theorem bel_drew (w : World) : Below w.heap.size w w.drew := (Below.refl _ _).drew
/-- The step has come to f. -/
def StepOK (T : Nat → Prop) (E E' : Nat) (a : Lay) (c : Cd) (G P : List (List Int)) (M : Nat) (f : Fr) (w w' : World) : Prop :=
  FX T E E' a c G P w' ∧ (∃ X M' m, M' ≤ M + 1 ∧ FV T E E' a c w' X M' m f) ∧ Un (stepU a E E') w w'
section
variable {T : Nat → Prop} {E E' : Nat} {a : Lay} {c : Cd} {G P : List (List Int)} {X : Nat → Value} {M : Nat} {m : Nat → Option Value} {f : Fr} {w w1 w2 : World}
theorem StepOK.on (h : StepOK T E E' a c G P M f w w1) (k : Below w1.heap.size w1 w2) : StepOK T E E' a c G P M f w w2 := by
  obtain ⟨h1, ⟨X, M', m, h2, h3⟩, h4⟩ := h
  exact ⟨h1.below k, ⟨X, M', m, h2, h3.below k⟩, h4.on k⟩
theorem StepOK.same (x : FX T E E' a c G P w) (h : FV T E E' a c w X M m f) (k : Below w.heap.size w w1) : StepOK T E E' a c G P M f w w1 :=
  ⟨x.below k, ⟨X, M, m, by omega, h.below k⟩, Un.of k⟩
theorem StepOK.pre (k : Below w.heap.size w w1) (h : StepOK T E E' a c G P M f w1 w2) : StepOK T E E' a c G P M f w w2 := by
  obtain ⟨h1, h2, h4⟩ := h
  exact ⟨h1, h2, (Un.of k).trans h4⟩
theorem StepOK.num (x : FX T E E' a c G P w1) (h : FV T E E' a c w1 X M m f) {d : Nat} (hd : d < c.regs.length) (y : Int) : StepOK T E E' a c G P M { f with nums := putN f.nums d y } w1 (w1.setCell ⟨a.NB, d, none⟩ (.int .u32 y)) := by
  obtain ⟨h1, h2, h3⟩ := FV.num x h hd y rfl
  exact ⟨h1, ⟨X, M, m, by omega, h2⟩, h3.mono (stepU_in x.iNB)⟩
theorem StepOK.wh (x : FX T E E' a c G P w1) (h : FV T E E' a c w1 X M m f) {d : Nat} (hd : d < c.regs.length) (y : Int) : StepOK T E E' a c G P M { f with whs := putN f.whs d y } w1 (w1.setCell ⟨a.WB, d, none⟩ (.int .i64 y)) := by
  obtain ⟨h1, h2, h3⟩ := FV.wh x h hd y rfl
  exact ⟨h1, ⟨X, M, m, by omega, h2⟩, h3.mono (stepU_in x.iWB)⟩
theorem StepOK.vec (x : FX T E E' a c G P w1) (h : FV T E E' a c w1 X M m f) {d : Nat} (hd : d < c.regs.length) {v : Value} {l : List Int} (hv : Pt (mutT T E E') w1 v l) (hm : MapI w2 a.MB (M + 1) (updI m d v)) (hg : w1.grownBy w2 (some a.MB)) : StepOK T E E' a c G P M { f with vecs := putN f.vecs d l } w1 w2 := by
  obtain ⟨h1, h2, h3⟩ := FV.vec x h hd hv hm hg
  exact ⟨h1, ⟨X, M + 1, _, by omega, h2⟩, h3.mono (stepU_in x.iMB)⟩
theorem StepOK.slot (x : FX T E E' a c G P w1) (h : FV T E E' a c w1 X M m f) {d : Nat} (hd : d < f.slots.length) {v : Value} {hh : Hd} (hv : Pt (mutT T E E') w1 v hh.pats) : StepOK T E E' a c G P M { f with slots := f.slots.set d hh } w1 ((w1.setCell ⟨a.S, d * 2, none⟩ v).setCell ⟨a.S, d * 2 + 1, none⟩ (.int .i64 hh.whole)) := by
  obtain ⟨h1, ⟨X', h2⟩, h3⟩ := FV.slot x h hd hv rfl
  exact ⟨h1, ⟨X', M, _, by omega, h2⟩, h3.mono fun b e => .inl e⟩
end
theorem first_cell {T : Nat → Prop} {w : World} {q : Option Addr} {L cap : Nat} {y : Int} {l : List Int} (h : Pt T w (.slice q L cap) (y :: l)) : ∃ vb vo, q = some ⟨vb, vo, none⟩ ∧ ¬ T vb ∧ w.cell? ⟨vb, vo, none⟩ = some (.int .u32 y) ∧ 0 < L := by
  obtain ⟨q', c', e, hl⟩ := h
  simp only [Value.slice.injEq] at e
  obtain ⟨rfl, hL, rfl⟩ := e
  rcases hl with hl | ⟨vb, vo, rfl, hn, _, hl⟩
  · cases hl
  · refine ⟨vb, vo, rfl, hn, ?_, by rw [hL]; simp⟩
    have := (hl 0 (by simp)).at 0 (v := .int .u32 y) rfl
    simpa using this

set_option maxRecDepth 100000 in
set_option maxHeartbeats 2000000 in
theorem set_any {T : Nat → Prop} {E E' : Nat} {a : Lay} {c : Cd} {G P : List (List Int)} {X : Nat → Value} {M : Nat} {m : Nat → Option Value} {f : Fr} (w : World) (x : FX T E E' a c G P w) (h : FV T E E' a c w X M m f) (hg : Good c) (r : Nat) (hr : r < c.regs.length) (hM : M ≤ 1000000)
    (q : Option Addr) (L cap : Nat) (hh : Hd) (hv : Pt (mutT T E E') w (.slice q L cap) hh.pats) (h1 : c.regs[r].kind = 1 → hh.pats ≠ []) :
    Calls Tryz.prog 77 #[.pointer (some ⟨a.FR, 0, none⟩), .int .i64 r, .agg #[.slice q L cap, .int .i64 hh.whole]] w fun e w' => e = .returned (.tuple #[]) ∧ StepOK T E E' a c G P M (stP c f r hh) w w' := by
  obtain ⟨W1, hW1⟩ : ∃ W1, w.alloc (.cells #[.slice q L cap, .int .i64 hh.whole] 80) = W1 := ⟨_, rfl⟩
  have hb1 : Below w.heap.size w W1 := by rw [← hW1]; exact bel_alloc _ _
  have HX1 : Hid (FX T E E' a c G P W1) := x.below hb1
  have HV1 : Hid (FV T E E' a c W1 X M m f) := h.below hb1
  have HP1 : Hid (Pt (mutT T E E') W1 (.slice q L cap) hh.pats) := hv.below hb1
  have HS : Hid (E' ≤ w.heap.size) := x.hE'
  have z0 : W1.cell? ⟨w.heap.size, 0, none⟩ = some (.slice q L cap) := by rw [← hW1]; simp [go_sem]
  have z1 : W1.cell? ⟨w.heap.size, 1, none⟩ = some (.int .i64 hh.whole) := by rw [← hW1]; simp [go_sem]
  have HB1 : Hid (Below w.heap.size w W1) := hb1
  have f0 := HX1.out.f0
  have c1 := HX1.out.code.c1
  obtain ⟨b, o, mm, hv1, k0, -⟩ := HX1.out.code.reg hr
  rw [hv1] at c1
  have hN := hg.regsL
  have HE : Hid (stP c f r hh = if c.regs[r].kind = 1 then { f with nums := putN f.nums r (hh.pats.headD 0) } else if c.regs[r].kind = 2 then { f with whs := putN f.whs r hh.whole } else { f with vecs := putN f.vecs r hh.pats }) := by
    show stP c f r hh = _
    unfold stP
    rw [iregT_at hr, Int.toNat_natCast]
  obtain ⟨F, hF⟩ : ∃ F, stP c f r hh = F := ⟨_, rfl⟩
  rw [hF] at HE ⊢
  have H1 : Hid (c.regs[r].kind = 1 → hh.pats ≠ []) := h1
  obtain ⟨K, hK⟩ : ∃ K, c.regs[r].kind = K := ⟨_, rfl⟩
  obtain ⟨N, hN'⟩ : ∃ N, c.regs.length = N := ⟨_, rfl⟩
  rw [hK] at k0 H1 HE
  rw [hN'] at c1 hN
  have hrN : r < N := by omega
  have HR : Hid (r < c.regs.length) := hr
  obtain ⟨C, hC⟩ : ∃ C, a.C = C := ⟨_, rfl⟩
  obtain ⟨FR, hFR⟩ : ∃ FR, a.FR = FR := ⟨_, rfl⟩
  rw [hC] at c1 f0
  rw [hFR] at f0 ⊢
  have HA : Hid (a.FR = FR) := hFR
  have HN : Hid (c.regs.length = N) := hN'
  clear hK hN' hv1 hg h x hv h1 hr hb1 hC hFR hF
  by_cases h1 : K = 1
  · subst h1
    have f2 := HX1.out.f2
    rw [HN.out, HA.out] at f2
    have q0 := HV1.out.nums.frozen r
    have q1 := HV1.out.nums.cell HR.out
    obtain ⟨NB, hNB⟩ : ∃ NB, a.NB = NB := ⟨_, rfl⟩
    rw [hNB] at f2 q0 q1
    have HNB : Hid (a.NB = NB) := hNB
    obtain ⟨y, l, hy⟩ : ∃ y l, hh.pats = y :: l := by
      cases e : hh.pats with
      | nil => exact absurd e (H1.out rfl)
      | cons y l => exact ⟨y, l, rfl⟩
    have HY : Hid (hh.pats = y :: l) := hy
    have hl := HP1.out
    rw [hy] at hl
    obtain ⟨vb, vo, rfl, hnv, y0, hL1⟩ := first_cell hl
    have n1 : FR ≠ NB := by rw [← HA.out, ← HNB.out]; exact HX1.out.d1.1
    have n2 : w.heap.size ≠ NB := by
      have i1 := HX1.out.iNB
      rw [HNB.out] at i1
      have := (HS.out : E' ≤ w.heap.size)
      omega
    have n3 : vb ≠ NB := fun e => hnv (by rw [e, ← HNB.out]; exact .inr HX1.out.iNB)
    have n1' := Ne.symm n1
    have n2' := Ne.symm n2
    have n3' := Ne.symm n3
    have e1 : (0 : Int) < (L : Int) := by omega
    clear hl hy hNB hnv
    go_enter Tryz.func77, Tryz.ntmps77
    go_wp2
    clear hW1
    refine wp_region_held_drew (S := (fun v => v.cell? ⟨FR, 2, none⟩ = some (.slice (some ⟨NB, 0, none⟩) N N) ∧ v.cell? ⟨w.heap.size, 0, none⟩ = some (.slice (some ⟨vb, vo, none⟩) L cap) ∧ v.cell? ⟨vb, vo, none⟩ = some (.int .u32 y))) (by kernel_rfl) ?_ (fun hHeld => ?_)
    · ((try dsimp only); go_keep)
    refine tkH (i := 0) (v := ?_) (hy := .inl ⟨by rfl, ?_⟩) (h := ?_)
    rotate_left 1
    · (intro wS hSw; (try dsimp only at hSw); go_simp; try (with_reducible rfl))
    try simp only [Act.put, List.setIfInBounds_toArray, List.set_cons_zero, List.set_cons_succ]
    refine tkH (i := 1) (v := ?_) (hy := .inl ⟨by rfl, ?_⟩) (h := ?_)
    rotate_left 1
    · (intro wS hSw; (try dsimp only at hSw); go_simp; try (with_reducible rfl))
    try simp only [Act.put, List.setIfInBounds_toArray, List.set_cons_zero, List.set_cons_succ]
    refine tkH (i := 2) (v := ?_) (hy := .inl ⟨by rfl, ?_⟩) (h := ?_)
    rotate_left 1
    · (intro wS hSw; (try dsimp only at hSw); go_simp; try (with_reducible rfl))
    try simp only [Act.put, List.setIfInBounds_toArray, List.set_cons_zero, List.set_cons_succ]
    refine tkH (i := 3) (v := ?_) (hy := .inl ⟨by rfl, ?_⟩) (h := ?_)
    rotate_left 1
    · (intro wS hSw; (try dsimp only at hSw); go_simp; try (with_reducible rfl))
    try simp only [Act.put, List.setIfInBounds_toArray, List.set_cons_zero, List.set_cons_succ]
    refine tkH (i := 4) (v := ?_) (hy := .inl ⟨by rfl, ?_⟩) (h := ?_)
    rotate_left 1
    · (intro wS hSw; (try dsimp only at hSw); go_simp; try (with_reducible rfl))
    try simp only [Act.put, List.setIfInBounds_toArray, List.set_cons_zero, List.set_cons_succ]
    refine tkH (i := 5) (v := ?_) (hy := .inl ⟨by rfl, ?_⟩) (h := ?_)
    rotate_left 1
    · (intro wS hSw; (try dsimp only at hSw); go_simp; try (with_reducible rfl))
    try simp only [Act.put, List.setIfInBounds_toArray, List.set_cons_zero, List.set_cons_succ]
    refine tkH (i := 6) (v := ?_) (hy := .inl ⟨by rfl, ?_⟩) (h := ?_)
    rotate_left 1
    · (intro wS hSw; (try dsimp only at hSw); go_simp; try (with_reducible rfl))
    try simp only [Act.put, List.setIfInBounds_toArray, List.set_cons_zero, List.set_cons_succ]
    refine tkH (i := 7) (v := ?_) (hy := .inl ⟨by rfl, ?_⟩) (h := ?_)
    rotate_left 1
    · (intro wS hSw; (try dsimp only at hSw); go_simp; try (with_reducible rfl))
    try simp only [Act.put, List.setIfInBounds_toArray, List.set_cons_zero, List.set_cons_succ]
    refine tkH (i := 8) (v := ?_) (hy := .inl ⟨by rfl, ?_⟩) (h := ?_)
    rotate_left 1
    · (intro wS hSw; (try dsimp only at hSw); go_simp; try (with_reducible rfl))
    try simp only [Act.put, List.setIfInBounds_toArray, List.set_cons_zero, List.set_cons_succ]
    refine tkH (i := 9) (v := ?_) (hy := .inl ⟨by rfl, ?_⟩) (h := ?_)
    rotate_left 1
    · (intro wS hSw; (try dsimp only at hSw); go_simp; try (with_reducible rfl))
    try simp only [Act.put, List.setIfInBounds_toArray, List.set_cons_zero, List.set_cons_succ]
    clear hHeld
    refine wpAnyH_ready (rs := [10]) (by kernel_rfl) (by simp) ?_
    refine AllReadyH.cons (i := 10) (by simp only [List.getElem?_toArray, List.getElem?_cons_succ, List.getElem?_cons_zero]; rfl) (fun K hK => ?_) AllReadyH.nil
    go_simp
    refine hK.out _ _ ?_ (fun hHeld => ?_)
    · ((try dsimp only); go_keep)
    clear hK K
    try simp only [Act.put, List.setIfInBounds_toArray, List.set_cons_zero, List.set_cons_succ]
    refine wpAnyH_done (by kernel_rfl) ?_ _
    go_wp2
    go_end0
    have hfin := (StepOK.num HX1.out HV1.out HR.out y).pre HB1.out
    rw [HNB.out] at hfin
    have e9 := HE.out
    simp only [if_true] at e9
    rw [HY.out] at e9
    rw [e9]
    exact ⟨rfl, hfin.on (bel_drew _)⟩
  · have e1 : (K == 1) = false := by simpa using h1
    by_cases h2 : K = 2
    · subst h2
      have f3 := HX1.out.f3
      rw [HN.out, HA.out] at f3
      have q0 := HV1.out.whs.frozen r
      have q1 := HV1.out.whs.cell HR.out
      obtain ⟨WB, hWB⟩ : ∃ WB, a.WB = WB := ⟨_, rfl⟩
      rw [hWB] at f3 q0 q1
      have HWB : Hid (a.WB = WB) := hWB
      have n1 : WB ≠ FR := by rw [← HA.out, ← HWB.out]; exact Ne.symm HX1.out.d1.2.1
      have n2 : WB ≠ w.heap.size := by
        have i1 := HX1.out.iWB
        rw [HWB.out] at i1
        have := (HS.out : E' ≤ w.heap.size)
        omega
      clear hWB h1
      obtain ⟨hw, hhw⟩ : ∃ hw, hh.whole = hw := ⟨_, rfl⟩
      have HHW : Hid (hh.whole = hw) := hhw
      rw [hhw] at z1 hW1 ⊢
      clear hhw
      go_enter Tryz.func77, Tryz.ntmps77
      go_wp2
      clear hW1
      refine wp_region_held_drew (S := (fun v => v.cell? ⟨FR, 3, none⟩ = some (.slice (some ⟨WB, 0, none⟩) N N) ∧ v.cell? ⟨w.heap.size, 1, none⟩ = some (.int .i64 hw))) (by kernel_rfl) ?_ (fun hHeld => ?_)
      · ((try dsimp only); go_keep)
      refine tkH (i := 0) (v := ?_) (hy := .inl ⟨by rfl, ?_⟩) (h := ?_)
      rotate_left 1
      · (intro wS hSw; (try dsimp only at hSw); go_simp; try (with_reducible rfl))
      try simp only [Act.put, List.setIfInBounds_toArray, List.set_cons_zero, List.set_cons_succ]
      refine tkH (i := 1) (v := ?_) (hy := .inl ⟨by rfl, ?_⟩) (h := ?_)
      rotate_left 1
      · (intro wS hSw; (try dsimp only at hSw); go_simp; try (with_reducible rfl))
      try simp only [Act.put, List.setIfInBounds_toArray, List.set_cons_zero, List.set_cons_succ]
      refine tkH (i := 2) (v := ?_) (hy := .inl ⟨by rfl, ?_⟩) (h := ?_)
      rotate_left 1
      · (intro wS hSw; (try dsimp only at hSw); go_simp; try (with_reducible rfl))
      try simp only [Act.put, List.setIfInBounds_toArray, List.set_cons_zero, List.set_cons_succ]
      refine tkH (i := 3) (v := ?_) (hy := .inl ⟨by rfl, ?_⟩) (h := ?_)
      rotate_left 1
      · (intro wS hSw; (try dsimp only at hSw); go_simp; try (with_reducible rfl))
      try simp only [Act.put, List.setIfInBounds_toArray, List.set_cons_zero, List.set_cons_succ]
      refine tkH (i := 4) (v := ?_) (hy := .inl ⟨by rfl, ?_⟩) (h := ?_)
      rotate_left 1
      · (intro wS hSw; (try dsimp only at hSw); go_simp; try (with_reducible rfl))
      try simp only [Act.put, List.setIfInBounds_toArray, List.set_cons_zero, List.set_cons_succ]
      refine tkH (i := 5) (v := ?_) (hy := .inl ⟨by rfl, ?_⟩) (h := ?_)
      rotate_left 1
      · (intro wS hSw; (try dsimp only at hSw); go_simp; try (with_reducible rfl))
      try simp only [Act.put, List.setIfInBounds_toArray, List.set_cons_zero, List.set_cons_succ]
      refine tkH (i := 6) (v := ?_) (hy := .inl ⟨by rfl, ?_⟩) (h := ?_)
      rotate_left 1
      · (intro wS hSw; (try dsimp only at hSw); go_simp; try (with_reducible rfl))
      try simp only [Act.put, List.setIfInBounds_toArray, List.set_cons_zero, List.set_cons_succ]
      refine tkH (i := 7) (v := ?_) (hy := .inl ⟨by rfl, ?_⟩) (h := ?_)
      rotate_left 1
      · (intro wS hSw; (try dsimp only at hSw); go_simp; try (with_reducible rfl))
      try simp only [Act.put, List.setIfInBounds_toArray, List.set_cons_zero, List.set_cons_succ]
      clear hHeld
      refine wpAnyH_ready (rs := [8]) (by kernel_rfl) (by simp) ?_
      refine AllReadyH.cons (i := 8) (by simp only [List.getElem?_toArray, List.getElem?_cons_succ, List.getElem?_cons_zero]; rfl) (fun K hK => ?_) AllReadyH.nil
      go_simp
      refine hK.out _ _ ?_ (fun hHeld => ?_)
      · ((try dsimp only); go_keep)
      clear hK K
      try simp only [Act.put, List.setIfInBounds_toArray, List.set_cons_zero, List.set_cons_succ]
      refine wpAnyH_done (by kernel_rfl) ?_ _
      go_wp2
      go_end0
      have hfin := (StepOK.wh HX1.out HV1.out HR.out hw).pre HB1.out
      rw [HWB.out] at hfin
      have e9 := HE.out
      rw [if_neg (by decide)] at e9
      simp only [if_true] at e9
      rw [HHW.out] at e9
      rw [e9]
      exact ⟨rfl, hfin.on (bel_drew _)⟩
    · have e2 : (K == 2) = false := by simpa using h2
      have f4 := HX1.out.f4
      rw [HA.out] at f4
      have HX2 := HX1.out.below (bel_drew _)
      have HV2 := HV1.out.below (bel_drew _)
      obtain ⟨w2, hrun, hm2, hg2⟩ := HV2.map.put (by unfold maxLen; omega) Tryz.underlying93 (k := r) (by omega) (.slice q L cap)
      obtain ⟨MB, hMB⟩ : ∃ MB, a.MB = MB := ⟨_, rfl⟩
      have hfin := (StepOK.vec HX2 HV2 HR.out (HP1.out.below (bel_drew _)) hm2 hg2).pre (bel HB1.out (bel_drew _))
      have r4 := HX2.f4
      have r0 : w2.cell? ⟨FR, 4, none⟩ = some (.map (some MB)) := by
        have := hfin.1.f4
        rw [HA.out, hMB] at this
        exact this
      have r1 : w2.cell? ⟨w.heap.size, 0, none⟩ = some (.slice q L cap) := by
        refine (World.cell?_of_block (hg2.block _ ?_ ?_)).trans z0
        · have := mcell_lt z0; exact this
        · intro e
          have i1 := HX1.out.iMB
          have := (HS.out : E' ≤ w.heap.size)
          simp at e
          omega
      rw [hMB] at f4 hrun hm2 hg2
      have e9 := HE.out
      rw [if_neg h1, if_neg h2] at e9
      rw [← e9] at hfin
      have HFIN : Hid (StepOK T E E' a c G P M F w w2) := hfin
      clear hfin e9 hMB hm2 hg2 HX2 HV2 r4 h1 h2
      go_enter Tryz.func77, Tryz.ntmps77
      go_wp2
      clear hW1
      refine wp_region_held_drew (S := (fun v => v.cell? ⟨FR, 4, none⟩ = some (.map (some MB)) ∧ v.cell? ⟨w.heap.size, 0, none⟩ = some (.slice q L cap))) (by kernel_rfl) ?_ (fun hHeld => ?_)
      · ((try dsimp only); go_keep)
      refine tkH (i := 0) (v := ?_) (hy := .inl ⟨by rfl, ?_⟩) (h := ?_)
      rotate_left 1
      · (intro wS hSw; (try dsimp only at hSw); go_simp; try (with_reducible rfl))
      try simp only [Act.put, List.setIfInBounds_toArray, List.set_cons_zero, List.set_cons_succ]
      refine tkH (i := 1) (v := ?_) (hy := .inl ⟨by rfl, ?_⟩) (h := ?_)
      rotate_left 1
      · (intro wS hSw; (try dsimp only at hSw); go_simp; try (with_reducible rfl))
      try simp only [Act.put, List.setIfInBounds_toArray, List.set_cons_zero, List.set_cons_succ]
      refine tkH (i := 2) (v := ?_) (hy := .inl ⟨by rfl, ?_⟩) (h := ?_)
      rotate_left 1
      · (intro wS hSw; (try dsimp only at hSw); go_simp; try (with_reducible rfl))
      try simp only [Act.put, List.setIfInBounds_toArray, List.set_cons_zero, List.set_cons_succ]
      refine tkH (i := 3) (v := ?_) (hy := .inl ⟨by rfl, ?_⟩) (h := ?_)
      rotate_left 1
      · (intro wS hSw; (try dsimp only at hSw); go_simp; try (with_reducible rfl))
      try simp only [Act.put, List.setIfInBounds_toArray, List.set_cons_zero, List.set_cons_succ]
      refine tkH (i := 4) (v := ?_) (hy := .inl ⟨by rfl, ?_⟩) (h := ?_)
      rotate_left 1
      · (intro wS hSw; (try dsimp only at hSw); go_simp; try (with_reducible rfl))
      try simp only [Act.put, List.setIfInBounds_toArray, List.set_cons_zero, List.set_cons_succ]
      refine tkH (i := 5) (v := ?_) (hy := .inl ⟨by rfl, ?_⟩) (h := ?_)
      rotate_left 1
      · (intro wS hSw; (try dsimp only at hSw); go_simp; try (with_reducible rfl))
      try simp only [Act.put, List.setIfInBounds_toArray, List.set_cons_zero, List.set_cons_succ]
      refine tkH (i := 6) (v := ?_) (hy := .inl ⟨by rfl, ?_⟩) (h := ?_)
      rotate_left 1
      · (intro wS hSw; (try dsimp only at hSw); go_simp; try (with_reducible rfl))
      try simp only [Act.put, List.setIfInBounds_toArray, List.set_cons_zero, List.set_cons_succ]
      clear hHeld
      refine wpAnyH_ready (rs := [7]) (by kernel_rfl) (by simp) ?_
      refine AllReadyH.cons (i := 7) (by simp only [List.getElem?_toArray, List.getElem?_cons_succ, List.getElem?_cons_zero]; rfl) (fun K hK => ?_) AllReadyH.nil
      go_simp
      refine hK.out _ _ ?_ (fun hHeld => ?_)
      · ((try dsimp only); go_keep)
      clear hK K
      try simp only [Act.put, List.setIfInBounds_toArray, List.set_cons_zero, List.set_cons_succ]
      refine wpAnyH_done (by kernel_rfl) ?_ _
      go_wp2
      go_end0
      exact ⟨rfl, HFIN.out⟩

end Go.Proofs.YtholhpmnicibgaaGreat
/- Package interp: widths, what is filled, small helpers. -/
namespace Go.Proofs.YtholhpmnicibgaaGreat
open Go.RowKit
set_option linter.unusedVariables false
set_option linter.unusedSimpArgs false

set_option maxRecDepth 100000 in
set_option maxHeartbeats 400000 in
theorem over_any (a b : Int) (ha : 0 ≤ a ∧ a ≤ 2147483647) (hb : 0 ≤ b ∧ b ≤ 2147483647) (w : World) : Calls Tryz.prog 119 #[.int .i64 a, .int .i64 b] w fun e w' => e = .returned (.int .i64 (if b = 0 then 0 else a / b)) ∧ w' = w := by
  by_cases h : b = 0
  · subst h
    go_enter Tryz.func119, Tryz.ntmps119
    go_wp2
    go_ret
    exact ⟨rfl, rfl⟩
  · have h2 : (b == 0) = false := by simpa using h
    rw [if_neg h]
    have hq : a.tdiv b = a / b := Int.tdiv_eq_ediv_of_nonneg ha.1
    have hr : 0 ≤ a / b := Int.ediv_nonneg ha.1 hb.1
    have hr2 : a / b ≤ a := Int.ediv_le_self _ ha.1
    have hw : IntKind.i64.wrap (a.tdiv b) = a / b := by rw [hq, IntKind.wrap_i64]; omega
    go_enter Tryz.func119, Tryz.ntmps119
    go_wp2
    go_ret
    exact ⟨by first | rfl | (rw [hw]) | (simp only [hw]) | (simp [hw]), rfl⟩

end Go.Proofs.YtholhpmnicibgaaGreat
/- Package interp: numbers and whole numbers. -/
namespace Go.Proofs.YtholhpmnicibgaaGreat
open Go.RowKit
set_option linter.unusedVariables false
set_option linter.unusedSimpArgs false

def HdOK (c : Cd) (t : Ty) (h : Hd) : Prop := h.pats.length = widthP c t ∧ (∀ y ∈ h.pats, IsP y) ∧ 0 ≤ h.whole ∧ h.whole ≤ 2147483647
/-- What holds of a step's numbers. -/
structure OkF (c : Cd) (f : Fr) : Prop where
  nums : ∀ r, IsP (f.nums r)
  whs : ∀ r, 0 ≤ f.whs r ∧ f.whs r ≤ 2147483647
  vecs : ∀ r, ∀ y ∈ f.vecs r, IsP y
  vecsL : ∀ r, (f.vecs r).length ≤ 4096
  slotsL : f.slots.length = c.slots.length
  slots : ∀ j (h : j < c.slots.length) (h' : j < f.slots.length), HdOK c c.slots[j].ty f.slots[j]
theorem isP_atL {l : List Int} (h : ∀ y ∈ l, IsP y) (j : Nat) : IsP (atL l j) := by
  unfold atL
  cases e : l[j]? with
  | none => exact isP_0
  | some y => exact h y (List.mem_of_getElem? e)
theorem FV.look {T : Nat → Prop} {E E' : Nat} {a : Lay} {c : Cd} {w : World} {X : Nat → Value} {M : Nat} {m : Nat → Option Value} {f : Fr} (h : FV T E E' a c w X M m f) {r : Nat} (hr : r < c.regs.length) (hn : c.regs.length ≤ 16384) :
    ∃ q1 q2, (m r).getD (.slice none 0 0) = .slice q1 (f.vecs r).length q2 ∧ Reads w q1 (f.vecs r).length (fun j => .int .u32 (atL (f.vecs r) j)) ∧ ∀ v, Below w.heap.size w v → (Instr.lookup 93 (.map (some a.MB)) (.int .i64 (r : Int)) false).run Tryz.prog v = .ok (.slice q1 (f.vecs r).length q2) v := by
  have hp := h.vecs r hr
  obtain ⟨q1, q2, hq⟩ := hp.len
  refine ⟨q1, q2, hq, ?_, fun v hv => ?_⟩
  · rw [hq] at hp
    exact hp.reads.2
  · rw [← hq]
    exact (h.map.below hv).look1 Tryz.underlying93 (Tryz.zeroValue57 v) (by omega)

set_option maxRecDepth 100000 in
set_option maxHeartbeats 2000000 in
theorem number_any {T : Nat → Prop} {E E' : Nat} {a : Lay} {c : Cd} {G P : List (List Int)} {X : Nat → Value} {M : Nat} {m : Nat → Option Value} {f : Fr} (w : World) (x : FX T E E' a c G P w) (h : FV T E E' a c w X M m f) (hg : Good c) (ok : OkF c f) (ib io : Nat) (i : Ins) (hi : CellsAt w ib io (inC i))
    (hop : isNum i.op = true) (ha : i.op ≠ 1 → 0 ≤ i.a ∧ i.a < (c.regs.length : Int)) (hb : i.op = 16 → 0 ≤ i.b ∧ i.b < (c.regs.length : Int)) :
    Calls Tryz.prog 73 #[.pointer (some ⟨a.FR, 0, none⟩), .pointer (some ⟨ib, io, none⟩)] w fun e w' => e = .returned (.int .u32 (numI f i)) ∧ Below w.heap.size w w' := by
  have i0 := hi.at 0 rfl
  rw [Nat.add_zero] at i0
  have i2 := hi.at 2 rfl
  have i3 := hi.at 3 rfl
  have i6 := hi.at 6 rfl
  have f2 := x.f2
  have f3 := x.f3
  have f4 := x.f4
  have hN := hg.regsL
  obtain ⟨op, D, A, B, Ec, nn, bt⟩ := i
  simp only at i0 i2 i3 i6 hop ha hb
  unfold isNum at hop
  simp only [Bool.or_eq_true, beq_iff_eq] at hop
  have hop' : op = 1 ∨ op = 16 ∨ op = 17 ∨ op = 19 ∨ op = 20 := by omega
  clear hop hi
  obtain ⟨N, hN'⟩ : ∃ N, c.regs.length = N := ⟨_, rfl⟩
  have HN : Hid (c.regs.length = N) := hN'
  rw [hN'] at f2 f3 hN ha hb
  clear hN'
  rcases hop' with rfl | rfl | rfl | rfl | rfl
  · rw [show numI f ⟨1, D, A, B, Ec, nn, bt⟩ = bt from rfl]
    clear ha hb f2 f3 f4 x h i2 i3 hg ok
    go_enter Tryz.func73, Tryz.ntmps73
    go_wp2
    go_ret
    exact ⟨rfl, bel0 _⟩
  · obtain ⟨a0, a1⟩ := ha (by decide)
    obtain ⟨b0, b1⟩ := hb rfl
    obtain ⟨A, rfl⟩ : ∃ j : Nat, A = (j : Int) := ⟨A.toNat, by omega⟩
    obtain ⟨B, rfl⟩ : ∃ j : Nat, B = (j : Int) := ⟨B.toNat, by omega⟩
    have k1 := h.nums.cell (i := A) (by rw [HN.out]; omega)
    have k2 := h.whs.cell (i := B) (by rw [HN.out]; omega)
    have p1 := ok.nums A
    have p2 := ok.whs B
    rw [show numI f ⟨16, D, (A : Int), (B : Int), Ec, nn, bt⟩ = fpow (f.nums A) (f.whs B) from rfl]
    obtain ⟨y1, hy1⟩ : ∃ y1, f.nums A = y1 := ⟨_, rfl⟩
    obtain ⟨y2, hy2⟩ : ∃ y2, f.whs B = y2 := ⟨_, rfl⟩
    obtain ⟨FR, hFR⟩ : ∃ FR, a.FR = FR := ⟨_, rfl⟩
    obtain ⟨NB, hNB⟩ : ∃ NB, a.NB = NB := ⟨_, rfl⟩
    obtain ⟨WB, hWB⟩ : ∃ WB, a.WB = WB := ⟨_, rfl⟩
    rw [hy1] at k1 p1 ⊢
    rw [hy2] at k2 p2 ⊢
    rw [hFR] at f2 f3 ⊢
    rw [hNB] at f2 k1
    rw [hWB] at f3 k2
    have HP : Hid (IsP y1) := p1
    clear ha hb f4 x h i6 hg ok hy1 hy2 hFR hNB hWB p1
    go_enter Tryz.func73, Tryz.ntmps73
    go_wp2
    refine wp_region_held_drew (S := (fun v => v.cell? ⟨FR, 2, none⟩ = some (.slice (some ⟨NB, 0, none⟩) N N) ∧ v.cell? ⟨ib, io + 2, none⟩ = some (.int .i64 (A : Int)) ∧ v.cell? ⟨NB, A, none⟩ = some (.int .u32 y1) ∧ v.cell? ⟨FR, 3, none⟩ = some (.slice (some ⟨WB, 0, none⟩) N N) ∧ v.cell? ⟨ib, io + 3, none⟩ = some (.int .i64 (B : Int)) ∧ v.cell? ⟨WB, B, none⟩ = some (.int .i64 y2))) (by kernel_rfl) ?_ (fun hHeld => ?_)
    · ((try dsimp only); go_keep)
    refine tkH (i := 0) (v := ?_) (hy := .inl ⟨by rfl, ?_⟩) (h := ?_)
    rotate_left 1
    · (intro wS hSw; (try dsimp only at hSw); go_simp; try (with_reducible rfl))
    try simp only [Act.put, List.setIfInBounds_toArray, List.set_cons_zero, List.set_cons_succ]
    refine tkH (i := 1) (v := ?_) (hy := .inl ⟨by rfl, ?_⟩) (h := ?_)
    rotate_left 1
    · (intro wS hSw; (try dsimp only at hSw); go_simp; try (with_reducible rfl))
    try simp only [Act.put, List.setIfInBounds_toArray, List.set_cons_zero, List.set_cons_succ]
    refine tkH (i := 2) (v := ?_) (hy := .inl ⟨by rfl, ?_⟩) (h := ?_)
    rotate_left 1
    · (intro wS hSw; (try dsimp only at hSw); go_simp; try (with_reducible rfl))
    try simp only [Act.put, List.setIfInBounds_toArray, List.set_cons_zero, List.set_cons_succ]
    refine tkH (i := 3) (v := ?_) (hy := .inl ⟨by rfl, ?_⟩) (h := ?_)
    rotate_left 1
    · (intro wS hSw; (try dsimp only at hSw); go_simp; try (with_reducible rfl))
    try simp only [Act.put, List.setIfInBounds_toArray, List.set_cons_zero, List.set_cons_succ]
    refine tkH (i := 4) (v := ?_) (hy := .inl ⟨by rfl, ?_⟩) (h := ?_)
    rotate_left 1
    · (intro wS hSw; (try dsimp only at hSw); go_simp; try (with_reducible rfl))
    try simp only [Act.put, List.setIfInBounds_toArray, List.set_cons_zero, List.set_cons_succ]
    refine tkH (i := 5) (v := ?_) (hy := .inl ⟨by rfl, ?_⟩) (h := ?_)
    rotate_left 1
    · (intro wS hSw; (try dsimp only at hSw); go_simp; try (with_reducible rfl))
    try simp only [Act.put, List.setIfInBounds_toArray, List.set_cons_zero, List.set_cons_succ]
    refine tkH (i := 6) (v := ?_) (hy := .inl ⟨by rfl, ?_⟩) (h := ?_)
    rotate_left 1
    · (intro wS hSw; (try dsimp only at hSw); go_simp; try (with_reducible rfl))
    try simp only [Act.put, List.setIfInBounds_toArray, List.set_cons_zero, List.set_cons_succ]
    refine tkH (i := 7) (v := ?_) (hy := .inl ⟨by rfl, ?_⟩) (h := ?_)
    rotate_left 1
    · (intro wS hSw; (try dsimp only at hSw); go_simp; try (with_reducible rfl))
    try simp only [Act.put, List.setIfInBounds_toArray, List.set_cons_zero, List.set_cons_succ]
    refine tkH (i := 8) (v := ?_) (hy := .inl ⟨by rfl, ?_⟩) (h := ?_)
    rotate_left 1
    · (intro wS hSw; (try dsimp only at hSw); go_simp; try (with_reducible rfl))
    try simp only [Act.put, List.setIfInBounds_toArray, List.set_cons_zero, List.set_cons_succ]
    refine tkH (i := 9) (v := ?_) (hy := .inl ⟨by rfl, ?_⟩) (h := ?_)
    rotate_left 1
    · (intro wS hSw; (try dsimp only at hSw); go_simp; try (with_reducible rfl))
    try simp only [Act.put, List.setIfInBounds_toArray, List.set_cons_zero, List.set_cons_succ]
    refine tkH (i := 10) (v := ?_) (hy := .inl ⟨by rfl, ?_⟩) (h := ?_)
    rotate_left 1
    · (intro wS hSw; (try dsimp only at hSw); go_simp; try (with_reducible rfl))
    try simp only [Act.put, List.setIfInBounds_toArray, List.set_cons_zero, List.set_cons_succ]
    refine tkH (i := 11) (v := ?_) (hy := .inl ⟨by rfl, ?_⟩) (h := ?_)
    rotate_left 1
    · (intro wS hSw; (try dsimp only at hSw); go_simp; try (with_reducible rfl))
    try simp only [Act.put, List.setIfInBounds_toArray, List.set_cons_zero, List.set_cons_succ]
    refine tkH (i := 12) (v := ?_) (hy := .inl ⟨by rfl, ?_⟩) (h := ?_)
    rotate_left 1
    · (intro wS hSw; (try dsimp only at hSw); go_simp; try (with_reducible rfl))
    try simp only [Act.put, List.setIfInBounds_toArray, List.set_cons_zero, List.set_cons_succ]
    refine tkH (i := 13) (v := ?_) (hy := .inl ⟨by rfl, ?_⟩) (h := ?_)
    rotate_left 1
    · (intro wS hSw; (try dsimp only at hSw); go_simp; try (with_reducible rfl))
    try simp only [Act.put, List.setIfInBounds_toArray, List.set_cons_zero, List.set_cons_succ]
    refine tkH (i := 14) (v := ?_) (hy := .inl ⟨by rfl, ?_⟩) (h := ?_)
    rotate_left 1
    · (intro wS hSw; (try dsimp only at hSw); go_simp; try (with_reducible rfl))
    try simp only [Act.put, List.setIfInBounds_toArray, List.set_cons_zero, List.set_cons_succ]
    refine tkH (i := 15) (v := ?_) (hy := .inl ⟨by rfl, ?_⟩) (h := ?_)
    rotate_left 1
    · (intro wS hSw; (try dsimp only at hSw); go_simp; try (with_reducible rfl))
    try simp only [Act.put, List.setIfInBounds_toArray, List.set_cons_zero, List.set_cons_succ]
    refine tkH (i := 16) (v := ?_) (hy := .inl ⟨by rfl, ?_⟩) (h := ?_)
    rotate_left 1
    · (intro wS hSw; (try dsimp only at hSw); go_simp; try (with_reducible rfl))
    try simp only [Act.put, List.setIfInBounds_toArray, List.set_cons_zero, List.set_cons_succ]
    refine tkH (i := 17) (v := ?_) (hy := .inl ⟨by rfl, ?_⟩) (h := ?_)
    rotate_left 1
    · (intro wS hSw; (try dsimp only at hSw); go_simp; try (with_reducible rfl))
    try simp only [Act.put, List.setIfInBounds_toArray, List.set_cons_zero, List.set_cons_succ]
    refine tkH (i := 18) (v := ?_) (hy := .inl ⟨by rfl, ?_⟩) (h := ?_)
    rotate_left 1
    · (intro wS hSw; (try dsimp only at hSw); go_simp; try (with_reducible rfl))
    try simp only [Act.put, List.setIfInBounds_toArray, List.set_cons_zero, List.set_cons_succ]
    refine tkH (i := 19) (v := ?_) (hy := .inl ⟨by rfl, ?_⟩) (h := ?_)
    rotate_left 1
    · (intro wS hSw; (try dsimp only at hSw); go_simp; try (with_reducible rfl))
    try simp only [Act.put, List.setIfInBounds_toArray, List.set_cons_zero, List.set_cons_succ]
    clear hHeld
    refine wpAnyH_ready (rs := [20]) (by kernel_rfl) (by simp) ?_
    refine AllReadyH.cons (i := 20) (by simp only [List.getElem?_toArray, List.getElem?_cons_succ, List.getElem?_cons_zero]; rfl) (fun K hK => ?_) AllReadyH.nil
    go_simp
    (go_at_call 112; refine (pow_any _ HP.out.1 HP.out.2 _ (by omega) (by omega) _).mono ?_; rintro e w1 ⟨rfl, hb1⟩; have HB1 := bel (bel_drew _) hb1; have z1 := kc HB1 f2; have z2 := kc HB1 i2; have z3 := kc HB1 k1; have z4 := kc HB1 f3; have z5 := kc HB1 i3; have z6 := kc HB1 k2)
    try (go_wp2_with fail)
    refine hK.out _ _ ?_ (fun hHeld => ?_)
    · ((try dsimp only); go_keep)
    clear hK K
    try simp only [Act.put, List.setIfInBounds_toArray, List.set_cons_zero, List.set_cons_succ]
    refine tkH (i := 21) (v := ?_) (hy := .inl ⟨by rfl, ?_⟩) (h := ?_)
    rotate_left 1
    · (intro wS hSw; (try dsimp only at hSw); go_simp; try (with_reducible rfl))
    try simp only [Act.put, List.setIfInBounds_toArray, List.set_cons_zero, List.set_cons_succ]
    refine wpAnyH_done (by kernel_rfl) ?_ _
    go_wp2
    go_ret
    exact ⟨rfl, HB1⟩
  · obtain ⟨a0, a1⟩ := ha (by decide)
    obtain ⟨A, rfl⟩ : ∃ j : Nat, A = (j : Int) := ⟨A.toNat, by omega⟩
    have k2 := h.whs.cell (i := A) (by rw [HN.out]; omega)
    have p2 := ok.whs A
    rw [show numI f ⟨17, D, (A : Int), B, Ec, nn, bt⟩ = ffrom (f.whs A) from rfl]
    obtain ⟨y2, hy2⟩ : ∃ y2, f.whs A = y2 := ⟨_, rfl⟩
    obtain ⟨FR, hFR⟩ : ∃ FR, a.FR = FR := ⟨_, rfl⟩
    obtain ⟨WB, hWB⟩ : ∃ WB, a.WB = WB := ⟨_, rfl⟩
    rw [hy2] at k2 p2 ⊢
    rw [hFR] at f3 ⊢
    rw [hWB] at f3 k2
    clear ha hb f4 f2 x h i6 hg ok hy2 hFR hWB
    go_enter Tryz.func73, Tryz.ntmps73
    go_wp2
    refine wp_region_held_drew (S := (fun v => v.cell? ⟨ib, io + 2, none⟩ = some (.int .i64 (A : Int)) ∧ v.cell? ⟨FR, 3, none⟩ = some (.slice (some ⟨WB, 0, none⟩) N N) ∧ v.cell? ⟨WB, A, none⟩ = some (.int .i64 y2))) (by kernel_rfl) ?_ (fun hHeld => ?_)
    · ((try dsimp only); go_keep)
    refine tkH (i := 0) (v := ?_) (hy := .inl ⟨by rfl, ?_⟩) (h := ?_)
    rotate_left 1
    · (intro wS hSw; (try dsimp only at hSw); go_simp; try (with_reducible rfl))
    try simp only [Act.put, List.setIfInBounds_toArray, List.set_cons_zero, List.set_cons_succ]
    refine tkH (i := 1) (v := ?_) (hy := .inl ⟨by rfl, ?_⟩) (h := ?_)
    rotate_left 1
    · (intro wS hSw; (try dsimp only at hSw); go_simp; try (with_reducible rfl))
    try simp only [Act.put, List.setIfInBounds_toArray, List.set_cons_zero, List.set_cons_succ]
    refine tkH (i := 2) (v := ?_) (hy := .inl ⟨by rfl, ?_⟩) (h := ?_)
    rotate_left 1
    · (intro wS hSw; (try dsimp only at hSw); go_simp; try (with_reducible rfl))
    try simp only [Act.put, List.setIfInBounds_toArray, List.set_cons_zero, List.set_cons_succ]
    refine tkH (i := 3) (v := ?_) (hy := .inl ⟨by rfl, ?_⟩) (h := ?_)
    rotate_left 1
    · (intro wS hSw; (try dsimp only at hSw); go_simp; try (with_reducible rfl))
    try simp only [Act.put, List.setIfInBounds_toArray, List.set_cons_zero, List.set_cons_succ]
    refine tkH (i := 4) (v := ?_) (hy := .inl ⟨by rfl, ?_⟩) (h := ?_)
    rotate_left 1
    · (intro wS hSw; (try dsimp only at hSw); go_simp; try (with_reducible rfl))
    try simp only [Act.put, List.setIfInBounds_toArray, List.set_cons_zero, List.set_cons_succ]
    refine tkH (i := 5) (v := ?_) (hy := .inl ⟨by rfl, ?_⟩) (h := ?_)
    rotate_left 1
    · (intro wS hSw; (try dsimp only at hSw); go_simp; try (with_reducible rfl))
    try simp only [Act.put, List.setIfInBounds_toArray, List.set_cons_zero, List.set_cons_succ]
    refine tkH (i := 6) (v := ?_) (hy := .inl ⟨by rfl, ?_⟩) (h := ?_)
    rotate_left 1
    · (intro wS hSw; (try dsimp only at hSw); go_simp; try (with_reducible rfl))
    try simp only [Act.put, List.setIfInBounds_toArray, List.set_cons_zero, List.set_cons_succ]
    refine tkH (i := 7) (v := ?_) (hy := .inl ⟨by rfl, ?_⟩) (h := ?_)
    rotate_left 1
    · (intro wS hSw; (try dsimp only at hSw); go_simp; try (with_reducible rfl))
    try simp only [Act.put, List.setIfInBounds_toArray, List.set_cons_zero, List.set_cons_succ]
    refine tkH (i := 8) (v := ?_) (hy := .inl ⟨by rfl, ?_⟩) (h := ?_)
    rotate_left 1
    · (intro wS hSw; (try dsimp only at hSw); go_simp; try (with_reducible rfl))
    try simp only [Act.put, List.setIfInBounds_toArray, List.set_cons_zero, List.set_cons_succ]
    refine tkH (i := 9) (v := ?_) (hy := .inl ⟨by rfl, ?_⟩) (h := ?_)
    rotate_left 1
    · (intro wS hSw; (try dsimp only at hSw); go_simp; try (with_reducible rfl))
    try simp only [Act.put, List.setIfInBounds_toArray, List.set_cons_zero, List.set_cons_succ]
    clear hHeld
    refine wpAnyH_ready (rs := [10]) (by kernel_rfl) (by simp) ?_
    refine AllReadyH.cons (i := 10) (by simp only [List.getElem?_toArray, List.getElem?_cons_succ, List.getElem?_cons_zero]; rfl) (fun K hK => ?_) AllReadyH.nil
    go_simp
    (go_at_call 113; refine (from_any _ (by omega) (by omega) _).mono ?_; rintro e w1 ⟨rfl, hw'⟩; obtain rfl := hw'.symm)
    try (go_wp2_with fail)
    refine hK.out _ _ ?_ (fun hHeld => ?_)
    · ((try dsimp only); go_keep)
    clear hK K
    try simp only [Act.put, List.setIfInBounds_toArray, List.set_cons_zero, List.set_cons_succ]
    refine tkH (i := 11) (v := ?_) (hy := .inl ⟨by rfl, ?_⟩) (h := ?_)
    rotate_left 1
    · (intro wS hSw; (try dsimp only at hSw); go_simp; try (with_reducible rfl))
    try simp only [Act.put, List.setIfInBounds_toArray, List.set_cons_zero, List.set_cons_succ]
    refine wpAnyH_done (by kernel_rfl) ?_ _
    go_wp2
    go_ret
    exact ⟨rfl, bel_drew _⟩
  · obtain ⟨a0, a1⟩ := ha (by decide)
    obtain ⟨A, rfl⟩ : ∃ j : Nat, A = (j : Int) := ⟨A.toNat, by omega⟩
    have hA : A < c.regs.length := by rw [HN.out]; omega
    obtain ⟨q1, q2, -, hr, hlk⟩ := h.look hA (by rw [HN.out]; omega)
    rw [show numI f ⟨19, D, (A : Int), B, Ec, nn, bt⟩ = fsum (atL (f.vecs A)) (f.vecs A).length from rfl]
    have hX := fun j => isP_atL (ok.vecs A) j
    have hL9 := ok.vecsL A
    obtain ⟨V, hV⟩ : ∃ V, atL (f.vecs A) = V := ⟨_, rfl⟩
    obtain ⟨L, hL⟩ : ∃ L, (f.vecs A).length = L := ⟨_, rfl⟩
    obtain ⟨FR, hFR⟩ : ∃ FR, a.FR = FR := ⟨_, rfl⟩
    obtain ⟨MB, hMB⟩ : ∃ MB, a.MB = MB := ⟨_, rfl⟩
    simp only [hV, hL, hMB] at hX hL9 hr hlk ⊢
    rw [hFR, hMB] at f4
    rw [hFR]
    have HXX : Hid (∀ j, IsP (V j)) := hX
    have HRR : Hid (Reads w q1 L (fun j => .int .u32 (V j))) := hr
    have lk := hlk w.drew (bel_drew _)
    clear ha hb f3 f2 x h i6 hg ok hV hL hFR hMB hX hr hlk
    go_enter Tryz.func73, Tryz.ntmps73
    go_wp2
    refine wp_region_held_drew (S := (fun v => v.cell? ⟨ib, io + 2, none⟩ = some (.int .i64 (A : Int)) ∧ v.cell? ⟨FR, 4, none⟩ = some (.map (some MB)))) (by kernel_rfl) ?_ (fun hHeld => ?_)
    · ((try dsimp only); go_keep)
    refine tkH (i := 0) (v := ?_) (hy := .inl ⟨by rfl, ?_⟩) (h := ?_)
    rotate_left 1
    · (intro wS hSw; (try dsimp only at hSw); go_simp; try (with_reducible rfl))
    try simp only [Act.put, List.setIfInBounds_toArray, List.set_cons_zero, List.set_cons_succ]
    refine tkH (i := 1) (v := ?_) (hy := .inl ⟨by rfl, ?_⟩) (h := ?_)
    rotate_left 1
    · (intro wS hSw; (try dsimp only at hSw); go_simp; try (with_reducible rfl))
    try simp only [Act.put, List.setIfInBounds_toArray, List.set_cons_zero, List.set_cons_succ]
    refine tkH (i := 2) (v := ?_) (hy := .inl ⟨by rfl, ?_⟩) (h := ?_)
    rotate_left 1
    · (intro wS hSw; (try dsimp only at hSw); go_simp; try (with_reducible rfl))
    try simp only [Act.put, List.setIfInBounds_toArray, List.set_cons_zero, List.set_cons_succ]
    refine tkH (i := 3) (v := ?_) (hy := .inl ⟨by rfl, ?_⟩) (h := ?_)
    rotate_left 1
    · (intro wS hSw; (try dsimp only at hSw); go_simp; try (with_reducible rfl))
    try simp only [Act.put, List.setIfInBounds_toArray, List.set_cons_zero, List.set_cons_succ]
    refine tkH (i := 4) (v := ?_) (hy := .inl ⟨by rfl, ?_⟩) (h := ?_)
    rotate_left 1
    · (intro wS hSw; (try dsimp only at hSw); go_simp; try (with_reducible rfl))
    try simp only [Act.put, List.setIfInBounds_toArray, List.set_cons_zero, List.set_cons_succ]
    refine tkH (i := 5) (v := ?_) (hy := .inl ⟨by rfl, ?_⟩) (h := ?_)
    rotate_left 1
    · (intro wS hSw; (try dsimp only at hSw); go_simp; try (with_reducible rfl))
    try simp only [Act.put, List.setIfInBounds_toArray, List.set_cons_zero, List.set_cons_succ]
    refine tkH (i := 6) (v := ?_) (hy := .inl ⟨by rfl, ?_⟩) (h := ?_)
    rotate_left 1
    · (intro wS hSw; (try dsimp only at hSw); go_simp; try (with_reducible rfl))
    try simp only [Act.put, List.setIfInBounds_toArray, List.set_cons_zero, List.set_cons_succ]
    refine tkH (i := 7) (v := ?_) (hy := .inl ⟨by rfl, ?_⟩) (h := ?_)
    rotate_left 1
    · (intro wS hSw; (try dsimp only at hSw); go_simp; try (with_reducible rfl))
    try simp only [Act.put, List.setIfInBounds_toArray, List.set_cons_zero, List.set_cons_succ]
    clear hHeld
    refine wpAnyH_ready (rs := [8]) (by kernel_rfl) (by simp) ?_
    refine AllReadyH.cons (i := 8) (by simp only [List.getElem?_toArray, List.getElem?_cons_succ, List.getElem?_cons_zero]; rfl) (fun K hK => ?_) AllReadyH.nil
    go_simp
    refine hK.out _ _ ?_ (fun hHeld => ?_)
    · ((try dsimp only); go_keep)
    clear hK K
    try simp only [Act.put, List.setIfInBounds_toArray, List.set_cons_zero, List.set_cons_succ]
    clear hHeld
    refine wpAnyH_ready (rs := [9]) (by kernel_rfl) (by simp) ?_
    refine AllReadyH.cons (i := 9) (by simp only [List.getElem?_toArray, List.getElem?_cons_succ, List.getElem?_cons_zero]; rfl) (fun K hK => ?_) AllReadyH.nil
    go_simp
    (go_at_call 114; refine (sum_any q1 L q2 V HXX.out (by omega) _ (HRR.out.below (bel_drew _))).mono ?_; rintro e w1 ⟨rfl, hb1⟩; have HB1 := bel (bel_drew _) hb1; have z1 := kc HB1 i2; have z2 := kc HB1 f4)
    try (go_wp2_with fail)
    refine hK.out _ _ ?_ (fun hHeld => ?_)
    · ((try dsimp only); go_keep)
    clear hK K
    try simp only [Act.put, List.setIfInBounds_toArray, List.set_cons_zero, List.set_cons_succ]
    refine tkH (i := 10) (v := ?_) (hy := .inl ⟨by rfl, ?_⟩) (h := ?_)
    rotate_left 1
    · (intro wS hSw; (try dsimp only at hSw); go_simp; try (with_reducible rfl))
    try simp only [Act.put, List.setIfInBounds_toArray, List.set_cons_zero, List.set_cons_succ]
    refine wpAnyH_done (by kernel_rfl) ?_ _
    go_wp2
    go_ret
    exact ⟨rfl, HB1⟩
  · obtain ⟨a0, a1⟩ := ha (by decide)
    obtain ⟨A, rfl⟩ : ∃ j : Nat, A = (j : Int) := ⟨A.toNat, by omega⟩
    have hA : A < c.regs.length := by rw [HN.out]; omega
    obtain ⟨q1, q2, -, hr, hlk⟩ := h.look hA (by rw [HN.out]; omega)
    rw [show numI f ⟨20, D, (A : Int), B, Ec, nn, bt⟩ = fleast (atL (f.vecs A)) (f.vecs A).length from rfl]
    have hX := fun j => isP_atL (ok.vecs A) j
    have hL9 := ok.vecsL A
    obtain ⟨V, hV⟩ : ∃ V, atL (f.vecs A) = V := ⟨_, rfl⟩
    obtain ⟨L, hL⟩ : ∃ L, (f.vecs A).length = L := ⟨_, rfl⟩
    obtain ⟨FR, hFR⟩ : ∃ FR, a.FR = FR := ⟨_, rfl⟩
    obtain ⟨MB, hMB⟩ : ∃ MB, a.MB = MB := ⟨_, rfl⟩
    simp only [hV, hL, hMB] at hX hL9 hr hlk ⊢
    rw [hFR, hMB] at f4
    rw [hFR]
    have HXX : Hid (∀ j, IsP (V j)) := hX
    have HRR : Hid (Reads w q1 L (fun j => .int .u32 (V j))) := hr
    have lk := hlk w.drew (bel_drew _)
    clear ha hb f3 f2 x h i6 hg ok hV hL hFR hMB hX hr hlk
    go_enter Tryz.func73, Tryz.ntmps73
    go_wp2
    refine wp_region_held_drew (S := (fun v => v.cell? ⟨ib, io + 2, none⟩ = some (.int .i64 (A : Int)) ∧ v.cell? ⟨FR, 4, none⟩ = some (.map (some MB)))) (by kernel_rfl) ?_ (fun hHeld => ?_)
    · ((try dsimp only); go_keep)
    refine tkH (i := 0) (v := ?_) (hy := .inl ⟨by rfl, ?_⟩) (h := ?_)
    rotate_left 1
    · (intro wS hSw; (try dsimp only at hSw); go_simp; try (with_reducible rfl))
    try simp only [Act.put, List.setIfInBounds_toArray, List.set_cons_zero, List.set_cons_succ]
    refine tkH (i := 1) (v := ?_) (hy := .inl ⟨by rfl, ?_⟩) (h := ?_)
    rotate_left 1
    · (intro wS hSw; (try dsimp only at hSw); go_simp; try (with_reducible rfl))
    try simp only [Act.put, List.setIfInBounds_toArray, List.set_cons_zero, List.set_cons_succ]
    refine tkH (i := 2) (v := ?_) (hy := .inl ⟨by rfl, ?_⟩) (h := ?_)
    rotate_left 1
    · (intro wS hSw; (try dsimp only at hSw); go_simp; try (with_reducible rfl))
    try simp only [Act.put, List.setIfInBounds_toArray, List.set_cons_zero, List.set_cons_succ]
    refine tkH (i := 3) (v := ?_) (hy := .inl ⟨by rfl, ?_⟩) (h := ?_)
    rotate_left 1
    · (intro wS hSw; (try dsimp only at hSw); go_simp; try (with_reducible rfl))
    try simp only [Act.put, List.setIfInBounds_toArray, List.set_cons_zero, List.set_cons_succ]
    refine tkH (i := 4) (v := ?_) (hy := .inl ⟨by rfl, ?_⟩) (h := ?_)
    rotate_left 1
    · (intro wS hSw; (try dsimp only at hSw); go_simp; try (with_reducible rfl))
    try simp only [Act.put, List.setIfInBounds_toArray, List.set_cons_zero, List.set_cons_succ]
    refine tkH (i := 5) (v := ?_) (hy := .inl ⟨by rfl, ?_⟩) (h := ?_)
    rotate_left 1
    · (intro wS hSw; (try dsimp only at hSw); go_simp; try (with_reducible rfl))
    try simp only [Act.put, List.setIfInBounds_toArray, List.set_cons_zero, List.set_cons_succ]
    refine tkH (i := 6) (v := ?_) (hy := .inl ⟨by rfl, ?_⟩) (h := ?_)
    rotate_left 1
    · (intro wS hSw; (try dsimp only at hSw); go_simp; try (with_reducible rfl))
    try simp only [Act.put, List.setIfInBounds_toArray, List.set_cons_zero, List.set_cons_succ]
    refine tkH (i := 7) (v := ?_) (hy := .inl ⟨by rfl, ?_⟩) (h := ?_)
    rotate_left 1
    · (intro wS hSw; (try dsimp only at hSw); go_simp; try (with_reducible rfl))
    try simp only [Act.put, List.setIfInBounds_toArray, List.set_cons_zero, List.set_cons_succ]
    clear hHeld
    refine wpAnyH_ready (rs := [8]) (by kernel_rfl) (by simp) ?_
    refine AllReadyH.cons (i := 8) (by simp only [List.getElem?_toArray, List.getElem?_cons_succ, List.getElem?_cons_zero]; rfl) (fun K hK => ?_) AllReadyH.nil
    go_simp
    refine hK.out _ _ ?_ (fun hHeld => ?_)
    · ((try dsimp only); go_keep)
    clear hK K
    try simp only [Act.put, List.setIfInBounds_toArray, List.set_cons_zero, List.set_cons_succ]
    clear hHeld
    refine wpAnyH_ready (rs := [9]) (by kernel_rfl) (by simp) ?_
    refine AllReadyH.cons (i := 9) (by simp only [List.getElem?_toArray, List.getElem?_cons_succ, List.getElem?_cons_zero]; rfl) (fun K hK => ?_) AllReadyH.nil
    go_simp
    (go_at_call 115; refine (least_any q1 L q2 V HXX.out (by omega) _ (HRR.out.below (bel_drew _))).mono ?_; rintro e w1 ⟨rfl, hb1⟩; have HB1 := bel (bel_drew _) hb1; have z1 := kc HB1 i2; have z2 := kc HB1 f4)
    try (go_wp2_with fail)
    refine hK.out _ _ ?_ (fun hHeld => ?_)
    · ((try dsimp only); go_keep)
    clear hK K
    try simp only [Act.put, List.setIfInBounds_toArray, List.set_cons_zero, List.set_cons_succ]
    refine tkH (i := 10) (v := ?_) (hy := .inl ⟨by rfl, ?_⟩) (h := ?_)
    rotate_left 1
    · (intro wS hSw; (try dsimp only at hSw); go_simp; try (with_reducible rfl))
    try simp only [Act.put, List.setIfInBounds_toArray, List.set_cons_zero, List.set_cons_succ]
    refine wpAnyH_done (by kernel_rfl) ?_ _
    go_wp2
    go_ret
    exact ⟨rfl, HB1⟩

end Go.Proofs.YtholhpmnicibgaaGreat
