import Derived.Test.YtholhpmnicibgaaGreatMark1
import Derived.Test.YtholhpmnicibgaaGreatMark19
/- Package interp: one instruction done (vectors, slots, marks). -/
namespace Go.Proofs.YtholhpmnicibgaaGreat
open Go.RowKit
set_option linter.unusedVariables false
set_option linter.unusedSimpArgs false

set_option maxRecDepth 100000 in
set_option maxHeartbeats 4000000 in
theorem do_grad {T : Nat → Prop} {E E' : Nat} {a : Lay} {c : Cd} {G P : List (List Int)} {X : Nat → Value} {M : Nat} {m : Nat → Option Value} {f : Fr} (w : World) (x : FX T E E' a c G P w) (h : FV T E E' a c w X M m f) (hg : Good c) (ok : OkF c f) (hM : M ≤ 1000000) (ib io : Nat) (i : Ins) (hi : InsT (mutT T E E') w ib io i)
    (hop : i.op = 29) (hL : FitV c G) (hp : PartOK c i.d i.n) :
    Calls Tryz.prog 48 #[.pointer (some ⟨a.FR, 0, none⟩), .pointer (some ⟨ib, io, none⟩)] w fun e w' => e = .returned (.tuple #[]) ∧ StepOK T E E' a c G P M { f with vecs := putN f.vecs i.d.toNat (partP c G i) } w w' := by
  have HK : Hid (∀ v, Below w.heap.size w v → Calls Tryz.prog 75 #[.pointer (some ⟨a.FR, 0, none⟩), a.gv, .pointer (some ⟨ib, io, none⟩)] v fun e w' => ∃ g, e = .returned (.slice (some ⟨g, 0, none⟩) (partP c G i).length (partP c G i).length) ∧ v.heap.size ≤ g ∧ w'.rowIs g 43 (partP c G i).length (fun j => .int .u32 (atL (partP c G i) j)) ∧ Below v.heap.size v w') := fun v hv => part_any v (x.below hv) hg a.gv G (x.g.below hv) hL ib io i (hi.below hv).cells hp
  obtain ⟨l, hl⟩ : ∃ l, partP c G i = l := ⟨_, rfl⟩
  rw [hl] at HK ⊢
  have q0 := hi.cells.at 0 rfl
  rw [Nat.add_zero] at q0
  have q1 := hi.cells.at 1 rfl
  have d0 := hp.r0
  have d1 := hp.r1
  obtain ⟨op, D, A, B, Ec, nn, bt⟩ := i
  simp only at *
  subst hop
  obtain ⟨D, rfl⟩ : ∃ j : Nat, D = (j : Int) := ⟨D.toNat, by omega⟩
  rw [Int.toNat_natCast]
  have hD : D < c.regs.length := by omega
  have f4 := x.f4
  have f5 := x.f5
  have hN := hg.regsL
  obtain ⟨F, hF⟩ : ∃ F : Fr, ({ f with vecs := putN f.vecs D l } : Fr) = F := ⟨_, rfl⟩
  have HFin : Hid (∀ v g, Below w.heap.size w v → w.heap.size ≤ g → v.rowIs g 43 l.length (fun j => .int .u32 (atL l j)) → ∃ v2, (Instr.mapUpdate 93 (.map (some a.MB)) (.int .i64 (D : Int)) (.slice (some ⟨g, 0, none⟩) l.length l.length)).run Tryz.prog v = .ok () v2 ∧ StepOK T E E' a c G P M F w v2 ∧ (∀ b, b < v.heap.size → b ≠ a.MB → v2.heap[b]? = v.heap[b]?)) := by
    intro v g hv hg2 hr
    have xv := x.below hv
    have hvv := h.below hv
    obtain ⟨v2, hrun, hm2, hgr⟩ := hvv.map.put (by unfold maxLen; omega) Tryz.underlying93 (k := D) (by omega) (.slice (some ⟨g, 0, none⟩) l.length l.length)
    have hpt : Pt (mutT T E E') v (.slice (some ⟨g, 0, none⟩) l.length l.length) l := Pt.of_row hr (x.fresh hg2) rfl (fun _ _ => rfl) _
    refine ⟨v2, hrun, ?_, fun b hb hne => hgr.block b hb (fun e => hne (by simpa using e))⟩
    rw [← hF]
    exact (StepOK.vec xv hvv hD hpt hm2 hgr).pre hv
  rw [hF]
  have n1 : a.FR ≠ a.MB := x.d1.2.2.1
  have n2 : ib ≠ a.MB := fun e => hi.not (by rw [e]; exact .inr x.iMB)
  have hlt1 : a.FR < w.heap.size := by have := x.iFR; have := x.hE'; omega
  have hlt2 := hi.lt
  obtain ⟨FR, hFR⟩ : ∃ FR, a.FR = FR := ⟨_, rfl⟩
  obtain ⟨MB, hMB⟩ : ∃ MB, a.MB = MB := ⟨_, rfl⟩
  obtain ⟨gv, hgv⟩ : ∃ gv, a.gv = gv := ⟨_, rfl⟩
  obtain ⟨L, hL9⟩ : ∃ L, l.length = L := ⟨_, rfl⟩
  simp only [hFR, hMB, hgv, hL9] at f4 f5 HK HFin n1 n2 hlt1 ⊢
  clear x h hg hi ok hp hl hFR hMB hgv hL9 hF hL
  go_enter Tryz.func48, Tryz.ntmps48
  go_wp2
  refine wp_region_held_drew (S := (fun v => v.cell? ⟨FR, 4, none⟩ = some (.map (some MB)) ∧ v.cell? ⟨ib, io + 1, none⟩ = some (.int .i64 (D : Int)) ∧ v.cell? ⟨FR, 5, none⟩ = some gv)) (by kernel_rfl) ?_ (fun hHeld => ?_)
  · ((try dsimp only); go_keep)
  refine tkH (i := 0) (v := ?_) (hy := .inl ⟨by rfl, ?_⟩) (h := ?_)
  rotate_left 1
  · (intro wS hSw; (try dsimp only at hSw); go_simp; try (with_reducible rfl))
  try simp only [Act.put, List.setIfInBounds_toArray, List.set_cons_zero, List.set_cons_succ]
  refine tkH (i := 1) (v := ?_) (hy := .inl ⟨by rfl, ?_⟩) (h := ?_)
  rotate_left 1
  · (intro wS hSw; (try dsimp only at hSw); go_simp; try (with_reducible rfl))
  try simp only [Act.put, List.setIfInBounds_toArray, List.set_cons_zero, List.set_cons_succ]
  refine tkH (i := 2) (v := ?_) (hy := .inl ⟨by rfl, ?_⟩) (h := ?_)
  rotate_left 1
  · (intro wS hSw; (try dsimp only at hSw); go_simp; try (with_reducible rfl))
  try simp only [Act.put, List.setIfInBounds_toArray, List.set_cons_zero, List.set_cons_succ]
  refine tkH (i := 3) (v := ?_) (hy := .inl ⟨by rfl, ?_⟩) (h := ?_)
  rotate_left 1
  · (intro wS hSw; (try dsimp only at hSw); go_simp; try (with_reducible rfl))
  try simp only [Act.put, List.setIfInBounds_toArray, List.set_cons_zero, List.set_cons_succ]
  refine tkH (i := 4) (v := ?_) (hy := .inl ⟨by rfl, ?_⟩) (h := ?_)
  rotate_left 1
  · (intro wS hSw; (try dsimp only at hSw); go_simp; try (with_reducible rfl))
  try simp only [Act.put, List.setIfInBounds_toArray, List.set_cons_zero, List.set_cons_succ]
  refine tkH (i := 5) (v := ?_) (hy := .inl ⟨by rfl, ?_⟩) (h := ?_)
  rotate_left 1
  · (intro wS hSw; (try dsimp only at hSw); go_simp; try (with_reducible rfl))
  try simp only [Act.put, List.setIfInBounds_toArray, List.set_cons_zero, List.set_cons_succ]
  refine tkH (i := 6) (v := ?_) (hy := .inl ⟨by rfl, ?_⟩) (h := ?_)
  rotate_left 1
  · (intro wS hSw; (try dsimp only at hSw); go_simp; try (with_reducible rfl))
  try simp only [Act.put, List.setIfInBounds_toArray, List.set_cons_zero, List.set_cons_succ]
  refine tkH (i := 7) (v := ?_) (hy := .inl ⟨by rfl, ?_⟩) (h := ?_)
  rotate_left 1
  · (intro wS hSw; (try dsimp only at hSw); go_simp; try (with_reducible rfl))
  try simp only [Act.put, List.setIfInBounds_toArray, List.set_cons_zero, List.set_cons_succ]
  refine tkH (i := 8) (v := ?_) (hy := .inl ⟨by rfl, ?_⟩) (h := ?_)
  rotate_left 1
  · (intro wS hSw; (try dsimp only at hSw); go_simp; try (with_reducible rfl))
  try simp only [Act.put, List.setIfInBounds_toArray, List.set_cons_zero, List.set_cons_succ]
  refine tkH (i := 9) (v := ?_) (hy := .inl ⟨by rfl, ?_⟩) (h := ?_)
  rotate_left 1
  · (intro wS hSw; (try dsimp only at hSw); go_simp; try (with_reducible rfl))
  try simp only [Act.put, List.setIfInBounds_toArray, List.set_cons_zero, List.set_cons_succ]
  refine tkH (i := 10) (v := ?_) (hy := .inl ⟨by rfl, ?_⟩) (h := ?_)
  rotate_left 1
  · (intro wS hSw; (try dsimp only at hSw); go_simp; try (with_reducible rfl))
  try simp only [Act.put, List.setIfInBounds_toArray, List.set_cons_zero, List.set_cons_succ]
  refine tkH (i := 11) (v := ?_) (hy := .inl ⟨by rfl, ?_⟩) (h := ?_)
  rotate_left 1
  · (intro wS hSw; (try dsimp only at hSw); go_simp; try (with_reducible rfl))
  try simp only [Act.put, List.setIfInBounds_toArray, List.set_cons_zero, List.set_cons_succ]
  refine tkH (i := 12) (v := ?_) (hy := .inl ⟨by rfl, ?_⟩) (h := ?_)
  rotate_left 1
  · (intro wS hSw; (try dsimp only at hSw); go_simp; try (with_reducible rfl))
  try simp only [Act.put, List.setIfInBounds_toArray, List.set_cons_zero, List.set_cons_succ]
  refine tkH (i := 13) (v := ?_) (hy := .inl ⟨by rfl, ?_⟩) (h := ?_)
  rotate_left 1
  · (intro wS hSw; (try dsimp only at hSw); go_simp; try (with_reducible rfl))
  try simp only [Act.put, List.setIfInBounds_toArray, List.set_cons_zero, List.set_cons_succ]
  clear hHeld
  refine wpAnyH_ready (rs := [14]) (by kernel_rfl) (by simp) ?_
  refine AllReadyH.cons (i := 14) (by simp only [List.getElem?_toArray, List.getElem?_cons_succ, List.getElem?_cons_zero]; rfl) (fun K hK => ?_) AllReadyH.nil
  go_simp
  (go_at_call 75; refine (HK.out _ (bel_drew _)).mono ?_; rintro e w1 ⟨g, rfl, hg1, hr1, hb1⟩; have HB1 := bel (bel_drew _) hb1; obtain ⟨w2, hrun, hst, hkeep⟩ := HFin.out w1 g HB1 (by simpa using hg1) hr1; have HST : Hid (StepOK T E E' a c G P M F w w2) := hst; have z1 := kc HB1 f4; have z2 := kc HB1 q1; have z3 := kc HB1 f5; have y1 : w2.cell? ⟨FR, 4, none⟩ = some (.map (some MB)) := (World.cell?_of_block (hkeep _ (by have := HB1.size; simp; omega) n1)).trans z1; have y2 : w2.cell? ⟨ib, io + 1, none⟩ = some (.int .i64 (D : Int)) := (World.cell?_of_block (hkeep _ (by have := HB1.size; simp; omega) n2)).trans z2; have y3 : w2.cell? ⟨FR, 5, none⟩ = some gv := (World.cell?_of_block (hkeep _ (by have := HB1.size; simp; omega) n1)).trans z3; clear hb1 hr1 hst hkeep hg1)
  try (go_wp2_with fail)
  refine hK.out _ _ ?_ (fun hHeld => ?_)
  · ((try dsimp only); go_keep)
  clear hK K
  try simp only [Act.put, List.setIfInBounds_toArray, List.set_cons_zero, List.set_cons_succ]
  clear hHeld
  refine wpAnyH_ready (rs := [15]) (by kernel_rfl) (by simp) ?_
  refine AllReadyH.cons (i := 15) (by simp only [List.getElem?_toArray, List.getElem?_cons_succ, List.getElem?_cons_zero]; rfl) (fun K hK => ?_) AllReadyH.nil
  go_simp
  refine hK.out _ _ ?_ (fun hHeld => ?_)
  · ((try dsimp only); go_keep)
  clear hK K
  try simp only [Act.put, List.setIfInBounds_toArray, List.set_cons_zero, List.set_cons_succ]
  refine wpAnyH_done (by kernel_rfl) ?_ _
  go_wp2
  go_end0
  exact ⟨rfl, HST.out⟩

set_option maxRecDepth 100000 in
set_option maxHeartbeats 4000000 in
theorem do_param {T : Nat → Prop} {E E' : Nat} {a : Lay} {c : Cd} {G P : List (List Int)} {X : Nat → Value} {M : Nat} {m : Nat → Option Value} {f : Fr} (w : World) (x : FX T E E' a c G P w) (h : FV T E E' a c w X M m f) (hg : Good c) (ok : OkF c f) (hM : M ≤ 1000000) (ib io : Nat) (i : Ins) (hi : InsT (mutT T E E') w ib io i)
    (hop : i.op = 30) (hL : FitV c P) (hp : PartOK c i.d i.n) :
    Calls Tryz.prog 48 #[.pointer (some ⟨a.FR, 0, none⟩), .pointer (some ⟨ib, io, none⟩)] w fun e w' => e = .returned (.tuple #[]) ∧ StepOK T E E' a c G P M { f with vecs := putN f.vecs i.d.toNat (partP c P i) } w w' := by
  have HK : Hid (∀ v, Below w.heap.size w v → Calls Tryz.prog 75 #[.pointer (some ⟨a.FR, 0, none⟩), a.pv, .pointer (some ⟨ib, io, none⟩)] v fun e w' => ∃ g, e = .returned (.slice (some ⟨g, 0, none⟩) (partP c P i).length (partP c P i).length) ∧ v.heap.size ≤ g ∧ w'.rowIs g 43 (partP c P i).length (fun j => .int .u32 (atL (partP c P i) j)) ∧ Below v.heap.size v w') := fun v hv => part_any v (x.below hv) hg a.pv P (x.p.below hv) hL ib io i (hi.below hv).cells hp
  obtain ⟨l, hl⟩ : ∃ l, partP c P i = l := ⟨_, rfl⟩
  rw [hl] at HK ⊢
  have q0 := hi.cells.at 0 rfl
  rw [Nat.add_zero] at q0
  have q1 := hi.cells.at 1 rfl
  have d0 := hp.r0
  have d1 := hp.r1
  obtain ⟨op, D, A, B, Ec, nn, bt⟩ := i
  simp only at *
  subst hop
  obtain ⟨D, rfl⟩ : ∃ j : Nat, D = (j : Int) := ⟨D.toNat, by omega⟩
  rw [Int.toNat_natCast]
  have hD : D < c.regs.length := by omega
  have f4 := x.f4
  have f5 := x.f6
  have hN := hg.regsL
  obtain ⟨F, hF⟩ : ∃ F : Fr, ({ f with vecs := putN f.vecs D l } : Fr) = F := ⟨_, rfl⟩
  have HFin : Hid (∀ v g, Below w.heap.size w v → w.heap.size ≤ g → v.rowIs g 43 l.length (fun j => .int .u32 (atL l j)) → ∃ v2, (Instr.mapUpdate 93 (.map (some a.MB)) (.int .i64 (D : Int)) (.slice (some ⟨g, 0, none⟩) l.length l.length)).run Tryz.prog v = .ok () v2 ∧ StepOK T E E' a c G P M F w v2 ∧ (∀ b, b < v.heap.size → b ≠ a.MB → v2.heap[b]? = v.heap[b]?)) := by
    intro v g hv hg2 hr
    have xv := x.below hv
    have hvv := h.below hv
    obtain ⟨v2, hrun, hm2, hgr⟩ := hvv.map.put (by unfold maxLen; omega) Tryz.underlying93 (k := D) (by omega) (.slice (some ⟨g, 0, none⟩) l.length l.length)
    have hpt : Pt (mutT T E E') v (.slice (some ⟨g, 0, none⟩) l.length l.length) l := Pt.of_row hr (x.fresh hg2) rfl (fun _ _ => rfl) _
    refine ⟨v2, hrun, ?_, fun b hb hne => hgr.block b hb (fun e => hne (by simpa using e))⟩
    rw [← hF]
    exact (StepOK.vec xv hvv hD hpt hm2 hgr).pre hv
  rw [hF]
  have n1 : a.FR ≠ a.MB := x.d1.2.2.1
  have n2 : ib ≠ a.MB := fun e => hi.not (by rw [e]; exact .inr x.iMB)
  have hlt1 : a.FR < w.heap.size := by have := x.iFR; have := x.hE'; omega
  have hlt2 := hi.lt
  obtain ⟨FR, hFR⟩ : ∃ FR, a.FR = FR := ⟨_, rfl⟩
  obtain ⟨MB, hMB⟩ : ∃ MB, a.MB = MB := ⟨_, rfl⟩
  obtain ⟨gv, hgv⟩ : ∃ gv, a.pv = gv := ⟨_, rfl⟩
  obtain ⟨L, hL9⟩ : ∃ L, l.length = L := ⟨_, rfl⟩
  simp only [hFR, hMB, hgv, hL9] at f4 f5 HK HFin n1 n2 hlt1 ⊢
  clear x h hg hi ok hp hl hFR hMB hgv hL9 hF hL
  go_enter Tryz.func48, Tryz.ntmps48
  go_wp2
  refine wp_region_held_drew (S := (fun v => v.cell? ⟨FR, 4, none⟩ = some (.map (some MB)) ∧ v.cell? ⟨ib, io + 1, none⟩ = some (.int .i64 (D : Int)) ∧ v.cell? ⟨FR, 6, none⟩ = some gv)) (by kernel_rfl) ?_ (fun hHeld => ?_)
  · ((try dsimp only); go_keep)
  refine tkH (i := 0) (v := ?_) (hy := .inl ⟨by rfl, ?_⟩) (h := ?_)
  rotate_left 1
  · (intro wS hSw; (try dsimp only at hSw); go_simp; try (with_reducible rfl))
  try simp only [Act.put, List.setIfInBounds_toArray, List.set_cons_zero, List.set_cons_succ]
  refine tkH (i := 1) (v := ?_) (hy := .inl ⟨by rfl, ?_⟩) (h := ?_)
  rotate_left 1
  · (intro wS hSw; (try dsimp only at hSw); go_simp; try (with_reducible rfl))
  try simp only [Act.put, List.setIfInBounds_toArray, List.set_cons_zero, List.set_cons_succ]
  refine tkH (i := 2) (v := ?_) (hy := .inl ⟨by rfl, ?_⟩) (h := ?_)
  rotate_left 1
  · (intro wS hSw; (try dsimp only at hSw); go_simp; try (with_reducible rfl))
  try simp only [Act.put, List.setIfInBounds_toArray, List.set_cons_zero, List.set_cons_succ]
  refine tkH (i := 3) (v := ?_) (hy := .inl ⟨by rfl, ?_⟩) (h := ?_)
  rotate_left 1
  · (intro wS hSw; (try dsimp only at hSw); go_simp; try (with_reducible rfl))
  try simp only [Act.put, List.setIfInBounds_toArray, List.set_cons_zero, List.set_cons_succ]
  refine tkH (i := 4) (v := ?_) (hy := .inl ⟨by rfl, ?_⟩) (h := ?_)
  rotate_left 1
  · (intro wS hSw; (try dsimp only at hSw); go_simp; try (with_reducible rfl))
  try simp only [Act.put, List.setIfInBounds_toArray, List.set_cons_zero, List.set_cons_succ]
  refine tkH (i := 5) (v := ?_) (hy := .inl ⟨by rfl, ?_⟩) (h := ?_)
  rotate_left 1
  · (intro wS hSw; (try dsimp only at hSw); go_simp; try (with_reducible rfl))
  try simp only [Act.put, List.setIfInBounds_toArray, List.set_cons_zero, List.set_cons_succ]
  refine tkH (i := 6) (v := ?_) (hy := .inl ⟨by rfl, ?_⟩) (h := ?_)
  rotate_left 1
  · (intro wS hSw; (try dsimp only at hSw); go_simp; try (with_reducible rfl))
  try simp only [Act.put, List.setIfInBounds_toArray, List.set_cons_zero, List.set_cons_succ]
  refine tkH (i := 7) (v := ?_) (hy := .inl ⟨by rfl, ?_⟩) (h := ?_)
  rotate_left 1
  · (intro wS hSw; (try dsimp only at hSw); go_simp; try (with_reducible rfl))
  try simp only [Act.put, List.setIfInBounds_toArray, List.set_cons_zero, List.set_cons_succ]
  refine tkH (i := 8) (v := ?_) (hy := .inl ⟨by rfl, ?_⟩) (h := ?_)
  rotate_left 1
  · (intro wS hSw; (try dsimp only at hSw); go_simp; try (with_reducible rfl))
  try simp only [Act.put, List.setIfInBounds_toArray, List.set_cons_zero, List.set_cons_succ]
  refine tkH (i := 9) (v := ?_) (hy := .inl ⟨by rfl, ?_⟩) (h := ?_)
  rotate_left 1
  · (intro wS hSw; (try dsimp only at hSw); go_simp; try (with_reducible rfl))
  try simp only [Act.put, List.setIfInBounds_toArray, List.set_cons_zero, List.set_cons_succ]
  refine tkH (i := 10) (v := ?_) (hy := .inl ⟨by rfl, ?_⟩) (h := ?_)
  rotate_left 1
  · (intro wS hSw; (try dsimp only at hSw); go_simp; try (with_reducible rfl))
  try simp only [Act.put, List.setIfInBounds_toArray, List.set_cons_zero, List.set_cons_succ]
  refine tkH (i := 11) (v := ?_) (hy := .inl ⟨by rfl, ?_⟩) (h := ?_)
  rotate_left 1
  · (intro wS hSw; (try dsimp only at hSw); go_simp; try (with_reducible rfl))
  try simp only [Act.put, List.setIfInBounds_toArray, List.set_cons_zero, List.set_cons_succ]
  refine tkH (i := 12) (v := ?_) (hy := .inl ⟨by rfl, ?_⟩) (h := ?_)
  rotate_left 1
  · (intro wS hSw; (try dsimp only at hSw); go_simp; try (with_reducible rfl))
  try simp only [Act.put, List.setIfInBounds_toArray, List.set_cons_zero, List.set_cons_succ]
  refine tkH (i := 13) (v := ?_) (hy := .inl ⟨by rfl, ?_⟩) (h := ?_)
  rotate_left 1
  · (intro wS hSw; (try dsimp only at hSw); go_simp; try (with_reducible rfl))
  try simp only [Act.put, List.setIfInBounds_toArray, List.set_cons_zero, List.set_cons_succ]
  clear hHeld
  refine wpAnyH_ready (rs := [14]) (by kernel_rfl) (by simp) ?_
  refine AllReadyH.cons (i := 14) (by simp only [List.getElem?_toArray, List.getElem?_cons_succ, List.getElem?_cons_zero]; rfl) (fun K hK => ?_) AllReadyH.nil
  go_simp
  (go_at_call 75; refine (HK.out _ (bel_drew _)).mono ?_; rintro e w1 ⟨g, rfl, hg1, hr1, hb1⟩; have HB1 := bel (bel_drew _) hb1; obtain ⟨w2, hrun, hst, hkeep⟩ := HFin.out w1 g HB1 (by simpa using hg1) hr1; have HST : Hid (StepOK T E E' a c G P M F w w2) := hst; have z1 := kc HB1 f4; have z2 := kc HB1 q1; have z3 := kc HB1 f5; have y1 : w2.cell? ⟨FR, 4, none⟩ = some (.map (some MB)) := (World.cell?_of_block (hkeep _ (by have := HB1.size; simp; omega) n1)).trans z1; have y2 : w2.cell? ⟨ib, io + 1, none⟩ = some (.int .i64 (D : Int)) := (World.cell?_of_block (hkeep _ (by have := HB1.size; simp; omega) n2)).trans z2; have y3 : w2.cell? ⟨FR, 6, none⟩ = some gv := (World.cell?_of_block (hkeep _ (by have := HB1.size; simp; omega) n1)).trans z3; clear hb1 hr1 hst hkeep hg1)
  try (go_wp2_with fail)
  refine hK.out _ _ ?_ (fun hHeld => ?_)
  · ((try dsimp only); go_keep)
  clear hK K
  try simp only [Act.put, List.setIfInBounds_toArray, List.set_cons_zero, List.set_cons_succ]
  clear hHeld
  refine wpAnyH_ready (rs := [15]) (by kernel_rfl) (by simp) ?_
  refine AllReadyH.cons (i := 15) (by simp only [List.getElem?_toArray, List.getElem?_cons_succ, List.getElem?_cons_zero]; rfl) (fun K hK => ?_) AllReadyH.nil
  go_simp
  refine hK.out _ _ ?_ (fun hHeld => ?_)
  · ((try dsimp only); go_keep)
  clear hK K
  try simp only [Act.put, List.setIfInBounds_toArray, List.set_cons_zero, List.set_cons_succ]
  refine wpAnyH_done (by kernel_rfl) ?_ _
  go_wp2
  go_end0
  exact ⟨rfl, HST.out⟩

set_option maxRecDepth 100000 in
set_option maxHeartbeats 4000000 in
theorem do_out {T : Nat → Prop} {E E' : Nat} {a : Lay} {c : Cd} {G P : List (List Int)} {X : Nat → Value} {M : Nat} {m : Nat → Option Value} {f : Fr} (w : World) (x : FX T E E' a c G P w) (h : FV T E E' a c w X M m f) (hg : Good c) (ok : OkF c f) (hM : M ≤ 1000000) (ib io : Nat) (i : Ins) (hi : InsT (mutT T E E') w ib io i)
    (hop : i.op = 31) (hp : PartOK c i.a i.n) (hl : (f.vecs i.a.toNat).length = lenOf c (regT c.regs i.a).par) :
    Calls Tryz.prog 48 #[.pointer (some ⟨a.FR, 0, none⟩), .pointer (some ⟨ib, io, none⟩)] w fun e w' => e = .returned (.tuple #[]) ∧ StepOK T E E' a c G P M { f with outs := outP f.outs (regT c.regs i.a).par.toNat (apartP c (regT c.regs i.a).par) i.n.toNat (f.vecs i.a.toNat) } w w' := by
  have HK := hidM (out_any w x h hg ok ib io i hi hp hl)
  obtain ⟨F, hF⟩ : ∃ F : Fr, ({ f with outs := outP f.outs (regT c.regs i.a).par.toNat (apartP c (regT c.regs i.a).par) i.n.toNat (f.vecs i.a.toNat) } : Fr) = F := ⟨_, rfl⟩
  rw [hF] at HK ⊢
  have q0 := hi.cells.at 0 rfl
  rw [Nat.add_zero] at q0
  rw [hop] at q0
  obtain ⟨FR, hFR⟩ : ∃ FR, a.FR = FR := ⟨_, rfl⟩
  rw [hFR] at HK ⊢
  clear x h hg hi ok hp hl hF hFR hop
  go_enter Tryz.func48, Tryz.ntmps48
  go_wp2_with (go_at_call 76; refine HK.out.mono ?_; rintro e w1 ⟨rfl, hst⟩; have HST := hidM hst; clear hst)
  go_end0
  exact ⟨rfl, HST.out⟩

set_option maxRecDepth 100000 in
set_option maxHeartbeats 4000000 in
theorem do_elem {T : Nat → Prop} {E E' : Nat} {a : Lay} {c : Cd} {G P : List (List Int)} {X : Nat → Value} {M : Nat} {m : Nat → Option Value} {f : Fr} (w : World) (x : FX T E E' a c G P w) (h : FV T E E' a c w X M m f) (hg : Good c) (ok : OkF c f) (hM : M ≤ 1000000) (ib io : Nat) (i : Ins) (hi : InsT (mutT T E E') w ib io i)
    (hop : elemP i.op = true) (F : Fr) (HK : Hid (Calls Tryz.prog 79 #[.pointer (some ⟨a.FR, 0, none⟩), .pointer (some ⟨ib, io, none⟩)] w fun e w' => e = .returned (.tuple #[]) ∧ StepOK T E E' a c G P M F w w')) :
    Calls Tryz.prog 48 #[.pointer (some ⟨a.FR, 0, none⟩), .pointer (some ⟨ib, io, none⟩)] w fun e w' => e = .returned (.tuple #[]) ∧ StepOK T E E' a c G P M F w w' := by
  have q0 := hi.cells.at 0 rfl
  rw [Nat.add_zero] at q0
  obtain ⟨FR, hFR⟩ : ∃ FR, a.FR = FR := ⟨_, rfl⟩
  rw [hFR] at HK ⊢
  unfold elemP at hop
  simp only [Bool.and_eq_true, decide_eq_true_eq] at hop
  have hop' : i.op = 3 ∨ i.op = 4 ∨ i.op = 5 ∨ i.op = 6 ∨ i.op = 7 ∨ i.op = 8 ∨ i.op = 9 ∨ i.op = 10 ∨ i.op = 11 ∨ i.op = 12 ∨ i.op = 13 ∨ i.op = 14 ∨ i.op = 15 := by omega
  clear x h hg hi ok hFR hop
  rcases hop' with e | e | e | e | e | e | e | e | e | e | e | e | e
  all_goals
    rw [e] at q0
    clear e
    go_enter Tryz.func48, Tryz.ntmps48
    go_wp2_with (go_at_call 79; refine HK.out.mono ?_; rintro e w1 ⟨rfl, hst⟩; have HST := hidM hst; clear hst)
    go_end0
    exact ⟨rfl, HST.out⟩

set_option maxRecDepth 100000 in
set_option maxHeartbeats 4000000 in
theorem do_mark {T : Nat → Prop} {E E' : Nat} {a : Lay} {c : Cd} {G P : List (List Int)} {X : Nat → Value} {M : Nat} {m : Nat → Option Value} {f : Fr} (w : World) (x : FX T E E' a c G P w) (h : FV T E E' a c w X M m f) (hg : Good c) (ok : OkF c f) (hM : M ≤ 1000000) (ib io : Nat) (i : Ins) (hi : InsT (mutT T E E') w ib io i)
    (hop : 34 ≤ i.op ∧ i.op ≤ 37) :
    Calls Tryz.prog 48 #[.pointer (some ⟨a.FR, 0, none⟩), .pointer (some ⟨ib, io, none⟩)] w fun e w' => e = .returned (.tuple #[]) ∧ StepOK T E E' a c G P M f w w' := by
  have q0 := hi.cells.at 0 rfl
  rw [Nat.add_zero] at q0
  have HST : Hid (StepOK T E E' a c G P M f w w) := StepOK.same x h (bel0 _)
  obtain ⟨FR, hFR⟩ : ∃ FR, a.FR = FR := ⟨_, rfl⟩
  rw [hFR]
  have hop' : i.op = 34 ∨ i.op = 35 ∨ i.op = 36 ∨ i.op = 37 := by omega
  clear x h hg hi ok hFR hop
  rcases hop' with e | e | e | e
  all_goals
    rw [e] at q0
    clear e
    go_enter Tryz.func48, Tryz.ntmps48
    go_wp2
    go_end0
    exact ⟨rfl, HST.out⟩

set_option maxRecDepth 100000 in
set_option maxHeartbeats 4000000 in
theorem do_load {T : Nat → Prop} {E E' : Nat} {a : Lay} {c : Cd} {G P : List (List Int)} {X : Nat → Value} {M : Nat} {m : Nat → Option Value} {f : Fr} (w : World) (x : FX T E E' a c G P w) (h : FV T E E' a c w X M m f) (hg : Good c) (ok : OkF c f) (hM : M ≤ 1000000) (ib io : Nat) (i : Ins) (hi : InsT (mutT T E E') w ib io i)
    (hop : i.op = 32) (d0 : 0 ≤ i.d) (d1 : i.d < (c.regs.length : Int)) (n0 : 0 ≤ i.n) (n1 : i.n < (c.slots.length : Int)) (h1 : (regT c.regs i.d).kind = 1 → ∀ hh, f.slots[i.n.toNat]? = some hh → hh.pats ≠ []) :
    Calls Tryz.prog 48 #[.pointer (some ⟨a.FR, 0, none⟩), .pointer (some ⟨ib, io, none⟩)] w fun e w' => e = .returned (.tuple #[]) ∧ StepOK T E E' a c G P M (stP c f i.d ((f.slots[i.n.toNat]?).getD ⟨[], 0⟩)) w w' := by
  have q0 := hi.cells.at 0 rfl
  rw [Nat.add_zero] at q0
  have q1 := hi.cells.at 1 rfl
  have q5 := hi.cells.at 5 rfl
  obtain ⟨op, D, A, B, Ec, nn, bt⟩ := i
  simp only at *
  subst hop
  obtain ⟨D, rfl⟩ : ∃ j : Nat, D = (j : Int) := ⟨D.toNat, by omega⟩
  obtain ⟨n, rfl⟩ : ∃ j : Nat, nn = (j : Int) := ⟨nn.toNat, by omega⟩
  rw [Int.toNat_natCast] at h1 ⊢
  have hD : D < c.regs.length := by omega
  have hn : n < c.slots.length := by omega
  have hnf : n < f.slots.length := by rw [h.slotsL]; exact hn
  rw [List.getElem?_eq_getElem hnf, Option.getD_some]
  have hp := h.slots.pats n hnf
  have hw := h.slots.whole n hnf
  have s1 := h.slots.row.cell (i := 2 * n) (by have := h.slots.le; omega)
  have s2 := h.slots.row.cell (i := 2 * n + 1) (by have := h.slots.le; omega)
  rw [hw] at s2
  have h1' : c.regs[D].kind = 1 → (f.slots[n]'hnf).pats ≠ [] := fun e => h1 (by rw [iregT_at hD]; exact e) _ (List.getElem?_eq_getElem hnf)
  obtain ⟨q, cap, hq⟩ := hp.len
  have HK : Hid (∀ v, Below w.heap.size w v → Calls Tryz.prog 77 #[.pointer (some ⟨a.FR, 0, none⟩), .int .i64 (D : Int), .agg #[.slice q (f.slots[n]'hnf).pats.length cap, .int .i64 (f.slots[n]'hnf).whole]] v fun e w' => e = .returned (.tuple #[]) ∧ StepOK T E E' a c G P M (stP c f D (f.slots[n]'hnf)) v w') := fun v hv => set_any v (x.below hv) (h.below hv) hg D hD hM q _ cap (f.slots[n]'hnf) (by rw [← hq]; exact hp.below hv) h1'
  rw [hq] at s1
  have f1 := x.f1
  have hsp : a.sp = some ⟨a.S, 0, none⟩ := by
    rcases h.slots.sp with e | e
    · rw [e] at hnf; exact absurd hnf (Nat.not_lt_zero _)
    · exact e
  rw [hsp] at f1
  rw [Nat.mul_comm 2 n] at s1 s2
  have hN := hg.slotsL
  obtain ⟨FR, hFR⟩ : ∃ FR, a.FR = FR := ⟨_, rfl⟩
  obtain ⟨Sb, hSb⟩ : ∃ Sb, a.S = Sb := ⟨_, rfl⟩
  obtain ⟨N, hN'⟩ : ∃ N, c.slots.length = N := ⟨_, rfl⟩
  obtain ⟨L, hL⟩ : ∃ L, (f.slots[n]'hnf).pats.length = L := ⟨_, rfl⟩
  obtain ⟨wh, hwh⟩ : ∃ wh, (f.slots[n]'hnf).whole = wh := ⟨_, rfl⟩
  obtain ⟨F, hF⟩ : ∃ F, stP c f D (f.slots[n]'hnf) = F := ⟨_, rfl⟩
  obtain ⟨sc, hsc⟩ : ∃ sc, a.sc = sc := ⟨_, rfl⟩
  have HKP : Hid (∀ v, StepOK T E E' a c G P M (stP c f D (f.slots[n]'hnf)) w v → v.cell? ⟨a.FR, 1, none⟩ = some (.slice (some ⟨a.S, 0, none⟩) c.slots.length a.sc) ∧ v.cell? ⟨ib, io + 1, none⟩ = some (.int .i64 (D : Int)) ∧ v.cell? ⟨ib, io + 5, none⟩ = some (.int .i64 (n : Int))) := by
    intro v hv
    have h1 := hv.1.f1
    rw [hsp] at h1
    have h2 := hi.un hv.2.2 (fun b _ e => x.sub b e)
    exact ⟨h1, h2.cells.at 1 rfl, h2.cells.at 5 rfl⟩
  simp only [hFR, hSb, hN', hL, hwh, hF, hsc] at f1 HK s1 s2 hN hn n1 HKP ⊢
  clear x h hg hi ok hp hw hq hsp h1 h1' hFR hSb hN' hL hwh hF hsc
  go_enter Tryz.func48, Tryz.ntmps48
  go_wp2
  refine wp_region_held_drew (S := (fun v => v.cell? ⟨FR, 1, none⟩ = some (.slice (some ⟨Sb, 0, none⟩) N sc) ∧ v.cell? ⟨ib, io + 1, none⟩ = some (.int .i64 (D : Int)) ∧ v.cell? ⟨ib, io + 5, none⟩ = some (.int .i64 (n : Int)))) (by kernel_rfl) ?_ (fun hHeld => ?_)
  · ((try dsimp only); go_keep)
  refine tkH (i := 0) (v := ?_) (hy := .inl ⟨by rfl, ?_⟩) (h := ?_)
  rotate_left 1
  · (intro wS hSw; (try dsimp only at hSw); go_simp; try (with_reducible rfl))
  try simp only [Act.put, List.setIfInBounds_toArray, List.set_cons_zero, List.set_cons_succ]
  refine tkH (i := 1) (v := ?_) (hy := .inl ⟨by rfl, ?_⟩) (h := ?_)
  rotate_left 1
  · (intro wS hSw; (try dsimp only at hSw); go_simp; try (with_reducible rfl))
  try simp only [Act.put, List.setIfInBounds_toArray, List.set_cons_zero, List.set_cons_succ]
  refine tkH (i := 2) (v := ?_) (hy := .inl ⟨by rfl, ?_⟩) (h := ?_)
  rotate_left 1
  · (intro wS hSw; (try dsimp only at hSw); go_simp; try (with_reducible rfl))
  try simp only [Act.put, List.setIfInBounds_toArray, List.set_cons_zero, List.set_cons_succ]
  refine tkH (i := 3) (v := ?_) (hy := .inl ⟨by rfl, ?_⟩) (h := ?_)
  rotate_left 1
  · (intro wS hSw; (try dsimp only at hSw); go_simp; try (with_reducible rfl))
  try simp only [Act.put, List.setIfInBounds_toArray, List.set_cons_zero, List.set_cons_succ]
  refine tkH (i := 4) (v := ?_) (hy := .inl ⟨by rfl, ?_⟩) (h := ?_)
  rotate_left 1
  · (intro wS hSw; (try dsimp only at hSw); go_simp; try (with_reducible rfl))
  try simp only [Act.put, List.setIfInBounds_toArray, List.set_cons_zero, List.set_cons_succ]
  refine tkH (i := 5) (v := ?_) (hy := .inl ⟨by rfl, ?_⟩) (h := ?_)
  rotate_left 1
  · (intro wS hSw; (try dsimp only at hSw); go_simp; try (with_reducible rfl))
  try simp only [Act.put, List.setIfInBounds_toArray, List.set_cons_zero, List.set_cons_succ]
  refine tkH (i := 6) (v := ?_) (hy := .inl ⟨by rfl, ?_⟩) (h := ?_)
  rotate_left 1
  · (intro wS hSw; (try dsimp only at hSw); go_simp; try (with_reducible rfl))
  try simp only [Act.put, List.setIfInBounds_toArray, List.set_cons_zero, List.set_cons_succ]
  refine tkH (i := 7) (v := ?_) (hy := .inl ⟨by rfl, ?_⟩) (h := ?_)
  rotate_left 1
  · (intro wS hSw; (try dsimp only at hSw); go_simp; try (with_reducible rfl))
  try simp only [Act.put, List.setIfInBounds_toArray, List.set_cons_zero, List.set_cons_succ]
  refine tkH (i := 8) (v := ?_) (hy := .inl ⟨by rfl, ?_⟩) (h := ?_)
  rotate_left 1
  · (intro wS hSw; (try dsimp only at hSw); go_simp; try (with_reducible rfl))
  try simp only [Act.put, List.setIfInBounds_toArray, List.set_cons_zero, List.set_cons_succ]
  refine tkH (i := 9) (v := ?_) (hy := .inl ⟨by rfl, ?_⟩) (h := ?_)
  rotate_left 1
  · (intro wS hSw; (try dsimp only at hSw); go_simp; try (with_reducible rfl))
  try simp only [Act.put, List.setIfInBounds_toArray, List.set_cons_zero, List.set_cons_succ]
  refine tkH (i := 10) (v := ?_) (hy := .inl ⟨by rfl, ?_⟩) (h := ?_)
  rotate_left 1
  · (intro wS hSw; (try dsimp only at hSw); go_simp; try (with_reducible rfl))
  try simp only [Act.put, List.setIfInBounds_toArray, List.set_cons_zero, List.set_cons_succ]
  refine tkH (i := 11) (v := ?_) (hy := .inl ⟨by rfl, ?_⟩) (h := ?_)
  rotate_left 1
  · (intro wS hSw; (try dsimp only at hSw); go_simp; try (with_reducible rfl))
  try simp only [Act.put, List.setIfInBounds_toArray, List.set_cons_zero, List.set_cons_succ]
  refine tkH (i := 12) (v := ?_) (hy := .inl ⟨by rfl, ?_⟩) (h := ?_)
  rotate_left 1
  · (intro wS hSw; (try dsimp only at hSw); go_simp; try (with_reducible rfl))
  try simp only [Act.put, List.setIfInBounds_toArray, List.set_cons_zero, List.set_cons_succ]
  refine tkH (i := 13) (v := ?_) (hy := .inl ⟨by rfl, ?_⟩) (h := ?_)
  rotate_left 1
  · (intro wS hSw; (try dsimp only at hSw); go_simp; try (with_reducible rfl))
  try simp only [Act.put, List.setIfInBounds_toArray, List.set_cons_zero, List.set_cons_succ]
  clear hHeld
  refine wpAnyH_ready (rs := [14]) (by kernel_rfl) (by simp) ?_
  refine AllReadyH.cons (i := 14) (by simp only [List.getElem?_toArray, List.getElem?_cons_succ, List.getElem?_cons_zero]; rfl) (fun K hK => ?_) AllReadyH.nil
  go_simp
  refine hK.out _ _ ?_ (fun hHeld => ?_)
  · ((try dsimp only); go_keep)
  clear hK K
  try simp only [Act.put, List.setIfInBounds_toArray, List.set_cons_zero, List.set_cons_succ]
  clear hHeld
  refine wpAnyH_ready (rs := [15]) (by kernel_rfl) (by simp) ?_
  refine AllReadyH.cons (i := 15) (by simp only [List.getElem?_toArray, List.getElem?_cons_succ, List.getElem?_cons_zero]; rfl) (fun K hK => ?_) AllReadyH.nil
  go_simp
  (go_at_call 77; refine (HK.out _ (bel_drew _)).mono ?_; rintro e w1 ⟨rfl, hst⟩; have HST := hidM (StepOK.pre (bel_drew _) hst); obtain ⟨y1, y2, y3⟩ := HKP.out w1 HST.out; clear hst)
  try (go_wp2_with fail)
  refine hK.out _ _ ?_ (fun hHeld => ?_)
  · ((try dsimp only); go_keep)
  clear hK K
  try simp only [Act.put, List.setIfInBounds_toArray, List.set_cons_zero, List.set_cons_succ]
  refine wpAnyH_done (by kernel_rfl) ?_ _
  go_wp2
  go_end0
  exact ⟨rfl, HST.out⟩

set_option maxRecDepth 100000 in
set_option maxHeartbeats 4000000 in
theorem do_store {T : Nat → Prop} {E E' : Nat} {a : Lay} {c : Cd} {G P : List (List Int)} {X : Nat → Value} {M : Nat} {m : Nat → Option Value} {f : Fr} (w : World) (x : FX T E E' a c G P w) (h : FV T E E' a c w X M m f) (hg : Good c) (ok : OkF c f) (hM : M ≤ 1000000) (ib io : Nat) (i : Ins) (hi : InsT (mutT T E E') w ib io i)
    (hop : i.op = 33) (a0 : 0 ≤ i.a) (a1 : i.a < (c.regs.length : Int)) (n0 : 0 ≤ i.n) (n1 : i.n < (c.slots.length : Int)) :
    Calls Tryz.prog 48 #[.pointer (some ⟨a.FR, 0, none⟩), .pointer (some ⟨ib, io, none⟩)] w fun e w' => e = .returned (.tuple #[]) ∧ StepOK T E E' a c G P M { f with slots := f.slots.set i.n.toNat (rdP c f i.a) } w w' := by
  have q0 := hi.cells.at 0 rfl
  rw [Nat.add_zero] at q0
  have q2 := hi.cells.at 2 rfl
  have q5 := hi.cells.at 5 rfl
  have hnot := hi.not
  obtain ⟨op, D, A, B, Ec, nn, bt⟩ := i
  simp only at *
  subst hop
  obtain ⟨A, rfl⟩ : ∃ j : Nat, A = (j : Int) := ⟨A.toNat, by omega⟩
  obtain ⟨n, rfl⟩ : ∃ j : Nat, nn = (j : Int) := ⟨nn.toNat, by omega⟩
  rw [Int.toNat_natCast]
  have hA : A < c.regs.length := by omega
  have hn : n < c.slots.length := by omega
  have hnf : n < f.slots.length := by rw [h.slotsL]; exact hn
  have HK : Hid (∀ v, Below w.heap.size w v → Calls Tryz.prog 78 #[.pointer (some ⟨a.FR, 0, none⟩), .int .i64 (A : Int)] v fun e w' => ∃ u, e = .returned (.agg #[u, .int .i64 (rdP c f A).whole]) ∧ Pt (mutT T E E') w' u (rdP c f A).pats ∧ Below v.heap.size v w') := fun v hv => iread_any v (x.below hv) (h.below hv) hg A hA
  have s1 := h.slots.row.cell (i := n * 2) (by have := h.slots.le; omega)
  have s2 := h.slots.row.cell (i := n * 2 + 1) (by have := h.slots.le; omega)
  have s3 := h.slots.row.frozen (n * 2)
  have s4 := h.slots.row.frozen (n * 2 + 1)
  obtain ⟨F, hF⟩ : ∃ F : Fr, ({ f with slots := f.slots.set n (rdP c f A) } : Fr) = F := ⟨_, rfl⟩
  have HFin : Hid (∀ v u, Below w.heap.size w v → Pt (mutT T E E') v u (rdP c f A).pats → StepOK T E E' a c G P M F w ((v.setCell ⟨a.S, n * 2, none⟩ u).setCell ⟨a.S, n * 2 + 1, none⟩ (.int .i64 (rdP c f A).whole))) := fun v u hv hu => by rw [← hF]; exact (StepOK.slot (x.below hv) (h.below hv) hnf hu).pre hv
  rw [hF]
  have f1 := x.f1
  have hsp : a.sp = some ⟨a.S, 0, none⟩ := by
    rcases h.slots.sp with e | e
    · rw [e] at hnf; exact absurd hnf (Nat.not_lt_zero _)
    · exact e
  rw [hsp] at f1
  have hN := hg.slotsL
  have m1 : a.S ≠ a.FR := by have := x.ltS; have := x.iFR; omega
  have m2 : a.S ≠ ib := fun e => hnot (by rw [← e]; exact .inl x.hS)
  obtain ⟨FR, hFR⟩ : ∃ FR, a.FR = FR := ⟨_, rfl⟩
  obtain ⟨Sb, hSb⟩ : ∃ Sb, a.S = Sb := ⟨_, rfl⟩
  obtain ⟨N, hN'⟩ : ∃ N, c.slots.length = N := ⟨_, rfl⟩
  obtain ⟨sc, hsc⟩ : ∃ sc, a.sc = sc := ⟨_, rfl⟩
  obtain ⟨wh, hwh⟩ : ∃ wh, (rdP c f A).whole = wh := ⟨_, rfl⟩
  obtain ⟨pt, hpt⟩ : ∃ pt, (rdP c f A).pats = pt := ⟨_, rfl⟩
  obtain ⟨x1, hx1⟩ : ∃ x1, X (n * 2) = x1 := ⟨_, rfl⟩
  obtain ⟨x2, hx2⟩ : ∃ x2, X (n * 2 + 1) = x2 := ⟨_, rfl⟩
  rw [hx1] at s1
  rw [hx2] at s2
  simp only [hFR, hSb, hN', hwh, hpt, hsc] at f1 HK HFin s1 s2 s3 s4 hN hn n1 m1 m2 ⊢
  clear x h hg hi ok hsp hFR hSb hN' hwh hpt hF hsc hx1 hx2 hnot
  go_enter Tryz.func48, Tryz.ntmps48
  go_wp2
  refine wp_region_held_drew (S := (fun v => v.cell? ⟨FR, 1, none⟩ = some (.slice (some ⟨Sb, 0, none⟩) N sc) ∧ v.cell? ⟨ib, io + 2, none⟩ = some (.int .i64 (A : Int)) ∧ v.cell? ⟨ib, io + 5, none⟩ = some (.int .i64 (n : Int)))) (by kernel_rfl) ?_ (fun hHeld => ?_)
  · ((try dsimp only); go_keep)
  refine tkH (i := 0) (v := ?_) (hy := .inl ⟨by rfl, ?_⟩) (h := ?_)
  rotate_left 1
  · (intro wS hSw; (try dsimp only at hSw); go_simp; try (with_reducible rfl))
  try simp only [Act.put, List.setIfInBounds_toArray, List.set_cons_zero, List.set_cons_succ]
  refine tkH (i := 1) (v := ?_) (hy := .inl ⟨by rfl, ?_⟩) (h := ?_)
  rotate_left 1
  · (intro wS hSw; (try dsimp only at hSw); go_simp; try (with_reducible rfl))
  try simp only [Act.put, List.setIfInBounds_toArray, List.set_cons_zero, List.set_cons_succ]
  refine tkH (i := 2) (v := ?_) (hy := .inl ⟨by rfl, ?_⟩) (h := ?_)
  rotate_left 1
  · (intro wS hSw; (try dsimp only at hSw); go_simp; try (with_reducible rfl))
  try simp only [Act.put, List.setIfInBounds_toArray, List.set_cons_zero, List.set_cons_succ]
  refine tkH (i := 3) (v := ?_) (hy := .inl ⟨by rfl, ?_⟩) (h := ?_)
  rotate_left 1
  · (intro wS hSw; (try dsimp only at hSw); go_simp; try (with_reducible rfl))
  try simp only [Act.put, List.setIfInBounds_toArray, List.set_cons_zero, List.set_cons_succ]
  refine tkH (i := 4) (v := ?_) (hy := .inl ⟨by rfl, ?_⟩) (h := ?_)
  rotate_left 1
  · (intro wS hSw; (try dsimp only at hSw); go_simp; try (with_reducible rfl))
  try simp only [Act.put, List.setIfInBounds_toArray, List.set_cons_zero, List.set_cons_succ]
  refine tkH (i := 5) (v := ?_) (hy := .inl ⟨by rfl, ?_⟩) (h := ?_)
  rotate_left 1
  · (intro wS hSw; (try dsimp only at hSw); go_simp; try (with_reducible rfl))
  try simp only [Act.put, List.setIfInBounds_toArray, List.set_cons_zero, List.set_cons_succ]
  refine tkH (i := 6) (v := ?_) (hy := .inl ⟨by rfl, ?_⟩) (h := ?_)
  rotate_left 1
  · (intro wS hSw; (try dsimp only at hSw); go_simp; try (with_reducible rfl))
  try simp only [Act.put, List.setIfInBounds_toArray, List.set_cons_zero, List.set_cons_succ]
  refine tkH (i := 7) (v := ?_) (hy := .inl ⟨by rfl, ?_⟩) (h := ?_)
  rotate_left 1
  · (intro wS hSw; (try dsimp only at hSw); go_simp; try (with_reducible rfl))
  try simp only [Act.put, List.setIfInBounds_toArray, List.set_cons_zero, List.set_cons_succ]
  refine tkH (i := 8) (v := ?_) (hy := .inl ⟨by rfl, ?_⟩) (h := ?_)
  rotate_left 1
  · (intro wS hSw; (try dsimp only at hSw); go_simp; try (with_reducible rfl))
  try simp only [Act.put, List.setIfInBounds_toArray, List.set_cons_zero, List.set_cons_succ]
  refine tkH (i := 9) (v := ?_) (hy := .inl ⟨by rfl, ?_⟩) (h := ?_)
  rotate_left 1
  · (intro wS hSw; (try dsimp only at hSw); go_simp; try (with_reducible rfl))
  try simp only [Act.put, List.setIfInBounds_toArray, List.set_cons_zero, List.set_cons_succ]
  refine tkH (i := 10) (v := ?_) (hy := .inl ⟨by rfl, ?_⟩) (h := ?_)
  rotate_left 1
  · (intro wS hSw; (try dsimp only at hSw); go_simp; try (with_reducible rfl))
  try simp only [Act.put, List.setIfInBounds_toArray, List.set_cons_zero, List.set_cons_succ]
  refine tkH (i := 11) (v := ?_) (hy := .inl ⟨by rfl, ?_⟩) (h := ?_)
  rotate_left 1
  · (intro wS hSw; (try dsimp only at hSw); go_simp; try (with_reducible rfl))
  try simp only [Act.put, List.setIfInBounds_toArray, List.set_cons_zero, List.set_cons_succ]
  refine tkH (i := 12) (v := ?_) (hy := .inl ⟨by rfl, ?_⟩) (h := ?_)
  rotate_left 1
  · (intro wS hSw; (try dsimp only at hSw); go_simp; try (with_reducible rfl))
  try simp only [Act.put, List.setIfInBounds_toArray, List.set_cons_zero, List.set_cons_succ]
  clear hHeld
  refine wpAnyH_ready (rs := [13]) (by kernel_rfl) (by simp) ?_
  refine AllReadyH.cons (i := 13) (by simp only [List.getElem?_toArray, List.getElem?_cons_succ, List.getElem?_cons_zero]; rfl) (fun K hK => ?_) AllReadyH.nil
  go_simp
  (go_at_call 78; refine (HK.out _ (bel_drew _)).mono ?_; rintro e w1 ⟨u, rfl, hu, hb1⟩; obtain ⟨uq, uc, hue⟩ := hu.len; obtain ⟨ul, hul⟩ : ∃ ul, pt.length = ul := ⟨_, rfl⟩; rw [hul] at hue; subst hue; have HB1 := bel (bel_drew _) hb1; have HST := hidM (HFin.out w1 _ HB1 hu); have z1 := kc HB1 f1; have z2 := kc HB1 q2; have z3 := kc HB1 q5; have z4 := kc HB1 s1; have z5 := kc HB1 s2; have z6 := kf HB1 s1 s3; have z7 := kf HB1 s2 s4; clear hb1 hu hul)
  try (go_wp2_with fail)
  refine hK.out _ _ ?_ (fun hHeld => ?_)
  · ((try dsimp only); go_keep)
  clear hK K
  try simp only [Act.put, List.setIfInBounds_toArray, List.set_cons_zero, List.set_cons_succ]
  refine tkH (i := 14) (v := ?_) (hy := .inl ⟨by rfl, ?_⟩) (h := ?_)
  rotate_left 1
  · (intro wS hSw; (try dsimp only at hSw); go_simp; try (with_reducible rfl))
  try simp only [Act.put, List.setIfInBounds_toArray, List.set_cons_zero, List.set_cons_succ]
  clear hHeld
  refine wpAnyH_ready (rs := [15]) (by kernel_rfl) (by simp) ?_
  refine AllReadyH.cons (i := 15) (by simp only [List.getElem?_toArray, List.getElem?_cons_succ, List.getElem?_cons_zero]; rfl) (fun K hK => ?_) AllReadyH.nil
  go_simp
  refine hK.out _ _ ?_ (fun hHeld => ?_)
  · ((try dsimp only); go_keep)
  clear hK K
  try simp only [Act.put, List.setIfInBounds_toArray, List.set_cons_zero, List.set_cons_succ]
  refine wpAnyH_done (by kernel_rfl) ?_ _
  go_wp2
  go_end0
  exact ⟨rfl, HST.out⟩

end Go.Proofs.YtholhpmnicibgaaGreat
/- Layer 17, plainly: what an instruction that may stand asks for is there. -/
namespace Go.Proofs.YtholhpmnicibgaaGreat
open Go.RowKit
set_option linter.unusedVariables false
set_option linter.unusedSimpArgs false

/-- A register that is set holds a vector of its parameter's length. -/
def SetOK (c : Cd) (f : Fr) (r : Nat) : Prop := (regT c.regs (r : Int)).kind = 3 → (f.vecs r).length = lenOf c (regT c.regs (r : Int)).par
theorem fits_in {rs : List Ty} {l n : Int} {m : Ty} (h : fitsReg rs l n m = true) (h0 : 0 < rs.length) : 0 ≤ n ∧ n < (rs.length : Int) := by
  by_cases hl : l = 0
  · unfold fitsReg at h
    rw [if_pos hl] at h
    simp only [beq_iff_eq] at h
    omega
  · exact fitsReg_lt h hl
theorem fits_means {rs : List Ty} {l n : Int} {m : Ty} (h : fitsReg rs l n m = true) (hl : l ≠ 0) : meansP l (regT rs n) m = true := by
  unfold fitsReg at h
  rw [if_neg hl] at h
  simp only [Bool.and_eq_true] at h
  exact h.2
theorem fitsC_n {c : Cd} {i : Ins} {r : Rw} (h : fitsC c i r = true) : fitsRest c i r.n (mainT c.regs i r) = true := by
  unfold fitsC at h; simp only [Bool.and_eq_true] at h; exact h.2.2.2.2
theorem read_set {s : Wk} {i : Ins} {r : Rw} (h : readOK s i r = true) {n : Int} (hn : n ∈ readsP i r) : n.toNat ∈ s.set := by
  unfold readOK at h
  have := List.all_eq_true.1 h n hn
  simpa using this
/-- What an instruction that is done asks for. -/
structure NeedI (c : Cd) (f : Fr) (i : Ins) : Prop where
  num : isNum i.op = true → 0 ≤ i.d ∧ i.d < (c.regs.length : Int) ∧ (i.op ≠ 1 → 0 ≤ i.a ∧ i.a < (c.regs.length : Int)) ∧ (i.op = 16 → 0 ≤ i.b ∧ i.b < (c.regs.length : Int)) ∧ (regT c.regs i.d).kind = 1
  whole : isWhole i.op = true → 0 ≤ i.d ∧ i.d < (c.regs.length : Int) ∧ (0 ≤ i.a ∧ i.a < (c.regs.length : Int)) ∧ (0 ≤ i.b ∧ i.b < (c.regs.length : Int)) ∧ (0 ≤ i.c ∧ i.c < (c.regs.length : Int)) ∧ (regT c.regs i.d).kind = 2 ∧ (i.op = 2 → 0 ≤ i.n ∧ i.n ≤ 2147483647)
  part : i.op = 29 ∨ i.op = 30 → PartOK c i.d i.n
  out : i.op = 31 → PartOK c i.a i.n ∧ (f.vecs i.a.toNat).length = lenOf c (regT c.regs i.a).par
  load : i.op = 32 → 0 ≤ i.d ∧ i.d < (c.regs.length : Int) ∧ 0 ≤ i.n ∧ i.n < (c.slots.length : Int) ∧ slotT c.slots i.n = regT c.regs i.d
  store : i.op = 33 → 0 ≤ i.a ∧ i.a < (c.regs.length : Int) ∧ 0 ≤ i.n ∧ i.n < (c.slots.length : Int) ∧ slotT c.slots i.n = regT c.regs i.a ∧ SetOK c f i.a.toNat
  elem : elemP i.op = true → 0 ≤ i.d ∧ i.d < (c.regs.length : Int) ∧ (0 ≤ i.a ∧ i.a < (c.regs.length : Int)) ∧ ∀ r ∈ readsP i (rowP i.op), 0 ≤ r ∧ r < (c.regs.length : Int) ∧ SetOK c f r.toNat ∧ (regT c.regs r = regT c.regs i.d ∨ ((regT c.regs r).kind = 1 ∧ (regT c.regs i.d).kind = 3))
theorem mem_a {i : Ins} {r : Rw} (h : r.a ≠ 0) : i.a ∈ readsP i r := by unfold readsP; simp [h]
theorem need_of {c : Cd} {f : Fr} {s : Wk} {i : Ins} (t : takesP c s i = true) (hs : ∀ r ∈ s.set, SetOK c f r) : NeedI c f i := by
  obtain ⟨_, h2, _, h4⟩ := takes_open t
  have hd := fitsC_d h2
  have ha := fitsC_a h2
  have hb := fitsC_b h2
  have hc := fitsC_c h2
  have hn := fitsC_n h2
  have hr := fun {n : Int} (hn : n ∈ readsP i (rowP i.op)) => hs _ (read_set h4 hn)
  obtain ⟨op, D, A, B, Ec, nn, bt⟩ := i
  simp only at *
  refine ⟨fun h => ?_, fun h => ?_, fun h => ?_, fun h => ?_, fun h => ?_, fun h => ?_, fun h => ?_⟩
  · unfold isNum at h
    simp only [Bool.or_eq_true, beq_iff_eq] at h
    have hop : op = 1 ∨ op = 16 ∨ op = 17 ∨ op = 19 ∨ op = 20 := by omega
    clear h
    rcases hop with rfl | rfl | rfl | rfl | rfl
    all_goals
      have d := fitsReg_lt hd (by decide)
      have dm := fits_means hd (by decide)
      have a1 := fits_in ha (by omega)
      have b1 := fits_in hb (by omega)
      exact ⟨d.1, d.2, fun _ => a1, fun _ => b1, by simpa [meansP, rowP] using dm⟩
  · unfold isWhole at h
    simp only [Bool.or_eq_true, Bool.and_eq_true, beq_iff_eq, decide_eq_true_eq] at h
    have hop : op = 2 ∨ op = 18 ∨ op = 21 ∨ op = 22 ∨ op = 23 ∨ op = 24 ∨ op = 25 ∨ op = 26 ∨ op = 27 ∨ op = 28 := by omega
    clear h
    rcases hop with rfl | rfl | rfl | rfl | rfl | rfl | rfl | rfl | rfl | rfl
    all_goals
      have d := fitsReg_lt hd (by decide)
      have dm := fits_means hd (by decide)
      have a1 := fits_in ha (by omega)
      have b1 := fits_in hb (by omega)
      have c1 := fits_in hc (by omega)
      refine ⟨d.1, d.2, a1, b1, c1, by simpa [meansP, rowP] using dm, fun e => ?_⟩
      simp [fitsRest, rowP, fitsN, wholeB] at hn
      show 0 ≤ nn ∧ nn ≤ 2147483647
      omega
  · rcases h with rfl | rfl
    all_goals
      have d := fitsReg_lt hd (by decide)
      have dm := fits_means hd (by decide)
      refine ⟨d.1, d.2, by simpa [meansP, rowP] using dm, ?_⟩
      simp [fitsRest, rowP, fitsN, mainT, mainR] at hn
      first | exact hn.2 | (simpa using hn.2)
  · subst h
    have d := fitsReg_lt ha (by decide)
    have dm := fits_means ha (by decide)
    have k3 : (regT c.regs A).kind = 3 := by simpa [meansP, rowP] using dm
    refine ⟨⟨d.1, d.2, k3, ?_⟩, ?_⟩
    · simp [fitsRest, rowP, fitsN, mainT, mainR] at hn
      first | exact hn.2 | (simpa using hn.2)
    · have := hr (n := A) (mem_a (r := rowP 31) (by decide))
      have e : ((A.toNat : Nat) : Int) = A := by omega
      unfold SetOK at this
      rw [e] at this
      exact this k3
  · subst h
    have d := fitsReg_lt hd (by decide)
    simp [fitsRest, rowP, fitsN, mainT, mainR] at hn
    have := isPl_iff.1 hn.2.1
    exact ⟨d.1, d.2, this.1, this.2, hn.2.2⟩
  · subst h
    have d := fitsReg_lt ha (by decide)
    simp [fitsRest, rowP, fitsN, mainT, mainR] at hn
    have := isPl_iff.1 hn.2.1
    exact ⟨d.1, d.2, this.1, this.2, hn.2.2, hr (n := A) (mem_a (r := rowP 33) (by decide))⟩
  · unfold elemP at h
    simp only [Bool.and_eq_true, decide_eq_true_eq] at h
    have hop : op = 3 ∨ op = 4 ∨ op = 5 ∨ op = 6 ∨ op = 7 ∨ op = 8 ∨ op = 9 ∨ op = 10 ∨ op = 11 ∨ op = 12 ∨ op = 13 ∨ op = 14 ∨ op = 15 := by omega
    clear h
    rcases hop with rfl | rfl | rfl | rfl | rfl | rfl | rfl | rfl | rfl | rfl | rfl | rfl | rfl
    all_goals
      have d := fitsReg_lt hd (by decide)
      have a1 := fitsReg_lt ha (by decide)
      refine ⟨d.1, d.2, a1, fun r hrr => ⟨?_, ?_, hr hrr, ?_⟩⟩
      all_goals
        have am := fits_means ha (by decide)
        simp [readsP, rowP] at hrr
        first
          | (have bm := fits_means hb (by decide)
             have b1 := fitsReg_lt hb (by decide)
             have cm := fits_means hc (by decide)
             have c1 := fitsReg_lt hc (by decide)
             simp [meansP, rowP, mainT, mainR] at am bm cm
             rcases hrr with rfl | rfl | rfl <;> first | omega | (simpa using am) | (simpa using bm) | (simpa using cm))
          | (have bm := fits_means hb (by decide)
             have b1 := fitsReg_lt hb (by decide)
             simp [meansP, rowP, mainT, mainR] at am bm
             rcases hrr with rfl | rfl <;> first | omega | (simpa using am) | (simpa using bm))
          | (simp [meansP, rowP, mainT, mainR] at am
             subst hrr
             first | omega | (simpa using am))

theorem isP_least' (X : Nat → Int) (n : Nat) (hX : ∀ i, IsP (X i)) : IsP (fleast X n) := foldx_lo isP_min (by unfold IsP; decide) hX n
theorem good_width1 {c : Cd} (hg : Good c) {r : Int} (h0 : 0 ≤ r) (h1 : r < (c.regs.length : Int)) (h3 : (regT c.regs r).kind = 3) : 1 ≤ lenOf c (regT c.regs r).par ∧ widthP c (regT c.regs r) = lenOf c (regT c.regs r).par := by
  obtain ⟨r, rfl⟩ : ∃ j : Nat, r = (j : Int) := ⟨r.toNat, by omega⟩
  have hr : r < c.regs.length := by omega
  rw [iregT_at hr] at h3 ⊢
  have hp := isPl_iff.1 (hg.type (List.getElem_mem hr) h3)
  obtain ⟨pp, hpp⟩ : ∃ pp, c.regs[r].par = pp := ⟨_, rfl⟩
  refine ⟨?_, by unfold widthP; rw [if_pos h3]⟩
  rw [hpp] at hp ⊢
  obtain ⟨p, rfl⟩ : ∃ j : Nat, pp = (j : Int) := ⟨pp.toNat, by omega⟩
  obtain ⟨_, e2, e3, _⟩ := numAt_eq hg (p := p) (by omega)
  omega
/-- What a register holds, by its type. -/
theorem rd_ok {c : Cd} {f : Fr} (hg : Good c) (ok : OkF c f) {r : Int} (h0 : 0 ≤ r) (h1 : r < (c.regs.length : Int)) (hs : SetOK c f r.toNat) : HdOK c (regT c.regs r) (rdP c f r) := by
  have e : ((r.toNat : Nat) : Int) = r := by omega
  unfold SetOK at hs
  rw [e] at hs
  have hty : (regT c.regs r).kind = 1 ∨ (regT c.regs r).kind = 2 ∨ (regT c.regs r).kind = 3 := by
    obtain ⟨r, rfl⟩ : ∃ j : Nat, r = (j : Int) := ⟨r.toNat, by omega⟩
    have hr : r < c.regs.length := by omega
    rw [iregT_at hr]
    have := hg.regs _ (List.getElem_mem hr)
    unfold typeMay at this
    split at this
    · omega
    · split at this
      · omega
      · cases this
  unfold rdP HdOK
  rcases hty with h | h | h
  · rw [if_pos h]
    refine ⟨by unfold widthP; rw [if_neg (by omega), if_pos h]; rfl, fun y hy => ?_, Int.le_refl _, by show (0 : Int) ≤ 2147483647; decide⟩
    simp at hy
    rw [hy]
    exact ok.nums _
  · rw [if_neg (by omega), if_pos h]
    exact ⟨by unfold widthP; rw [if_neg (by omega), if_neg (by omega)]; rfl, fun y hy => by simp at hy, ok.whs _⟩
  · rw [if_neg (by omega), if_neg (by omega)]
    refine ⟨?_, ok.vecs _, Int.le_refl _, by show (0 : Int) ≤ 2147483647; decide⟩
    rw [(good_width1 hg h0 h1 h).2]
    exact hs h
theorem app_isP {op : Int} {args : List (List Int)} (h : ∀ l ∈ args, ∀ y ∈ l, IsP y) : ∀ y ∈ appP op args, IsP y := by
  have hX : ∀ i j, IsP (xF args i j) := fun i j => by
    unfold xF
    refine isP_atL ?_ j
    by_cases hik : i < args.length
    · rw [vecAt_at hik]; exact h _ (List.getElem_mem hik)
    · unfold vecAt; rw [List.getElem?_eq_none (by omega)]; intro y hy; cases hy
  intro y hy
  unfold appP at hy
  split at hy
  · simp only [List.mem_map] at hy
    obtain ⟨k, _, rfl⟩ := hy
    exact isP_opf _ _ _ _ (isP_elAt hX _ _ _) (isP_elAt hX _ _ _) (isP_elAt hX _ _ _)
  · cases hy
/-- An elementwise instruction's arguments. -/
theorem elem_args {c : Cd} {f : Fr} {i : Ins} (hg : Good c) (ok : OkF c f) (he : elemP i.op = true) (nd : NeedI c f i) (hk : (regT c.regs i.d).kind ≠ 2) :
    1 ≤ widthP c (regT c.regs i.d) ∧ (∀ r ∈ readsP i (rowP i.op), 0 ≤ r ∧ r < (c.regs.length : Int) ∧ ((rdP c f r).pats.length = 1 ∨ (rdP c f r).pats.length = widthP c (regT c.regs i.d)) ∧ ∀ y ∈ (rdP c f r).pats, IsP y) ∧ ((regT c.regs i.d).kind = 1 ∨ (regT c.regs i.d).kind = 3) := by
  obtain ⟨d0, d1, _, hr⟩ := nd.elem he
  have hty : (regT c.regs i.d).kind = 1 ∨ (regT c.regs i.d).kind = 3 := by
    obtain ⟨r, hrr⟩ : ∃ j : Nat, i.d = (j : Int) := ⟨i.d.toNat, by omega⟩
    rw [hrr] at hk d1 ⊢
    have hr : r < c.regs.length := by omega
    rw [iregT_at hr] at hk ⊢
    have := hg.regs _ (List.getElem_mem hr)
    unfold typeMay at this
    split at this
    · omega
    · split at this
      · omega
      · cases this
  refine ⟨?_, fun r hm => ?_, hty⟩
  · rcases hty with h | h
    · unfold widthP; rw [if_neg (by omega), if_pos h]; exact Nat.le_refl _
    · rw [(good_width1 hg d0 d1 h).2]; exact (good_width1 hg d0 d1 h).1
  · obtain ⟨r0, r1, hs, hm2⟩ := hr r hm
    have hh := rd_ok hg ok r0 r1 hs
    refine ⟨r0, r1, ?_, hh.2.1⟩
    rcases hm2 with e | ⟨e, _⟩
    · right; rw [← e]; exact hh.1
    · left; rw [hh.1]; unfold widthP; rw [if_neg (by omega), if_pos e]
theorem elem_shape {c : Cd} {f : Fr} {i : Ins} (hg : Good c) (ok : OkF c f) (he : elemP i.op = true) (nd : NeedI c f i) (hk : (regT c.regs i.d).kind ≠ 2) :
    ((appP i.op (argsP c f i)).length = 1 ∨ (appP i.op (argsP c f i)).length = widthP c (regT c.regs i.d)) ∧ ∀ y ∈ appP i.op (argsP c f i), IsP y := by
  obtain ⟨h1, h2, _⟩ := elem_args hg ok he nd hk
  have hall : ∀ l ∈ argsP c f i, (l.length = 1 ∨ l.length = widthP c (regT c.regs i.d)) ∧ ∀ y ∈ l, IsP y := by
    intro l hl
    unfold argsP at hl
    simp only [List.mem_map] at hl
    obtain ⟨r, hr, rfl⟩ := hl
    exact (h2 r hr).2.2
  have hne : (argsP c f i).length ≠ 0 := by
    unfold argsP
    rw [List.length_map, ← (takes_reads i he).1]
    exact (takes_reads i he).2
  obtain ⟨n, hn, hn2⟩ := ishp_good (l := lF (argsP c f i)) h1 ((argsP c f i).length - 1) (fun k hk => by
    unfold lF
    rw [vecAt_at (by omega)]
    exact (hall _ (List.getElem_mem _)).1)
  exact ⟨by rw [(app_len (op := i.op) hn).1]; exact hn2, app_isP fun l hl => (hall l hl).2⟩
theorem isP_head {l : List Int} (h : ∀ y ∈ l, IsP y) : IsP (l.headD 0) := by
  cases l with
  | nil => exact isP_0
  | cons y l => exact h y (by simp)
/-- A register is set to what is of its type. -/
theorem st_ok {c : Cd} {f : Fr} (ok : OkF c f) {r : Int} {h : Hd} (hp : ∀ y ∈ h.pats, IsP y) (hl : h.pats.length ≤ 4096) (hw : 0 ≤ h.whole ∧ h.whole ≤ 2147483647) : OkF c (stP c f r h) := by
  unfold stP
  split
  · exact ⟨putN_all ok.nums (isP_head hp), ok.whs, ok.vecs, ok.vecsL, ok.slotsL, ok.slots⟩
  · split
    · exact ⟨ok.nums, putN_all (Q := fun y : Int => 0 ≤ y ∧ y ≤ 2147483647) ok.whs hw, ok.vecs, ok.vecsL, ok.slotsL, ok.slots⟩
    · exact ⟨ok.nums, ok.whs, putN_all (Q := fun l : List Int => ∀ y ∈ l, IsP y) ok.vecs hp, putN_all (Q := fun l : List Int => l.length ≤ 4096) ok.vecsL hl, ok.slotsL, ok.slots⟩
theorem st_set {c : Cd} {f : Fr} {r : Int} (hr : 0 ≤ r) {h : Hd} (hl : (regT c.regs r).kind = 3 → h.pats.length = lenOf c (regT c.regs r).par) {k : Nat} (hk : k ≠ r.toNat → SetOK c f k) : SetOK c (stP c f r h) k := by
  intro h3
  by_cases e : k = r.toNat
  · have e2 : (k : Int) = r := by omega
    rw [e2] at h3 ⊢
    unfold stP
    rw [if_neg (by omega), if_neg (by omega)]
    simp only
    rw [e, putN_at]
    exact hl h3
  · have := hk e h3
    unfold stP
    split
    · exact this
    · split
      · exact this
      · simp only
        rw [putN_ne _ _ e]
        exact this

end Go.Proofs.YtholhpmnicibgaaGreat
