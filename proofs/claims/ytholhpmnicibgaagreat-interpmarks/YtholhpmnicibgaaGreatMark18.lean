import Derived.Test.YtholhpmnicibgaaGreatMark1
import Derived.Test.YtholhpmnicibgaaGreatMark17
import Derived.Test.YtholhpmnicibgaaGreatMark10
/- Package interp: elementwise instructions. -/
namespace Go.Proofs.YtholhpmnicibgaaGreat
open Go.RowKit
set_option linter.unusedVariables false
set_option linter.unusedSimpArgs false

def slP : Value → Option Addr
  | .slice p _ _ => p
  | _ => none
def slCap : Value → Nat
  | .slice _ _ c => c
  | _ => 0
theorem vecAt_at {L : List (List Int)} {k : Nat} (h : k < L.length) : vecAt L k = L[k] := by unfold vecAt; rw [List.getElem?_eq_getElem h]; rfl
theorem lsts_of {T : Nat → Prop} {w : World} {g : Nat} {vals : List Value} {args : List (List Int)} (hv : vals.length = args.length) (hc : ∀ (k : Nat) (u : Value), vals[k]? = some u → w.cell? ⟨g, k, none⟩ = some u) (hp : ∀ k (h1 : k < vals.length) (h2 : k < args.length), Pt T w vals[k] args[k]) :
    Lsts .u32 w (some ⟨g, 0, none⟩) args.length (fun k => slP ((vals[k]?).getD (.slice none 0 0))) (lF args) (fun k => slCap ((vals[k]?).getD (.slice none 0 0))) (xF args) := by
  refine ⟨.inr ⟨g, 0, rfl, fun k hk => ?_⟩, fun k hk => ?_⟩
  · have hk' : k < vals.length := by omega
    obtain ⟨p, c, e⟩ := (hp k hk' hk).len
    rw [Nat.zero_add, hc k vals[k] (List.getElem?_eq_getElem hk')]
    simp only [List.getElem?_eq_getElem hk', Option.getD_some, e, slP, slCap, lF, vecAt_at hk]
  · have hk' : k < vals.length := by omega
    have := hp k hk' hk
    obtain ⟨p, c, e⟩ := this.len
    rw [e] at this
    have h2 := this.reads.2
    simp only [List.getElem?_eq_getElem hk', Option.getD_some, e, slP, lF, xF, vecAt_at hk]
    exact h2
/-- Lengths 1 and W go together. -/
theorem ishp_good {l : Nat → Nat} {W : Nat} (hW : 1 ≤ W) : ∀ M, (∀ i, i ≤ M → l i = 1 ∨ l i = W) → ∃ n, shpV l M = some n ∧ (n = 1 ∨ n = W) := by
  intro M
  induction M with
  | zero => intro h; exact ⟨l 0, rfl, h 0 (Nat.le_refl _)⟩
  | succ M ih =>
    intro h
    obtain ⟨n, h1, h2⟩ := ih fun i hi => h i (by omega)
    rw [shp_succ h1]
    have h3 := h (M + 1) (Nat.le_refl _)
    by_cases e1 : l (M + 1) = n
    · exact ⟨n, if_pos e1, h2⟩
    · rw [if_neg e1, if_neg (by omega)]
      by_cases e2 : n = 1
      · rw [if_pos e2]; exact ⟨_, rfl, h3⟩
      · rw [if_neg e2]
        by_cases e3 : l (M + 1) = 1
        · rw [if_pos e3]; exact ⟨_, rfl, h2⟩
        · omega
theorem takes_reads (i : Ins) (h : elemP i.op = true) : takes i.op = (readsP i (rowP i.op)).length ∧ takes i.op ≠ 0 := by
  unfold elemP at h
  simp only [Bool.and_eq_true, decide_eq_true_eq] at h
  have : i.op = 3 ∨ i.op = 4 ∨ i.op = 5 ∨ i.op = 6 ∨ i.op = 7 ∨ i.op = 8 ∨ i.op = 9 ∨ i.op = 10 ∨ i.op = 11 ∨ i.op = 12 ∨ i.op = 13 ∨ i.op = 14 ∨ i.op = 15 := by omega
  obtain ⟨op, D, A, B, E, n, b⟩ := i
  simp only at this ⊢
  rcases this with rfl | rfl | rfl | rfl | rfl | rfl | rfl | rfl | rfl | rfl | rfl | rfl | rfl <;> exact ⟨rfl, by decide⟩
/-- What an elementwise instruction tells. -/
theorem app_len {op : Int} {args : List (List Int)} {n : Nat} (h : shpV (lF args) (args.length - 1) = some n) : (appP op args).length = n ∧ ∀ j, j < n → atL (appP op args) j = opf op (elAt (lF args) (xF args) args.length j 0) (elAt (lF args) (xF args) args.length j 1) (elAt (lF args) (xF args) args.length j 2) := by
  unfold appP
  rw [h]
  simp only
  exact ⟨by simp, fun j hj => atL_map (α := Int) _ _ _ hj⟩

theorem hidM {p : Prop} (h : p) : Hid p := h
/-- Blocks of T, and a slice's own. -/
def avT (T : Nat → Prop) (v : Value) : Nat → Prop := fun b => T b ∨ v.ownBlock = some b
theorem Pt.grown {T : Nat → Prop} {v v' u : Value} {w w' : World} {l : List Int} (h : Pt (avT T v) w u l) (hg : w.grownBy w' v.ownBlock) (ha : v'.ownBlock = v.ownBlock ∨ v'.ownBlock = some w.heap.size) : Pt (avT T v') w' u l := by
  obtain ⟨p, c, hv, h⟩ := h
  refine ⟨p, c, hv, h.imp id fun ⟨b, o, hp, ht, hb, h⟩ => ⟨b, o, hp, ?_, Nat.lt_of_lt_of_le hb hg.size, fun i hi => (h i hi).of_block (hg.block b hb fun e => ht (.inr e.symm))⟩⟩
  rintro (k | k)
  · exact ht (.inl k)
  · rcases ha with e | e
    · exact ht (.inr (e ▸ k))
    · rw [e] at k
      simp at k
      omega

/-- Apply of these arguments. -/
def apply_okP (op : Int) (ag m acap n : Nat) (args : List (List Int)) (w : World) : Prop := ∀ v, Below w.heap.size w v → Calls Tryz.prog 122 #[.int .i64 op, .slice (some ⟨ag, 0, none⟩) m acap] v fun e w' => ∃ g, e = .returned (.tuple #[.slice (some ⟨g, 0, none⟩) n n, .int .i64 0]) ∧ v.heap.size ≤ g ∧ w'.rowIs g 43 n (fun i => .int .u32 (opf op (elAt (lF args) (xF args) args.length i 0) (elAt (lF args) (xF args) args.length i 1) (elAt (lF args) (xF args) args.length i 2))) ∧ Below v.heap.size v w'

set_option maxRecDepth 100000 in
set_option maxHeartbeats 4000000 in
theorem elem_rest {T : Nat → Prop} {E E' : Nat} {a : Lay} {c : Cd} {G P : List (List Int)} {X : Nat → Value} {M : Nat} {m : Nat → Option Value} {f : Fr} (w : World) (x : FX T E E' a c G P w) (h : FV T E E' a c w X M m f) (hg : Good c) (ok : OkF c f) (hM : M ≤ 1000000) (ib io : Nat) (i : Ins) (hi : InsT (mutT T E E') w ib io i)
    (hel : elemP i.op = true) (d0 : 0 ≤ i.d) (d1 : i.d < (c.regs.length : Int)) (hk : (regT c.regs i.d).kind ≠ 2) (hW : 1 ≤ widthP c (regT c.regs i.d)) (hargs : ∀ r ∈ readsP i (rowP i.op), 0 ≤ r ∧ r < (c.regs.length : Int) ∧ ((rdP c f r).pats.length = 1 ∨ (rdP c f r).pats.length = widthP c (regT c.regs i.d)) ∧ ∀ y ∈ (rdP c f r).pats, IsP y) :
    Calls Tryz.prog 79 #[.pointer (some ⟨a.FR, 0, none⟩), .pointer (some ⟨ib, io, none⟩)] w fun e w' => e = .returned (.tuple #[]) ∧ StepOK T E E' a c G P M (elemI c f i) w w' := by
  have HEq : Hid (elemI c f i = stP c f i.d ⟨if (appP i.op (argsP c f i)).length < widthP c (regT c.regs i.d) then fillP c (regT c.regs i.d) ((appP i.op (argsP c f i)).headD 0) else appP i.op (argsP c f i), 0⟩) := by
    show elemI c f i = _
    unfold elemI
    rw [if_neg hk]
  obtain ⟨F, hF⟩ : ∃ F, elemI c f i = F := ⟨_, rfl⟩
  rw [hF] at HEq ⊢
  have HRe : Hid (∀ v, Calls Tryz.prog 121 #[insV i] v fun e w' => ∃ u, e = .returned u ∧ w'.ownsRow v.heap.size 3 1 u (readsP i (rowP i.op)).length (i64s (readsP i (rowP i.op))) ∧ Below v.heap.size v w') := fun v => reads_any i v
  obtain ⟨ht1, ht2⟩ := takes_reads i hel
  have ht3 := takes_le i.op
  have q0 := hi.cells.at 0 rfl
  rw [Nat.add_zero] at q0
  have q1 := hi.cells.at 1 rfl
  have q2 := hi.cells.at 2 rfl
  have q3 := hi.cells.at 3 rfl
  have q4 := hi.cells.at 4 rfl
  have q5 := hi.cells.at 5 rfl
  have q6 := hi.cells.at 6 rfl
  obtain ⟨RL, hRL⟩ : ∃ RL, readsP i (rowP i.op) = RL := ⟨_, rfl⟩
  have HArgs : Hid (argsP c f i = RL.map fun r => (rdP c f r).pats) := by rw [← hRL]; exact rfl
  rw [hRL] at HRe ht1 hargs
  obtain ⟨op, D, A, B, Ec, nn, bt⟩ := i
  unfold insV at HRe
  simp only at *
  obtain ⟨D, rfl⟩ : ∃ j : Nat, D = (j : Int) := ⟨D.toNat, by omega⟩
  have hD : D < c.regs.length := by omega
  rw [iregT_at hD] at HEq hk hW hargs
  have f0 := x.f0
  have c1 := x.code.c1
  obtain ⟨b1, o1, m1, hv1, r0, r1⟩ := x.code.reg hD
  rw [hv1] at c1
  have hN := hg.regsL
  have HRd : Hid (∀ v, Below w.heap.size w v → ∀ r ∈ RL, Calls Tryz.prog 78 #[.pointer (some ⟨a.FR, 0, none⟩), .int .i64 r] v fun e w' => ∃ u, e = .returned (.agg #[u, .int .i64 (rdP c f r).whole]) ∧ Pt (midT (mutT T E E') w.heap.size v.heap.size) w' u (rdP c f r).pats ∧ Below v.heap.size v w') := by
    intro v hv r hr
    obtain ⟨g0, g1, -⟩ := hargs r hr
    obtain ⟨r, rfl⟩ : ∃ j : Nat, r = (j : Int) := ⟨r.toNat, by omega⟩
    exact iread_at w v x h hg hv r (by omega)
  obtain ⟨⟨kk, pp⟩, htt⟩ : ∃ t, c.regs[D] = t := ⟨_, rfl⟩
  have hpl : kk = 3 → isPl pp c.sign.length = true := fun e => by
    have := hg.type (List.getElem_mem hD) (by rw [htt]; exact e)
    rw [htt] at this
    exact this
  rw [htt] at r0 r1 HEq hk hW hargs
  simp only at r0 r1 hk
  have HWd : Hid (∀ v, Below w.heap.size w v → Calls Tryz.prog 62 #[.pointer (some ⟨a.C, 0, none⟩), .agg #[.int .i64 kk, .int .i64 pp]] v fun e w' => e = .returned (.int .i64 (widthP c ⟨kk, pp⟩ : Nat)) ∧ Below v.heap.size v w') := fun v hv => width_any a c ⟨kk, pp⟩ v (x.code.below hv) hpl fun p hp => by have := (hg.len p hp).1; omega
  have HFl : Hid (∀ v y, Below w.heap.size w v → IsP y → Calls Tryz.prog 36 #[.pointer (some ⟨a.C, 0, none⟩), .agg #[.int .i64 kk, .int .i64 pp], .int .u32 y] v fun e w' => ∃ g, e = .returned (.slice (some ⟨g, 0, none⟩) (widthP c ⟨kk, pp⟩) (widthP c ⟨kk, pp⟩)) ∧ v.heap.size ≤ g ∧ w'.rowIs g 43 (widthP c ⟨kk, pp⟩) (fun _ => .int .u32 (canon y)) ∧ Below v.heap.size v w') := fun v y hv hy => filled_any a c hg ⟨kk, pp⟩ y hy v (x.code.below hv) hpl
  have HSt : Hid (∀ v q L cap l, Below w.heap.size w v → Pt (mutT T E E') v (.slice q L cap) l → l ≠ [] → Calls Tryz.prog 77 #[.pointer (some ⟨a.FR, 0, none⟩), .int .i64 (D : Int), .agg #[.slice q L cap, .int .i64 0]] v fun e w' => e = .returned (.tuple #[]) ∧ StepOK T E E' a c G P M (stP c f D ⟨l, 0⟩) v w') := fun v q L cap l hv hp hn => set_any v (x.below hv) (h.below hv) hg D hD hM q L cap ⟨l, 0⟩ hp (fun _ => hn)
  have HX : Hid (FX T E E' a c G P w) := x
  have HAr : Hid (∀ r ∈ RL, ((rdP c f r).pats.length = 1 ∨ (rdP c f r).pats.length = widthP c ⟨kk, pp⟩) ∧ ∀ y ∈ (rdP c f r).pats, IsP y) := fun r hr => (hargs r hr).2.2
  obtain ⟨m', hm'⟩ : ∃ m', RL.length = m' := ⟨_, rfl⟩
  have n1 : w.heap.size ≠ a.FR := by have := x.iFR; have := x.hE'; omega
  have n2 : w.heap.size ≠ a.C := by have := x.code.ltC; omega
  have n3 : w.heap.size ≠ ib := by have := hi.lt; omega
  have n4 : w.heap.size ≠ b1 := by have := mcell_lt r0; simp at this; omega
  obtain ⟨FR, hFR⟩ : ∃ FR, a.FR = FR := ⟨_, rfl⟩
  obtain ⟨C, hC⟩ : ∃ C, a.C = C := ⟨_, rfl⟩
  obtain ⟨N, hN'⟩ : ∃ N, c.regs.length = N := ⟨_, rfl⟩
  obtain ⟨Wd, hWd⟩ : ∃ Wd, widthP c ⟨kk, pp⟩ = Wd := ⟨_, rfl⟩
  have hWd4 := hg.width ⟨kk, pp⟩
  simp only [hFR, hC, hN', hm', hWd] at HRe HRd HWd HFl HSt HAr n1 n2 f0 c1 hN hD d1 ht1 hW hWd4 ⊢
  have HWD : Hid (widthP c ⟨kk, pp⟩ = Wd) := hWd
  have HML : Hid (RL.length = m') := hm'
  have e2 : (kk == 2) = false := by simpa using hk
  clear x h hg ok hi hel hRL hargs hpl htt hv1 hFR hC hN' hWd hm' hF hk
  go_enter Tryz.func79, Tryz.ntmps79
  go_wp2
  refine wp_region_held_drew (S := (fun v => v.cell? ⟨FR, 0, none⟩ = some (.pointer (some ⟨C, 0, none⟩)) ∧ v.cell? ⟨C, 1, none⟩ = some (.slice (some ⟨b1, o1, none⟩) N m1) ∧ v.cell? ⟨ib, io + 1, none⟩ = some (.int .i64 (D : Int)) ∧ v.cell? ⟨b1, o1 + D * 2, none⟩ = some (.int .i64 kk) ∧ v.cell? ⟨b1, o1 + D * 2 + 1, none⟩ = some (.int .i64 pp))) (by kernel_rfl) ?_ (fun hHeld => ?_)
  · ((try dsimp only); go_keep)
  refine tkH (i := 0) (v := ?_) (hy := .inl ⟨by rfl, ?_⟩) (h := ?_)
  rotate_left 1
  · (intro wS hSw; (try dsimp only at hSw); go_simp; try (with_reducible rfl))
  try simp only [Act.put, List.setIfInBounds_toArray, List.set_cons_zero, List.set_cons_succ]
  refine tkH (i := 1) (v := ?_) (hy := .inl ⟨by rfl, ?_⟩) (h := ?_)
  rotate_left 1
  · (intro wS hSw; (try dsimp only at hSw); go_simp; try (with_reducible rfl))
  try simp only [Act.put, List.setIfInBounds_toArray, List.set_cons_zero, List.set_cons_succ]
  refine tkH (i := 2) (v := ?_) (hy := .inl ⟨by rfl, ?_⟩) (h := ?_)
  rotate_left 1
  · (intro wS hSw; (try dsimp only at hSw); go_simp; try (with_reducible rfl))
  try simp only [Act.put, List.setIfInBounds_toArray, List.set_cons_zero, List.set_cons_succ]
  refine tkH (i := 3) (v := ?_) (hy := .inl ⟨by rfl, ?_⟩) (h := ?_)
  rotate_left 1
  · (intro wS hSw; (try dsimp only at hSw); go_simp; try (with_reducible rfl))
  try simp only [Act.put, List.setIfInBounds_toArray, List.set_cons_zero, List.set_cons_succ]
  refine tkH (i := 4) (v := ?_) (hy := .inl ⟨by rfl, ?_⟩) (h := ?_)
  rotate_left 1
  · (intro wS hSw; (try dsimp only at hSw); go_simp; try (with_reducible rfl))
  try simp only [Act.put, List.setIfInBounds_toArray, List.set_cons_zero, List.set_cons_succ]
  refine tkH (i := 5) (v := ?_) (hy := .inl ⟨by rfl, ?_⟩) (h := ?_)
  rotate_left 1
  · (intro wS hSw; (try dsimp only at hSw); go_simp; try (with_reducible rfl))
  try simp only [Act.put, List.setIfInBounds_toArray, List.set_cons_zero, List.set_cons_succ]
  refine tkH (i := 6) (v := ?_) (hy := .inl ⟨by rfl, ?_⟩) (h := ?_)
  rotate_left 1
  · (intro wS hSw; (try dsimp only at hSw); go_simp; try (with_reducible rfl))
  try simp only [Act.put, List.setIfInBounds_toArray, List.set_cons_zero, List.set_cons_succ]
  refine tkH (i := 7) (v := ?_) (hy := .inl ⟨by rfl, ?_⟩) (h := ?_)
  rotate_left 1
  · (intro wS hSw; (try dsimp only at hSw); go_simp; try (with_reducible rfl))
  try simp only [Act.put, List.setIfInBounds_toArray, List.set_cons_zero, List.set_cons_succ]
  refine tkH (i := 8) (v := ?_) (hy := .inl ⟨by rfl, ?_⟩) (h := ?_)
  rotate_left 1
  · (intro wS hSw; (try dsimp only at hSw); go_simp; try (with_reducible rfl))
  try simp only [Act.put, List.setIfInBounds_toArray, List.set_cons_zero, List.set_cons_succ]
  refine tkH (i := 9) (v := ?_) (hy := .inl ⟨by rfl, ?_⟩) (h := ?_)
  rotate_left 1
  · (intro wS hSw; (try dsimp only at hSw); go_simp; try (with_reducible rfl))
  try simp only [Act.put, List.setIfInBounds_toArray, List.set_cons_zero, List.set_cons_succ]
  refine tkH (i := 10) (v := ?_) (hy := .inl ⟨by rfl, ?_⟩) (h := ?_)
  rotate_left 1
  · (intro wS hSw; (try dsimp only at hSw); go_simp; try (with_reducible rfl))
  try simp only [Act.put, List.setIfInBounds_toArray, List.set_cons_zero, List.set_cons_succ]
  refine tkH (i := 11) (v := ?_) (hy := .inl ⟨by rfl, ?_⟩) (h := ?_)
  rotate_left 1
  · (intro wS hSw; (try dsimp only at hSw); go_simp; try (with_reducible rfl))
  try simp only [Act.put, List.setIfInBounds_toArray, List.set_cons_zero, List.set_cons_succ]
  refine tkH (i := 12) (v := ?_) (hy := .inl ⟨by rfl, ?_⟩) (h := ?_)
  rotate_left 1
  · (intro wS hSw; (try dsimp only at hSw); go_simp; try (with_reducible rfl))
  try simp only [Act.put, List.setIfInBounds_toArray, List.set_cons_zero, List.set_cons_succ]
  clear hHeld
  refine wpAnyH_ready (rs := [13]) (by kernel_rfl) (by simp) ?_
  refine AllReadyH.cons (i := 13) (by simp only [List.getElem?_toArray, List.getElem?_cons_succ, List.getElem?_cons_zero]; rfl) (fun K hK => ?_) AllReadyH.nil
  go_simp
  refine hK.out _ _ ?_ (fun hHeld => ?_)
  · ((try dsimp only); go_keep)
  clear hK K
  try simp only [Act.put, List.setIfInBounds_toArray, List.set_cons_zero, List.set_cons_succ]
  clear hHeld
  refine wpAnyH_ready (rs := [14]) (by kernel_rfl) (by simp) ?_
  refine AllReadyH.cons (i := 14) (by simp only [List.getElem?_toArray, List.getElem?_cons_succ, List.getElem?_cons_zero]; rfl) (fun K hK => ?_) AllReadyH.nil
  go_simp
  refine hK.out _ _ ?_ (fun hHeld => ?_)
  · ((try dsimp only); go_keep)
  clear hK K
  try simp only [Act.put, List.setIfInBounds_toArray, List.set_cons_zero, List.set_cons_succ]
  refine wpAnyH_done (by kernel_rfl) ?_ _
  obtain ⟨W1, hW1⟩ : ∃ W1, (w.alloc (.cells #[.int .i64 kk, .int .i64 pp] 63)).drew = W1 := ⟨_, rfl⟩
  have hb1 : Below w.heap.size w W1 := by rw [← hW1]; exact bel (bel_alloc _ _) (bel_drew _)
  have z0 : W1.cell? ⟨w.heap.size, 0, none⟩ = some (.int .i64 kk) := by rw [← hW1]; simp [go_sem]
  have z1 : W1.cell? ⟨w.heap.size, 1, none⟩ = some (.int .i64 pp) := by rw [← hW1]; simp [go_sem]
  rw [hW1]
  clear hW1 hHeld
  have HB1 : Hid (Below w.heap.size w W1) := hb1
  have g0 := kc hb1 q0
  have g1 := kc hb1 q1
  have g2 := kc hb1 q2
  have g3 := kc hb1 q3
  have g4 := kc hb1 q4
  have g5 := kc hb1 q5
  have g6 := kc hb1 q6
  have g7 := kc hb1 f0
  clear q0 q1 q2 q3 q4 q5 q6 f0 c1 r0 r1 hb1
  have hf : ∀ (w : World) (x y : Value), (Instr.field 80 (.agg #[x, y]) 0).run Tryz.prog w = .ok x w := fun w x y => by simp [Instr.field, run_underlying Tryz.underlying80, asAgg, part, go_sem]
  obtain ⟨i0, hi0, hz0, hz1, hz3⟩ := info_parts info_LF
  have hm1 : 0 < m' := by omega
  go_wp2_with (go_at_call 121; refine (HRe.out _).mono ?_; rintro e w2 ⟨u, rfl, hown, hb2⟩; obtain ⟨rg, rcap, rfl, hrB, hrlt, hrc, -, hrcell⟩ := own_open hown hm1; have HRC : Hid (∀ (j : Nat) (u : Value), (i64s RL)[j]? = some u → w2.cell? ⟨rg, j, none⟩ = some u) := hrcell; have HB2 : Hid (Below W1.heap.size W1 w2) := hb2; clear hown hrcell)
  have hm3 : m' ≤ 3 := by omega
  go_loopw [5, 50] (fun av iv wr => ∃ (j : Nat) (bv : Value) (vals : List Value), bv = av ∧ j ≤ m' ∧ iv = .int .i64 j ∧ vals.length = j ∧ Hid (Below w2.heap.size w2 wr ∧ wr.ownsRow w2.heap.size 57 1 bv j vals ∧ ∀ k (h1 : k < vals.length) (h2 : k < RL.length), Pt (avT (mutT T E E') bv) wr vals[k] (rdP c f RL[k]).pats)) (fun _ iv _ => m' - (intOf iv).toNat)
  case atStart => exact ⟨0, _, [], rfl, Nat.zero_le _, rfl, rfl, Below.refl _ _, World.ownsRow_nil _ _ _ 1, fun k h1 _ => absurd h1 (Nat.not_lt_zero _)⟩
  case round =>
    obtain ⟨j, av, vals, rfl, hj, rfl, hvl, HR⟩ := hrel
    have hsz := HR.out.1.size
    by_cases hlt : j < m'
    · have hjR : j < RL.length := by rw [HML.out]; exact hlt
      have x1 : wr.cell? ⟨rg, j, none⟩ = some (.int .i64 RL[j]) := kc HR.out.1 (HRC.out j _ (by simp [i64s, hjR]))
      have HRJ : Hid (RL[j] ∈ RL) := List.getElem_mem hjR
      have HRJ2 : Hid (∀ k (h1 : k < RL.length), k = j → (rdP c f RL[k]).pats = (rdP c f RL[j]).pats) := fun k _ e => by subst e; rfl
      obtain ⟨rr, hrr⟩ : ∃ rr, RL[j] = rr := ⟨_, rfl⟩
      rw [hrr] at x1 HRJ HRJ2
      obtain ⟨pat, hpat⟩ : ∃ pat, (rdP c f rr).pats = pat := ⟨_, rfl⟩
      have HPT : Hid ((rdP c f rr).pats = pat) := hpat
      obtain ⟨who, hwho⟩ : ∃ who, (rdP c f rr).whole = who := ⟨_, rfl⟩
      have KRd := fun v hv => HRd.out v hv rr HRJ.out
      rw [hpat, hwho] at KRd
      have HKRd : Hid (∀ v, Below w.heap.size w v → Calls Tryz.prog 78 #[.pointer (some ⟨FR, 0, none⟩), .int .i64 rr] v fun e w' => ∃ u, e = .returned (.agg #[u, .int .i64 who]) ∧ Pt (midT (mutT T E E') w.heap.size v.heap.size) w' u pat ∧ Below v.heap.size v w') := KRd
      have HBr : Hid (Below w.heap.size w wr) := bel (bel HB1.out HB2.out) HR.out.1
      clear KRd hrr hpat hwho hjR
      go_wp2_with (first
        | (go_at_call 78; refine (HKRd.out _ HBr.out).mono ?_; rintro e w3 ⟨u, rfl, hup, hb3⟩; obtain ⟨uq, uc, hue⟩ := hup.len; obtain ⟨ul, hul⟩ : ∃ ul, pat.length = ul := ⟨_, rfl⟩; rw [hul] at hue; subst hue; have HUP : Hid (Pt (midT (mutT T E E') w.heap.size wr.heap.size) w3 (.slice uq ul uc) pat) := hup; have HB3 : Hid (Below wr.heap.size wr w3) := hb3; have hs3 := hb3.size; clear hup hul)
        | (at_builtin; refine wpList_append_own_at _ rfl _ _ 47 rfl w2.heap.size 57 i0 _ 1 24 Tryz.underlying47 hi0 hz0 hz1 hz3 rfl (by decide) _ j vals rfl (World.ownsRow.alloc (own_below HR.out.2.1 HB3.out) _) ⟨w3.heap.size, 0, none⟩ 1 1 [.slice uq ul uc] rfl rfl (World.news_of_block (cs := #[.slice uq ul uc]) (t := 57) (fr := (0, 0)) (heap_alloc_new w3 _)) (by simp [Value.oneCell']) (by unfold maxLen; omega) (by omega) (by simp; omega) ?_; intro v' w4 hown4 hgrow hnil hat; have HO4 : Hid (w4.ownsRow w2.heap.size 57 1 v' (j + 1) (vals ++ [.slice uq ul uc])) := hown4; have HB4 : Hid (Below w2.heap.size w3 w4) := (Below.alloc (Below.refl _ _) (by omega) _).grown hgrow (by simp; omega) (fun q e => (HR.out.2.1.lt q e).1); have HG4 : Hid ((w3.alloc (.cells #[.slice uq ul uc] 57)).grownBy w4 av.ownBlock ∧ (v'.ownBlock = av.ownBlock ∨ v'.ownBlock = some (w3.alloc (.cells #[.slice uq ul uc] 57)).heap.size)) := ⟨hgrow, hat⟩; clear hown4 hgrow hnil hat))
      refine ⟨⟨j + 1, _, vals ++ [.slice uq ul uc], rfl, by omega, by go_num, by simp [hvl], (HR.out.1.trans (HB3.out.mono hsz)).trans HB4.out, HO4.out, fun k h1 h2 => ?_⟩, by simp [intOf]; omega⟩
      refine Pt.grown (v := av) ?_ HG4.out.1 HG4.out.2
      by_cases hk : k < j
      · rw [List.getElem_append_left (by omega)]
        exact ((HR.out.2.2 k (by omega) h2).below HB3.out).below (bel_alloc _ _)
      · have hkj : k = j := by simp at h1; omega
        have hg9 : (vals ++ [Value.slice uq ul uc])[k]'h1 = .slice uq ul uc := by
          rw [List.getElem_append_right (by omega)]
          simp
        rw [hg9, HRJ2.out k h2 hkj, HPT.out]
        refine RowT.below ?_ (bel_alloc _ _)
        refine HUP.out.mono fun b hb2 e => ?_
        rcases e with e | e
        · exact .inl e
        · refine .inr ⟨?_, (HR.out.2.1.lt b e).2⟩
          have := (HR.out.2.1.lt b e).1
          have := (bel HB1.out HB2.out).size
          omega
    · have hjm : j = m' := by omega
      subst hjm
      obtain ⟨ag, acap, rfl, haB, halt, hac, -, hacell⟩ := own_open HR.out.2.1 hm1
      obtain ⟨ARGS, hARGS⟩ : ∃ ARGS, RL.map (fun r => (rdP c f r).pats) = ARGS := ⟨_, rfl⟩
      have hAL : ARGS.length = j := by rw [← hARGS, List.length_map]; exact HML.out
      have hAel : ∀ k (h1 : k < ARGS.length) (h2 : k < RL.length), ARGS[k] = (rdP c f RL[k]).pats := fun k h1 h2 => by subst hARGS; simp
      have hL := lsts_of (T := mutT T E E') (w := wr) (g := ag) (vals := vals) (args := ARGS) (by omega) hacell (fun k h1 h2 => by
        have h3 : k < RL.length := by rw [HML.out]; omega
        rw [hAel k h2 h3]
        exact (HR.out.2.2 k h1 h3).mono fun b _ e => .inl e)
      have hA1 : ∀ k, k < ARGS.length → (lF ARGS k = 1 ∨ lF ARGS k = Wd) ∧ ∀ y ∈ vecAt ARGS k, IsP y := fun k hk => by
        have h3 : k < RL.length := by rw [HML.out]; omega
        have h4 := HAr.out RL[k] (List.getElem_mem h3)
        unfold lF
        rw [vecAt_at hk, hAel k hk h3]
        exact h4
      have hA2 : ∀ k, ¬ k < ARGS.length → vecAt ARGS k = [] := fun k hk => by unfold vecAt; rw [List.getElem?_eq_none (by omega)]; rfl
      have hXP : ∀ i k, IsP (xF ARGS i k) := fun i k => by
        unfold xF
        refine isP_atL ?_ k
        by_cases hik : i < ARGS.length
        · exact (hA1 i hik).2
        · rw [hA2 i hik]; intro y hy; cases hy
      have hlP : ∀ i, lF ARGS i ≤ 1048576 := fun i => by
        by_cases hik : i < ARGS.length
        · have := (hA1 i hik).1; omega
        · unfold lF; rw [hA2 i hik]; simp
      obtain ⟨n, hsh, hn1⟩ := ishp_good (l := lF ARGS) hW (ARGS.length - 1) (fun i hi => (hA1 i (by omega)).1)
      obtain ⟨hapl, hapa⟩ := app_len (op := op) hsh
      have HAP : Hid (apply_okP op ag j acap n ARGS wr) := fun v hv => by
        have := apply_ok op ht2 ag 0 ARGS.length acap (by rw [ht1, hAL]) n _ (lF ARGS) _ (xF ARGS) hXP hlP (by omega) hsh v (hL.below hv)
        rw [hAL] at this
        rw [hAL]
        exact this
      have HAPL : Hid ((appP op ARGS).length = n ∧ ∀ j, j < n → atL (appP op ARGS) j = opf op (elAt (lF ARGS) (xF ARGS) ARGS.length j 0) (elAt (lF ARGS) (xF ARGS) ARGS.length j 1) (elAt (lF ARGS) (xF ARGS) ARGS.length j 2)) := ⟨hapl, hapa⟩
      have HIP : Hid (∀ i k, IsP (xF ARGS i k)) := hXP
      have hAA := HArgs.out
      rw [hARGS] at hAA
      have HEQ2 : Hid (F = stP c f D ⟨if (appP op ARGS).length < Wd then fillP c ⟨kk, pp⟩ ((appP op ARGS).headD 0) else appP op ARGS, 0⟩) := by
        have := HEq.out
        rw [hAA, HWD.out] at this
        exact this
      have HBr : Hid (Below w.heap.size w wr ∧ Below W1.heap.size W1 wr) := ⟨bel (bel HB1.out HB2.out) HR.out.1, bel HB2.out HR.out.1⟩
      clear hL hA1 hA2 hXP hlP hapl hapa hARGS hAel hAA hacell hsh
      have t0 : wr.cell? ⟨ib, io, none⟩ = some (.int .i64 op) := kc HBr.out.2 g0
      have t1 : wr.cell? ⟨ib, io + 1, none⟩ = some (.int .i64 (D : Int)) := kc HBr.out.2 g1
      have HAL : Hid ((appP op ARGS).length = n) := HAPL.out.1
      have HZ : Hid (∀ v, Below wr.heap.size wr v → v.cell? ⟨FR, 0, none⟩ = some (.pointer (some ⟨C, 0, none⟩)) ∧ v.cell? ⟨w.heap.size, 0, none⟩ = some (.int .i64 kk) ∧ v.cell? ⟨w.heap.size, 1, none⟩ = some (.int .i64 pp)) := fun v hv => ⟨kc hv (kc HBr.out.2 g7), kc hv (kc HBr.out.2 z0), kc hv (kc HBr.out.2 z1)⟩
      have hmj := HX.out.fresh (g := 0 + w.heap.size) (by omega)
      have HFR9 : Hid (∀ g, w.heap.size ≤ g → ¬ mutT T E E' g) := fun g hg => HX.out.fresh hg
      clear g0 g1 g2 g3 g4 g5 g6 g7 z0 z1 hmj HRd HRe HArgs HEq HAr HRC
      by_cases hnW : n < Wd
      · have en1 : (n : Int) < (Wd : Int) := by omega
        have en2 : (0 : Int) < (n : Int) := by omega
        have hn0 : 0 < n := by omega
        obtain ⟨Y, hY⟩ : ∃ Y, opf op (elAt (lF ARGS) (xF ARGS) ARGS.length 0 0) (elAt (lF ARGS) (xF ARGS) ARGS.length 0 1) (elAt (lF ARGS) (xF ARGS) ARGS.length 0 2) = Y := ⟨_, rfl⟩
        have HYP : Hid (IsP Y) := by rw [← hY]; exact isP_opf _ _ _ _ (isP_elAt HIP.out _ _ _) (isP_elAt HIP.out _ _ _) (isP_elAt HIP.out _ _ _)
        have HYE : Hid ((appP op ARGS).headD 0 = Y) := by
          have h1 := HAPL.out.2 0 hn0
          rw [hY] at h1
          rw [← h1]
          unfold atL
          cases appP op ARGS <;> rfl
        have HAP2 : Hid (∀ v, Below wr.heap.size wr v → Calls Tryz.prog 122 #[.int .i64 op, .slice (some ⟨ag, 0, none⟩) j acap] v fun e w' => ∃ g, e = .returned (.tuple #[.slice (some ⟨g, 0, none⟩) n n, .int .i64 0]) ∧ w'.cell? ⟨g, 0, none⟩ = some (.int .u32 Y) ∧ Below v.heap.size v w') := fun v hv => (HAP.out v hv).mono fun e w' ⟨g, h1, _, h2, h3⟩ => ⟨g, h1, by have := h2.cell hn0; rw [hY] at this; exact this, h3⟩
        clear hY HAP HAPL HIP
        go_wp2_with (go_at_call 122; refine (HAP2.out _ (bel0 _)).mono ?_; rintro e w5 ⟨g, rfl, y0, hb5⟩; have HB5 : Hid (Below wr.heap.size wr w5) := hb5; obtain ⟨s0, s1, s2⟩ := HZ.out w5 hb5; clear hb5)
        refine wp_region_held_drew (S := (fun v => v.cell? ⟨FR, 0, none⟩ = some (.pointer (some ⟨C, 0, none⟩)) ∧ v.cell? ⟨w.heap.size, 0, none⟩ = some (.int .i64 kk) ∧ v.cell? ⟨w.heap.size, 1, none⟩ = some (.int .i64 pp))) (by kernel_rfl) ?_ (fun hHeld => ?_)
        · ((try dsimp only); go_keep)
        refine tkH (i := 0) (v := ?_) (hy := .inl ⟨by rfl, ?_⟩) (h := ?_)
        rotate_left 1
        · (intro wS hSw; (try dsimp only at hSw); go_simp; try (with_reducible rfl))
        try simp only [Act.put, List.setIfInBounds_toArray, List.set_cons_zero, List.set_cons_succ]
        refine tkH (i := 1) (v := ?_) (hy := .inl ⟨by rfl, ?_⟩) (h := ?_)
        rotate_left 1
        · (intro wS hSw; (try dsimp only at hSw); go_simp; try (with_reducible rfl))
        try simp only [Act.put, List.setIfInBounds_toArray, List.set_cons_zero, List.set_cons_succ]
        refine tkH (i := 2) (v := ?_) (hy := .inl ⟨by rfl, ?_⟩) (h := ?_)
        rotate_left 1
        · (intro wS hSw; (try dsimp only at hSw); go_simp; try (with_reducible rfl))
        try simp only [Act.put, List.setIfInBounds_toArray, List.set_cons_zero, List.set_cons_succ]
        refine tkH (i := 3) (v := ?_) (hy := .inl ⟨by rfl, ?_⟩) (h := ?_)
        rotate_left 1
        · (intro wS hSw; (try dsimp only at hSw); go_simp; try (with_reducible rfl))
        try simp only [Act.put, List.setIfInBounds_toArray, List.set_cons_zero, List.set_cons_succ]
        refine tkH (i := 4) (v := ?_) (hy := .inl ⟨by rfl, ?_⟩) (h := ?_)
        rotate_left 1
        · (intro wS hSw; (try dsimp only at hSw); go_simp; try (with_reducible rfl))
        try simp only [Act.put, List.setIfInBounds_toArray, List.set_cons_zero, List.set_cons_succ]
        refine tkH (i := 5) (v := ?_) (hy := .inl ⟨by rfl, ?_⟩) (h := ?_)
        rotate_left 1
        · (intro wS hSw; (try dsimp only at hSw); go_simp; try (with_reducible rfl))
        try simp only [Act.put, List.setIfInBounds_toArray, List.set_cons_zero, List.set_cons_succ]
        refine tkH (i := 6) (v := ?_) (hy := .inl ⟨by rfl, ?_⟩) (h := ?_)
        rotate_left 1
        · (intro wS hSw; (try dsimp only at hSw); go_simp; try (with_reducible rfl))
        try simp only [Act.put, List.setIfInBounds_toArray, List.set_cons_zero, List.set_cons_succ]
        clear hHeld
        refine wpAnyH_ready (rs := [7]) (by kernel_rfl) (by simp) ?_
        refine AllReadyH.cons (i := 7) (by simp only [List.getElem?_toArray, List.getElem?_cons_succ, List.getElem?_cons_zero]; rfl) (fun K hK => ?_) AllReadyH.nil
        go_simp
        (go_at_call 62; refine (HWd.out _ (bel HBr.out.1 (bel HB5.out (bel_drew _)))).mono ?_; rintro e w6 ⟨rfl, hb6⟩; have HB6 : Hid (Below w5.heap.size w5 w6) := bel (bel_drew _) hb6; obtain ⟨s0, s1, s2⟩ := HZ.out w6 (bel HB5.out HB6.out); have y0 := kc HB6.out y0; clear hb6)
        try (go_wp2_with fail)
        refine hK.out _ _ ?_ (fun hHeld => ?_)
        · ((try dsimp only); go_keep)
        clear hK K
        try simp only [Act.put, List.setIfInBounds_toArray, List.set_cons_zero, List.set_cons_succ]
        refine tkH (i := 8) (v := ?_) (hy := .inl ⟨by rfl, ?_⟩) (h := ?_)
        rotate_left 1
        · (intro wS hSw; (try dsimp only at hSw); go_simp; try (with_reducible rfl))
        try simp only [Act.put, List.setIfInBounds_toArray, List.set_cons_zero, List.set_cons_succ]
        refine wpAnyH_done (by kernel_rfl) ?_ _
        go_wp2
        refine wp_region_held_drew (S := (fun v => v.cell? ⟨FR, 0, none⟩ = some (.pointer (some ⟨C, 0, none⟩)) ∧ v.cell? ⟨w.heap.size, 0, none⟩ = some (.int .i64 kk) ∧ v.cell? ⟨w.heap.size, 1, none⟩ = some (.int .i64 pp) ∧ v.cell? ⟨g, 0, none⟩ = some (.int .u32 Y))) (by kernel_rfl) ?_ (fun hHeld => ?_)
        · ((try dsimp only); go_keep)
        refine tkH (i := 0) (v := ?_) (hy := .inl ⟨by rfl, ?_⟩) (h := ?_)
        rotate_left 1
        · (intro wS hSw; (try dsimp only at hSw); go_simp; try (with_reducible rfl))
        try simp only [Act.put, List.setIfInBounds_toArray, List.set_cons_zero, List.set_cons_succ]
        refine tkH (i := 1) (v := ?_) (hy := .inl ⟨by rfl, ?_⟩) (h := ?_)
        rotate_left 1
        · (intro wS hSw; (try dsimp only at hSw); go_simp; try (with_reducible rfl))
        try simp only [Act.put, List.setIfInBounds_toArray, List.set_cons_zero, List.set_cons_succ]
        refine tkH (i := 2) (v := ?_) (hy := .inl ⟨by rfl, ?_⟩) (h := ?_)
        rotate_left 1
        · (intro wS hSw; (try dsimp only at hSw); go_simp; try (with_reducible rfl))
        try simp only [Act.put, List.setIfInBounds_toArray, List.set_cons_zero, List.set_cons_succ]
        refine tkH (i := 3) (v := ?_) (hy := .inl ⟨by rfl, ?_⟩) (h := ?_)
        rotate_left 1
        · (intro wS hSw; (try dsimp only at hSw); go_simp; try (with_reducible rfl))
        try simp only [Act.put, List.setIfInBounds_toArray, List.set_cons_zero, List.set_cons_succ]
        refine tkH (i := 4) (v := ?_) (hy := .inl ⟨by rfl, ?_⟩) (h := ?_)
        rotate_left 1
        · (intro wS hSw; (try dsimp only at hSw); go_simp; try (with_reducible rfl))
        try simp only [Act.put, List.setIfInBounds_toArray, List.set_cons_zero, List.set_cons_succ]
        refine tkH (i := 5) (v := ?_) (hy := .inl ⟨by rfl, ?_⟩) (h := ?_)
        rotate_left 1
        · (intro wS hSw; (try dsimp only at hSw); go_simp; try (with_reducible rfl))
        try simp only [Act.put, List.setIfInBounds_toArray, List.set_cons_zero, List.set_cons_succ]
        refine tkH (i := 6) (v := ?_) (hy := .inl ⟨by rfl, ?_⟩) (h := ?_)
        rotate_left 1
        · (intro wS hSw; (try dsimp only at hSw); go_simp; try (with_reducible rfl))
        try simp only [Act.put, List.setIfInBounds_toArray, List.set_cons_zero, List.set_cons_succ]
        refine tkH (i := 7) (v := ?_) (hy := .inl ⟨by rfl, ?_⟩) (h := ?_)
        rotate_left 1
        · (intro wS hSw; (try dsimp only at hSw); go_simp; try (with_reducible rfl))
        try simp only [Act.put, List.setIfInBounds_toArray, List.set_cons_zero, List.set_cons_succ]
        clear hHeld
        refine wpAnyH_ready (rs := [8]) (by kernel_rfl) (by simp) ?_
        refine AllReadyH.cons (i := 8) (by simp only [List.getElem?_toArray, List.getElem?_cons_succ, List.getElem?_cons_zero]; rfl) (fun K hK => ?_) AllReadyH.nil
        go_simp
        (go_at_call 36; refine (HFl.out _ Y (bel HBr.out.1 (bel HB5.out (bel HB6.out (bel_drew _)))) HYP.out).mono ?_; rintro e w7 ⟨g2, rfl, hg2, hr2, hb7⟩; have HB7 : Hid (Below w6.heap.size w6 w7) := bel (bel_drew _) hb7; obtain ⟨s0, s1, s2⟩ := HZ.out w7 (bel HB5.out (bel HB6.out HB7.out)); have y0 := kc HB7.out y0; have HR7 : Hid (w7.rowIs g2 43 Wd (fun _ => .int .u32 (canon Y))) := hr2; have HG7 : Hid (w6.heap.size ≤ g2) := hg2; clear hb7 hr2 hg2)
        try (go_wp2_with fail)
        refine hK.out _ _ ?_ (fun hHeld => ?_)
        · ((try dsimp only); go_keep)
        clear hK K
        try simp only [Act.put, List.setIfInBounds_toArray, List.set_cons_zero, List.set_cons_succ]
        refine tkH (i := 9) (v := ?_) (hy := .inl ⟨by rfl, ?_⟩) (h := ?_)
        rotate_left 1
        · (intro wS hSw; (try dsimp only at hSw); go_simp; try (with_reducible rfl))
        try simp only [Act.put, List.setIfInBounds_toArray, List.set_cons_zero, List.set_cons_succ]
        refine wpAnyH_done (by kernel_rfl) ?_ _
        have s9 : w7.cell? ⟨ib, io + 1, none⟩ = some (.int .i64 (D : Int)) := kc (bel HB5.out (bel HB6.out HB7.out)) t1
        have HBF : Hid (Below w.heap.size w w7) := bel HBr.out.1 (bel HB5.out (bel HB6.out HB7.out))
        have HPF : Hid (Pt (mutT T E E') w7 (.slice (some ⟨g2, 0, none⟩) Wd Wd) (fillP c ⟨kk, pp⟩ Y)) := by
          refine Pt.of_row HR7.out (HFR9.out g2 ?_) (by unfold fillP; rw [List.length_replicate, HWD.out]) (fun k hk => ?_) Wd
          · have := (bel HBr.out.1 (bel HB5.out HB6.out)).size
            have := HG7.out
            omega
          · unfold fillP atL
            rw [HWD.out]
            simp [hk]
        have HNE : Hid (fillP c ⟨kk, pp⟩ Y ≠ []) := by
          intro e
          have := congrArg List.length e
          unfold fillP at this
          rw [List.length_replicate, HWD.out] at this
          simp at this
          omega
        have HFE : Hid (F = stP c f D ⟨fillP c ⟨kk, pp⟩ Y, 0⟩) := by
          have := HEQ2.out
          rw [HAL.out, if_pos hnW, HYE.out] at this
          exact this
        go_wp2_with (go_at_call 77; refine (HSt.out w7 _ _ _ _ HBF.out HPF.out HNE.out).mono ?_; rintro e w8 ⟨rfl, hst⟩; have HST : Hid (StepOK T E E' a c G P M F w w8) := (by rw [HFE.out]; exact hst.pre HBF.out); clear hst)
        go_end0
        exact ⟨rfl, HST.out⟩
      · have en1 : ¬ ((n : Int) < (Wd : Int)) := by omega
        clear HFl
        go_wp2_with (go_at_call 122; refine (HAP.out _ (bel0 _)).mono ?_; rintro e w5 ⟨g, rfl, hg5, hr5, hb5⟩; have HB5 : Hid (Below wr.heap.size wr w5) := hb5; have HR5 := hidM hr5; have HG5 : Hid (wr.heap.size ≤ g) := hg5; obtain ⟨s0, s1, s2⟩ := HZ.out w5 hb5; clear hb5 hr5 hg5)
        refine wp_region_held_drew (S := (fun v => v.cell? ⟨FR, 0, none⟩ = some (.pointer (some ⟨C, 0, none⟩)) ∧ v.cell? ⟨w.heap.size, 0, none⟩ = some (.int .i64 kk) ∧ v.cell? ⟨w.heap.size, 1, none⟩ = some (.int .i64 pp))) (by kernel_rfl) ?_ (fun hHeld => ?_)
        · ((try dsimp only); go_keep)
        refine tkH (i := 0) (v := ?_) (hy := .inl ⟨by rfl, ?_⟩) (h := ?_)
        rotate_left 1
        · (intro wS hSw; (try dsimp only at hSw); go_simp; try (with_reducible rfl))
        try simp only [Act.put, List.setIfInBounds_toArray, List.set_cons_zero, List.set_cons_succ]
        refine tkH (i := 1) (v := ?_) (hy := .inl ⟨by rfl, ?_⟩) (h := ?_)
        rotate_left 1
        · (intro wS hSw; (try dsimp only at hSw); go_simp; try (with_reducible rfl))
        try simp only [Act.put, List.setIfInBounds_toArray, List.set_cons_zero, List.set_cons_succ]
        refine tkH (i := 2) (v := ?_) (hy := .inl ⟨by rfl, ?_⟩) (h := ?_)
        rotate_left 1
        · (intro wS hSw; (try dsimp only at hSw); go_simp; try (with_reducible rfl))
        try simp only [Act.put, List.setIfInBounds_toArray, List.set_cons_zero, List.set_cons_succ]
        refine tkH (i := 3) (v := ?_) (hy := .inl ⟨by rfl, ?_⟩) (h := ?_)
        rotate_left 1
        · (intro wS hSw; (try dsimp only at hSw); go_simp; try (with_reducible rfl))
        try simp only [Act.put, List.setIfInBounds_toArray, List.set_cons_zero, List.set_cons_succ]
        refine tkH (i := 4) (v := ?_) (hy := .inl ⟨by rfl, ?_⟩) (h := ?_)
        rotate_left 1
        · (intro wS hSw; (try dsimp only at hSw); go_simp; try (with_reducible rfl))
        try simp only [Act.put, List.setIfInBounds_toArray, List.set_cons_zero, List.set_cons_succ]
        refine tkH (i := 5) (v := ?_) (hy := .inl ⟨by rfl, ?_⟩) (h := ?_)
        rotate_left 1
        · (intro wS hSw; (try dsimp only at hSw); go_simp; try (with_reducible rfl))
        try simp only [Act.put, List.setIfInBounds_toArray, List.set_cons_zero, List.set_cons_succ]
        refine tkH (i := 6) (v := ?_) (hy := .inl ⟨by rfl, ?_⟩) (h := ?_)
        rotate_left 1
        · (intro wS hSw; (try dsimp only at hSw); go_simp; try (with_reducible rfl))
        try simp only [Act.put, List.setIfInBounds_toArray, List.set_cons_zero, List.set_cons_succ]
        clear hHeld
        refine wpAnyH_ready (rs := [7]) (by kernel_rfl) (by simp) ?_
        refine AllReadyH.cons (i := 7) (by simp only [List.getElem?_toArray, List.getElem?_cons_succ, List.getElem?_cons_zero]; rfl) (fun K hK => ?_) AllReadyH.nil
        go_simp
        (go_at_call 62; refine (HWd.out _ (bel HBr.out.1 (bel HB5.out (bel_drew _)))).mono ?_; rintro e w6 ⟨rfl, hb6⟩; have HB6 : Hid (Below w5.heap.size w5 w6) := bel (bel_drew _) hb6; obtain ⟨s0, s1, s2⟩ := HZ.out w6 (bel HB5.out HB6.out); clear hb6)
        try (go_wp2_with fail)
        refine hK.out _ _ ?_ (fun hHeld => ?_)
        · ((try dsimp only); go_keep)
        clear hK K
        try simp only [Act.put, List.setIfInBounds_toArray, List.set_cons_zero, List.set_cons_succ]
        refine tkH (i := 8) (v := ?_) (hy := .inl ⟨by rfl, ?_⟩) (h := ?_)
        rotate_left 1
        · (intro wS hSw; (try dsimp only at hSw); go_simp; try (with_reducible rfl))
        try simp only [Act.put, List.setIfInBounds_toArray, List.set_cons_zero, List.set_cons_succ]
        refine wpAnyH_done (by kernel_rfl) ?_ _
        have s9 : w6.cell? ⟨ib, io + 1, none⟩ = some (.int .i64 (D : Int)) := kc (bel HB5.out HB6.out) t1
        have HBF : Hid (Below w.heap.size w w6) := bel HBr.out.1 (bel HB5.out HB6.out)
        have HPF : Hid (Pt (mutT T E E') w6 (.slice (some ⟨g, 0, none⟩) n n) (appP op ARGS)) := by
          refine (Pt.of_row HR5.out (HFR9.out g ?_) HAPL.out.1 HAPL.out.2 n).below HB6.out
          have := HBr.out.1.size
          have := HG5.out
          omega
        have HNE : Hid (appP op ARGS ≠ []) := by
          intro e
          have h1 := HAPL.out.1
          rw [e] at h1
          simp at h1
          omega
        have HFE : Hid (F = stP c f D ⟨appP op ARGS, 0⟩) := by
          have := HEQ2.out
          rw [HAPL.out.1, if_neg hnW] at this
          exact this
        go_wp2_with (go_at_call 77; refine (HSt.out w6 _ _ _ _ HBF.out HPF.out HNE.out).mono ?_; rintro e w8 ⟨rfl, hst⟩; have HST : Hid (StepOK T E E' a c G P M F w w8) := (by rw [HFE.out]; exact hst.pre HBF.out); clear hst)
        go_end0
        exact ⟨rfl, HST.out⟩

end Go.Proofs.YtholhpmnicibgaaGreat
