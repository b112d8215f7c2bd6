import Derived.Test.YtholhpmnicibgaaGreatMark1
import Derived.Test.YtholhpmnicibgaaGreatMark21
import Derived.Test.YtholhpmnicibgaaGreatMark10
import Derived.Lib.LazyBuf
/- Package interp: the instructions, in order. -/
namespace Go.Proofs.YtholhpmnicibgaaGreat
open Go.RowKit
set_option linter.unusedVariables false
set_option linter.unusedSimpArgs false

/-- Behind j instructions. -/
structure GoInv (T : Nat → Prop) (E E' : Nat) (a : Lay) (c : Cd) (G P : List (List Int)) (f0 : Fr) (w : World) (j k : Nat) (wr : World) (f : Fr) (s : Wk) (X : Nat → Value) (M : Nat) (m : Nat → Option Value) : Prop where
  x : FX T E E' a c G P wr
  h : FV T E E' a c wr X M m f
  hM : M ≤ j
  un : Un (stepU a E E') w wr
  go : goI c G P (f0, 0) (c.list.take j) = (f, k)
  ok : OkF c f
  oks : OkS c.regs.length s
  sk : SkipOK c s f k
  tk : takenP c s (c.list.drop j) = true
theorem goI_succ (c : Cd) (G P : List (List Int)) (s : Fr × Nat) (l : List Ins) {j : Nat} (hj : j < l.length) : goI c G P s (l.take (j + 1)) = nextI c G P (goI c G P s (l.take j)) l[j] := by
  unfold goI
  rw [List.take_succ_eq_append_getElem hj, List.foldl_append]
  rfl
theorem GoInv.taken {T : Nat → Prop} {E E' : Nat} {a : Lay} {c : Cd} {G P : List (List Int)} {f0 : Fr} {w : World} {j k : Nat} {wr : World} {f : Fr} {s : Wk} {X : Nat → Value} {M : Nat} {m : Nat → Option Value} (g : GoInv T E E' a c G P f0 w j k wr f s X M m) (hj : j < c.list.length) : takesP c s c.list[j] = true ∧ takenP c (stepP s c.list[j]) (c.list.drop (j + 1)) = true := by
  have := g.tk
  rw [List.drop_eq_getElem_cons hj] at this
  unfold takenP at this
  simpa using this
theorem GoInv.next {T : Nat → Prop} {E E' : Nat} {a : Lay} {c : Cd} {G P : List (List Int)} {f0 : Fr} {w : World} {j k : Nat} {wr : World} {f : Fr} {s : Wk} {X : Nat → Value} {M : Nat} {m : Nat → Option Value} (g : GoInv T E E' a c G P f0 w j k wr f s X M m) (hg : Good c) (hbits : ∀ i ∈ c.list, IsP i.bits) (fg : FitV c G) (fp : FitV c P) (hj : j < c.list.length) {k' : Nat} {f' : Fr} (hn : nextI c G P (f, k) c.list[j] = (f', k')) {wr' : World} (hst : StepOK T E E' a c G P M f' wr wr') : ∃ f s X M m, GoInv T E E' a c G P f0 w (j + 1) k' wr' f s X M m := by
  obtain ⟨t1, t2⟩ := g.taken hj
  obtain ⟨o1, o2⟩ := next_ok hg g.oks t1 g.ok (hbits _ (List.getElem_mem hj)) fg fp g.sk
  rw [hn] at o1 o2
  obtain ⟨s1, ⟨X', M', m', s2, s3⟩, s4⟩ := hst
  have := g.hM
  exact ⟨f', stepP s c.list[j], X', M', m', s1, s3, by omega, g.un.trans s4, by rw [goI_succ c G P _ _ hj, g.go]; exact hn, o1, g.oks.step t1, o2, t2⟩
theorem next_A (c : Cd) (G P : List (List Int)) (f : Fr) (K : Nat) {i : Ins} (h : i.op = 35) : nextI c G P (f, K + 1) i = (f, K) := by
  unfold nextI; rw [if_pos ⟨by show 0 < K + 1; omega, h⟩]; rfl
theorem next_B (c : Cd) (G P : List (List Int)) (f : Fr) (K : Nat) {i : Ins} (h : i.op = 34) (hz : 0 < K ∨ f.whs i.a.toNat = 0) : nextI c G P (f, K) i = (f, K + 1) := by
  unfold nextI; rw [if_neg (by omega), if_pos ⟨h, hz⟩]
theorem next_C (c : Cd) (G P : List (List Int)) (f : Fr) {i : Ins} (h : ¬ (i.op = 34 ∧ f.whs i.a.toNat = 0)) : nextI c G P (f, 0) i = (doI c G P f i, 0) := by
  unfold nextI; rw [if_neg (fun e => absurd e.1 (by show ¬ 0 < 0; omega)), if_neg (fun e => h ⟨e.1, e.2.resolve_left (by show ¬ 0 < 0; omega)⟩), if_pos rfl]
theorem next_D (c : Cd) (G P : List (List Int)) (f : Fr) (K : Nat) {i : Ins} (h1 : i.op ≠ 34) (h2 : i.op ≠ 35) : nextI c G P (f, K + 1) i = (f, K + 1) := by
  unfold nextI; rw [if_neg (fun e => h2 e.2), if_neg (fun e => h1 e.1), if_neg (by show ¬ (K + 1 = 0); omega)]

set_option maxRecDepth 100000 in
set_option maxHeartbeats 8000000 in
theorem goThrough_any {T : Nat → Prop} {E E' : Nat} {a : Lay} {c : Cd} {G P : List (List Int)} {X : Nat → Value} {m : Nat → Option Value} {f0 : Fr} (w : World) (x : FX T E E' a c G P w) (h : FV T E E' a c w X 0 m f0) (hg : Good c) (ok : OkF c f0) (ht : takenP c ⟨[], []⟩ c.list = true) (hbits : ∀ i ∈ c.list, IsP i.bits) (fg : FitV c G) (fp : FitV c P) :
    Calls Tryz.prog 30 #[.pointer (some ⟨a.FR, 0, none⟩)] w fun e w' => e = .returned (.tuple #[]) ∧ FX T E E' a c G P w' ∧ (∃ X M m, FV T E E' a c w' X M m (goI c G P (f0, 0) c.list).1 ∧ OkF c (goI c G P (f0, 0) c.list).1) ∧ Un (stepU a E E') w w' := by
  have HI0 : Hid (GoInv T E E' a c G P f0 w 0 0 w f0 ⟨[], []⟩ X 0 m) := ⟨x, h, Nat.le_refl _, Un.refl _ _, rfl, ok, OkS.start _, .inl ⟨rfl, fun r hr => by cases hr⟩, ht⟩
  obtain ⟨q3, c3, hv3, _⟩ := x.code.list
  have HV3 : Hid (a.v3 = .slice q3 c.list.length c3) := hv3
  have f0' := x.f0
  have c3' : w.cell? ⟨a.C, 3, none⟩ = some a.v3 := x.code.cells.at 3 rfl
  rw [hv3] at c3'
  have hL := hg.listL
  have hN := hg.regsL
  have HG : Hid (Good c ∧ (∀ i ∈ c.list, IsP i.bits) ∧ FitV c G ∧ FitV c P) := ⟨hg, hbits, fg, fp⟩
  obtain ⟨FR, hFR⟩ : ∃ FR, a.FR = FR := ⟨_, rfl⟩
  obtain ⟨C, hC⟩ : ∃ C, a.C = C := ⟨_, rfl⟩
  obtain ⟨N, hN'⟩ : ∃ N, c.list.length = N := ⟨_, rfl⟩
  obtain ⟨Nr, hNr'⟩ : ∃ Nr, c.regs.length = Nr := ⟨_, rfl⟩
  have HN : Hid (c.list.length = N) := hN'
  have HNR : Hid (c.regs.length = Nr) := hNr'
  have HFR : Hid (a.FR = FR) := hFR
  have HC : Hid (a.C = C) := hC
  simp only [hFR, hC, hN', hNr'] at f0' c3' hL hN ⊢
  clear x h ok ht hbits fg fp hv3 hg hFR hC hN' hNr'
  go_enter Tryz.func30, Tryz.ntmps30
  go_wp2
  go_loopw [2, 13] (fun lv iv wr => ∃ (j k : Nat), j ≤ N ∧ k ≤ j ∧ iv = .int .i64 j ∧ lv = .int .i64 k ∧ Hid (∃ f s X M m, GoInv T E E' a c G P f0 w j k wr f s X M m)) (fun _ iv _ => N - (intOf iv).toNat)
  case atStart => exact ⟨0, 0, Nat.zero_le _, Nat.le_refl _, rfl, rfl, _, _, _, _, _, HI0.out⟩
  case round =>
    clear f0' c3' HI0
    obtain ⟨j, k, hj, hkj, rfl, rfl, HR⟩ := hrel
    obtain ⟨f, s, X1, M1, m1, gi⟩ := HR.out
    have GI : Hid (GoInv T E E' a c G P f0 w j k wr f s X1 M1 m1) := gi
    clear HR
    by_cases hlt : j < N
    · have hjL : j < c.list.length := by rw [HN.out]; exact hlt
      obtain ⟨t1, t2⟩ := gi.taken hjL
      obtain ⟨q3', c3'', hv3', hrow⟩ := gi.x.code.list
      rw [HV3.out] at hv3'
      simp only [Value.slice.injEq, true_and] at hv3'
      obtain ⟨rfl, rfl⟩ := hv3'
      rcases hrow with e | ⟨lb, lo, rfl, hnl, hll, hcel⟩
      · rw [e] at hjL; exact absurd hjL (Nat.not_lt_zero _)
      have hcj := hcel j hjL
      have ht : InsT (mutT T E E') wr lb (lo + j * 7) c.list[j] := ⟨hnl, hll, hcj⟩
      have g0 := gi.x.f0
      have g1 : wr.cell? ⟨a.C, 3, none⟩ = some a.v3 := gi.x.code.cells.at 3 rfl
      rw [HV3.out, HN.out, HC.out] at g1
      rw [HFR.out, HC.out] at g0
      have NX := fun {k' : Nat} {f' : Fr} (hn : nextI c G P (f, k) c.list[j] = (f', k')) {wr' : World} (hst : StepOK T E E' a c G P M1 f' wr wr') => gi.next HG.out.1 HG.out.2.1 HG.out.2.2.1 HG.out.2.2.2 hjL hn hst
      have HSAME : Hid (∀ v, Below wr.heap.size wr v → StepOK T E E' a c G P M1 f wr v) := fun v hv => StepOK.same gi.x gi.h hv
      have hkn := (takes_open t1).1
      have DO : k = 0 → Hid (∀ v, Below wr.heap.size wr v → Calls Tryz.prog 48 #[.pointer (some ⟨FR, 0, none⟩), .pointer (some ⟨lb, lo + j * 7, none⟩)] v fun e w' => e = .returned (.tuple #[]) ∧ StepOK T E E' a c G P M1 (doI c G P f c.list[j]) wr w') := fun hk v hv => by
        have hs : ∀ r ∈ s.set, SetOK c f r := by
          rcases gi.sk with ⟨_, hs⟩ | ⟨pre, b, rest, _, _, e, _⟩
          · exact hs
          · omega
        have hM1 := gi.hM
        have := do_any v (gi.x.below hv) (gi.h.below hv) HG.out.1 gi.ok (by omega) lb (lo + j * 7) c.list[j] (ht.below hv) hkn (need_of t1 hs) HG.out.2.2.1 HG.out.2.2.2
        rw [HFR.out] at this
        exact this.mono fun e w' ⟨h1, h2⟩ => ⟨h1, h2.pre hv⟩
      have aR : c.list[j].op = 34 → 0 ≤ c.list[j].a ∧ c.list[j].a < (c.regs.length : Int) := fun e => fitsReg_lt (fitsC_a (takes_open t1).2.1) (by rw [e]; decide)
      obtain ⟨i, hi⟩ : ∃ i, c.list[j] = i := ⟨_, rfl⟩
      simp only [hi] at NX DO hcj aR
      have i0 := hcj.at 0 rfl
      rw [Nat.add_zero] at i0
      have i2 := hcj.at 2 rfl
      have f3 := gi.x.f3
      rw [HFR.out, HNR.out] at f3
      have hwc := fun {A : Nat} (hA : A < c.regs.length) => gi.h.whs.cell hA
      rw [HNR.out] at aR hwc
      obtain ⟨WB, hWB⟩ : ∃ WB, a.WB = WB := ⟨_, rfl⟩
      simp only [hWB] at f3 hwc
      obtain ⟨op, D, A, B, Ec, nn, bt⟩ := i
      simp only at i0 i2 aR
      clear hi hcj ht t1 t2 hcel hkn
      by_cases hk : k = 0
      · subst hk
        have HDO := DO rfl
        clear DO
        by_cases h34 : op = 34
        · subst h34
          obtain ⟨a0, a1⟩ := aR rfl
          obtain ⟨A, rfl⟩ : ∃ j : Nat, A = (j : Int) := ⟨A.toNat, by omega⟩
          have k1 := hwc (A := A) (by omega)
          by_cases hz : f.whs A = 0
          · rw [hz] at k1
            have HNX : Hid (∀ wr', StepOK T E E' a c G P M1 f wr wr' → ∃ f s X M m, GoInv T E E' a c G P f0 w (j + 1) 1 wr' f s X M m) := fun wr' hs => NX (next_B c G P f 0 rfl (.inr hz)) hs
            clear NX HDO hwc hz aR gi
            go_wp2
            refine wp_region_held_drew (S := (fun v => v.cell? ⟨lb, lo + j * 7, none⟩ = some (.int .i64 34) ∧ v.cell? ⟨FR, 3, none⟩ = some (.slice (some ⟨WB, 0, none⟩) Nr Nr) ∧ v.cell? ⟨lb, lo + j * 7 + 2, none⟩ = some (.int .i64 (A : Int)) ∧ v.cell? ⟨WB, A, none⟩ = some (.int .i64 0))) (by kernel_rfl) ?_ (fun hHeld => ?_)
            · ((try dsimp only); go_keep)
            refine tkH (i := 0) (v := ?_) (hy := .inl ⟨by rfl, ?_⟩) (h := ?_)
            rotate_left 1
            · (intro wS hSw; (try dsimp only at hSw); go_simp; try (with_reducible rfl))
            try simp only [Act.put, List.setIfInBounds_toArray, List.set_cons_zero, List.set_cons_succ]
            refine tkH (i := 1) (v := ?_) (hy := .inl ⟨by rfl, ?_⟩) (h := ?_)
            rotate_left 1
            · (intro wS hSw; (try dsimp only at hSw); go_simp; try (with_reducible rfl))
            try simp only [Act.put, List.setIfInBounds_toArray, List.set_cons_zero, List.set_cons_succ]
            refine tkH (i := 2) (v := ?_) (hy := .inl ⟨by rfl, ?_⟩) (h := ?_)
            rotate_left 1
            · (intro wS hSw; (try dsimp only at hSw); go_simp; try (with_reducible rfl))
            try simp only [Act.put, List.setIfInBounds_toArray, List.set_cons_zero, List.set_cons_succ]
            refine tkH (i := 3) (v := ?_) (hy := .inl ⟨by rfl, ?_⟩) (h := ?_)
            rotate_left 1
            · (intro wS hSw; (try dsimp only at hSw); go_simp; try (with_reducible rfl))
            try simp only [Act.put, List.setIfInBounds_toArray, List.set_cons_zero, List.set_cons_succ]
            refine tkH (i := 4) (v := ?_) (hy := .inl ⟨by rfl, ?_⟩) (h := ?_)
            rotate_left 1
            · (intro wS hSw; (try dsimp only at hSw); go_simp; try (with_reducible rfl))
            try simp only [Act.put, List.setIfInBounds_toArray, List.set_cons_zero, List.set_cons_succ]
            refine tkH (i := 5) (v := ?_) (hy := .inl ⟨by rfl, ?_⟩) (h := ?_)
            rotate_left 1
            · (intro wS hSw; (try dsimp only at hSw); go_simp; try (with_reducible rfl))
            try simp only [Act.put, List.setIfInBounds_toArray, List.set_cons_zero, List.set_cons_succ]
            refine tkH (i := 6) (v := ?_) (hy := .inl ⟨by rfl, ?_⟩) (h := ?_)
            rotate_left 1
            · (intro wS hSw; (try dsimp only at hSw); go_simp; try (with_reducible rfl))
            try simp only [Act.put, List.setIfInBounds_toArray, List.set_cons_zero, List.set_cons_succ]
            refine tkH (i := 7) (v := ?_) (hy := .inl ⟨by rfl, ?_⟩) (h := ?_)
            rotate_left 1
            · (intro wS hSw; (try dsimp only at hSw); go_simp; try (with_reducible rfl))
            try simp only [Act.put, List.setIfInBounds_toArray, List.set_cons_zero, List.set_cons_succ]
            refine tkH (i := 8) (v := ?_) (hy := .inl ⟨by rfl, ?_⟩) (h := ?_)
            rotate_left 1
            · (intro wS hSw; (try dsimp only at hSw); go_simp; try (with_reducible rfl))
            try simp only [Act.put, List.setIfInBounds_toArray, List.set_cons_zero, List.set_cons_succ]
            refine tkH (i := 9) (v := ?_) (hy := .inl ⟨by rfl, ?_⟩) (h := ?_)
            rotate_left 1
            · (intro wS hSw; (try dsimp only at hSw); go_simp; try (with_reducible rfl))
            try simp only [Act.put, List.setIfInBounds_toArray, List.set_cons_zero, List.set_cons_succ]
            refine tkH (i := 10) (v := ?_) (hy := .inl ⟨by rfl, ?_⟩) (h := ?_)
            rotate_left 1
            · (intro wS hSw; (try dsimp only at hSw); go_simp; try (with_reducible rfl))
            try simp only [Act.put, List.setIfInBounds_toArray, List.set_cons_zero, List.set_cons_succ]
            refine tkH (i := 11) (v := ?_) (hy := .inl ⟨by rfl, ?_⟩) (h := ?_)
            rotate_left 1
            · (intro wS hSw; (try dsimp only at hSw); go_simp; try (with_reducible rfl))
            try simp only [Act.put, List.setIfInBounds_toArray, List.set_cons_zero, List.set_cons_succ]
            refine tkH (i := 12) (v := ?_) (hy := .inl ⟨by rfl, ?_⟩) (h := ?_)
            rotate_left 1
            · (intro wS hSw; (try dsimp only at hSw); go_simp; try (with_reducible rfl))
            try simp only [Act.put, List.setIfInBounds_toArray, List.set_cons_zero, List.set_cons_succ]
            refine tkH (i := 13) (v := ?_) (hy := .inl ⟨by rfl, ?_⟩) (h := ?_)
            rotate_left 1
            · (intro wS hSw; (try dsimp only at hSw); go_simp; try (with_reducible rfl))
            try simp only [Act.put, List.setIfInBounds_toArray, List.set_cons_zero, List.set_cons_succ]
            refine tkH (i := 14) (v := ?_) (hy := .inl ⟨by rfl, ?_⟩) (h := ?_)
            rotate_left 1
            · (intro wS hSw; (try dsimp only at hSw); go_simp; try (with_reducible rfl))
            try simp only [Act.put, List.setIfInBounds_toArray, List.set_cons_zero, List.set_cons_succ]
            refine tkH (i := 15) (v := ?_) (hy := .inl ⟨by rfl, ?_⟩) (h := ?_)
            rotate_left 1
            · (intro wS hSw; (try dsimp only at hSw); go_simp; try (with_reducible rfl))
            try simp only [Act.put, List.setIfInBounds_toArray, List.set_cons_zero, List.set_cons_succ]
            refine tkH (i := 16) (v := ?_) (hy := .inl ⟨by rfl, ?_⟩) (h := ?_)
            rotate_left 1
            · (intro wS hSw; (try dsimp only at hSw); go_simp; try (with_reducible rfl))
            try simp only [Act.put, List.setIfInBounds_toArray, List.set_cons_zero, List.set_cons_succ]
            refine tkH (i := 17) (v := ?_) (hy := .inl ⟨by rfl, ?_⟩) (h := ?_)
            rotate_left 1
            · (intro wS hSw; (try dsimp only at hSw); go_simp; try (with_reducible rfl))
            try simp only [Act.put, List.setIfInBounds_toArray, List.set_cons_zero, List.set_cons_succ]
            refine tkH (i := 18) (v := ?_) (hy := .inl ⟨by rfl, ?_⟩) (h := ?_)
            rotate_left 1
            · (intro wS hSw; (try dsimp only at hSw); go_simp; try (with_reducible rfl))
            try simp only [Act.put, List.setIfInBounds_toArray, List.set_cons_zero, List.set_cons_succ]
            refine tkH (i := 19) (v := ?_) (hy := .inl ⟨by rfl, ?_⟩) (h := ?_)
            rotate_left 1
            · (intro wS hSw; (try dsimp only at hSw); go_simp; try (with_reducible rfl))
            try simp only [Act.put, List.setIfInBounds_toArray, List.set_cons_zero, List.set_cons_succ]
            refine tkH (i := 20) (v := ?_) (hy := .inl ⟨by rfl, ?_⟩) (h := ?_)
            rotate_left 1
            · (intro wS hSw; (try dsimp only at hSw); go_simp; try (with_reducible rfl))
            try simp only [Act.put, List.setIfInBounds_toArray, List.set_cons_zero, List.set_cons_succ]
            refine tkH (i := 21) (v := ?_) (hy := .inl ⟨by rfl, ?_⟩) (h := ?_)
            rotate_left 1
            · (intro wS hSw; (try dsimp only at hSw); go_simp; try (with_reducible rfl))
            try simp only [Act.put, List.setIfInBounds_toArray, List.set_cons_zero, List.set_cons_succ]
            refine tkH (i := 22) (v := ?_) (hy := .inl ⟨by rfl, ?_⟩) (h := ?_)
            rotate_left 1
            · (intro wS hSw; (try dsimp only at hSw); go_simp; try (with_reducible rfl))
            try simp only [Act.put, List.setIfInBounds_toArray, List.set_cons_zero, List.set_cons_succ]
            refine wpAnyH_done (by kernel_rfl) ?_ _
            go_wp2
            go_roundw
            case rel => exact ⟨j + 1, 1, by omega, by omega, by go_num, by first | rfl | go_num, HNX.out _ (HSAME.out _ (bel_drew _))⟩
            case measure => simp [intOf]; omega
          · obtain ⟨y, hy⟩ : ∃ y, f.whs A = y := ⟨_, rfl⟩
            rw [hy] at k1 hz
            have ez : (y == 0) = false := by simpa using hz
            have HNX : Hid (∀ wr', StepOK T E E' a c G P M1 (doI c G P f ⟨34, D, (A : Int), B, Ec, nn, bt⟩) wr wr' → ∃ f s X M m, GoInv T E E' a c G P f0 w (j + 1) 0 wr' f s X M m) := fun wr' hs => NX (next_C c G P f (fun e => hz (by have := e.2; rw [← hy]; exact this))) hs
            clear NX hwc hz aR gi hy
            go_wp2
            refine wp_region_held_drew (S := (fun v => v.cell? ⟨lb, lo + j * 7, none⟩ = some (.int .i64 34) ∧ v.cell? ⟨FR, 3, none⟩ = some (.slice (some ⟨WB, 0, none⟩) Nr Nr) ∧ v.cell? ⟨lb, lo + j * 7 + 2, none⟩ = some (.int .i64 (A : Int)) ∧ v.cell? ⟨WB, A, none⟩ = some (.int .i64 y))) (by kernel_rfl) ?_ (fun hHeld => ?_)
            · ((try dsimp only); go_keep)
            refine tkH (i := 0) (v := ?_) (hy := .inl ⟨by rfl, ?_⟩) (h := ?_)
            rotate_left 1
            · (intro wS hSw; (try dsimp only at hSw); go_simp; try (with_reducible rfl))
            try simp only [Act.put, List.setIfInBounds_toArray, List.set_cons_zero, List.set_cons_succ]
            refine tkH (i := 1) (v := ?_) (hy := .inl ⟨by rfl, ?_⟩) (h := ?_)
            rotate_left 1
            · (intro wS hSw; (try dsimp only at hSw); go_simp; try (with_reducible rfl))
            try simp only [Act.put, List.setIfInBounds_toArray, List.set_cons_zero, List.set_cons_succ]
            refine tkH (i := 2) (v := ?_) (hy := .inl ⟨by rfl, ?_⟩) (h := ?_)
            rotate_left 1
            · (intro wS hSw; (try dsimp only at hSw); go_simp; try (with_reducible rfl))
            try simp only [Act.put, List.setIfInBounds_toArray, List.set_cons_zero, List.set_cons_succ]
            refine tkH (i := 3) (v := ?_) (hy := .inl ⟨by rfl, ?_⟩) (h := ?_)
            rotate_left 1
            · (intro wS hSw; (try dsimp only at hSw); go_simp; try (with_reducible rfl))
            try simp only [Act.put, List.setIfInBounds_toArray, List.set_cons_zero, List.set_cons_succ]
            refine tkH (i := 4) (v := ?_) (hy := .inl ⟨by rfl, ?_⟩) (h := ?_)
            rotate_left 1
            · (intro wS hSw; (try dsimp only at hSw); go_simp; try (with_reducible rfl))
            try simp only [Act.put, List.setIfInBounds_toArray, List.set_cons_zero, List.set_cons_succ]
            refine tkH (i := 5) (v := ?_) (hy := .inl ⟨by rfl, ?_⟩) (h := ?_)
            rotate_left 1
            · (intro wS hSw; (try dsimp only at hSw); go_simp; try (with_reducible rfl))
            try simp only [Act.put, List.setIfInBounds_toArray, List.set_cons_zero, List.set_cons_succ]
            refine tkH (i := 6) (v := ?_) (hy := .inl ⟨by rfl, ?_⟩) (h := ?_)
            rotate_left 1
            · (intro wS hSw; (try dsimp only at hSw); go_simp; try (with_reducible rfl))
            try simp only [Act.put, List.setIfInBounds_toArray, List.set_cons_zero, List.set_cons_succ]
            refine tkH (i := 7) (v := ?_) (hy := .inl ⟨by rfl, ?_⟩) (h := ?_)
            rotate_left 1
            · (intro wS hSw; (try dsimp only at hSw); go_simp; try (with_reducible rfl))
            try simp only [Act.put, List.setIfInBounds_toArray, List.set_cons_zero, List.set_cons_succ]
            refine tkH (i := 8) (v := ?_) (hy := .inl ⟨by rfl, ?_⟩) (h := ?_)
            rotate_left 1
            · (intro wS hSw; (try dsimp only at hSw); go_simp; try (with_reducible rfl))
            try simp only [Act.put, List.setIfInBounds_toArray, List.set_cons_zero, List.set_cons_succ]
            refine tkH (i := 9) (v := ?_) (hy := .inl ⟨by rfl, ?_⟩) (h := ?_)
            rotate_left 1
            · (intro wS hSw; (try dsimp only at hSw); go_simp; try (with_reducible rfl))
            try simp only [Act.put, List.setIfInBounds_toArray, List.set_cons_zero, List.set_cons_succ]
            refine tkH (i := 10) (v := ?_) (hy := .inl ⟨by rfl, ?_⟩) (h := ?_)
            rotate_left 1
            · (intro wS hSw; (try dsimp only at hSw); go_simp; try (with_reducible rfl))
            try simp only [Act.put, List.setIfInBounds_toArray, List.set_cons_zero, List.set_cons_succ]
            refine tkH (i := 11) (v := ?_) (hy := .inl ⟨by rfl, ?_⟩) (h := ?_)
            rotate_left 1
            · (intro wS hSw; (try dsimp only at hSw); go_simp; try (with_reducible rfl))
            try simp only [Act.put, List.setIfInBounds_toArray, List.set_cons_zero, List.set_cons_succ]
            refine tkH (i := 12) (v := ?_) (hy := .inl ⟨by rfl, ?_⟩) (h := ?_)
            rotate_left 1
            · (intro wS hSw; (try dsimp only at hSw); go_simp; try (with_reducible rfl))
            try simp only [Act.put, List.setIfInBounds_toArray, List.set_cons_zero, List.set_cons_succ]
            refine tkH (i := 13) (v := ?_) (hy := .inl ⟨by rfl, ?_⟩) (h := ?_)
            rotate_left 1
            · (intro wS hSw; (try dsimp only at hSw); go_simp; try (with_reducible rfl))
            try simp only [Act.put, List.setIfInBounds_toArray, List.set_cons_zero, List.set_cons_succ]
            refine tkH (i := 14) (v := ?_) (hy := .inl ⟨by rfl, ?_⟩) (h := ?_)
            rotate_left 1
            · (intro wS hSw; (try dsimp only at hSw); go_simp; try (with_reducible rfl))
            try simp only [Act.put, List.setIfInBounds_toArray, List.set_cons_zero, List.set_cons_succ]
            refine tkH (i := 15) (v := ?_) (hy := .inl ⟨by rfl, ?_⟩) (h := ?_)
            rotate_left 1
            · (intro wS hSw; (try dsimp only at hSw); go_simp; try (with_reducible rfl))
            try simp only [Act.put, List.setIfInBounds_toArray, List.set_cons_zero, List.set_cons_succ]
            refine tkH (i := 16) (v := ?_) (hy := .inl ⟨by rfl, ?_⟩) (h := ?_)
            rotate_left 1
            · (intro wS hSw; (try dsimp only at hSw); go_simp; try (with_reducible rfl))
            try simp only [Act.put, List.setIfInBounds_toArray, List.set_cons_zero, List.set_cons_succ]
            refine tkH (i := 17) (v := ?_) (hy := .inl ⟨by rfl, ?_⟩) (h := ?_)
            rotate_left 1
            · (intro wS hSw; (try dsimp only at hSw); go_simp; try (with_reducible rfl))
            try simp only [Act.put, List.setIfInBounds_toArray, List.set_cons_zero, List.set_cons_succ]
            refine tkH (i := 18) (v := ?_) (hy := .inl ⟨by rfl, ?_⟩) (h := ?_)
            rotate_left 1
            · (intro wS hSw; (try dsimp only at hSw); go_simp; try (with_reducible rfl))
            try simp only [Act.put, List.setIfInBounds_toArray, List.set_cons_zero, List.set_cons_succ]
            refine tkH (i := 19) (v := ?_) (hy := .inl ⟨by rfl, ?_⟩) (h := ?_)
            rotate_left 1
            · (intro wS hSw; (try dsimp only at hSw); go_simp; try (with_reducible rfl))
            try simp only [Act.put, List.setIfInBounds_toArray, List.set_cons_zero, List.set_cons_succ]
            refine tkH (i := 20) (v := ?_) (hy := .inl ⟨by rfl, ?_⟩) (h := ?_)
            rotate_left 1
            · (intro wS hSw; (try dsimp only at hSw); go_simp; try (with_reducible rfl))
            try simp only [Act.put, List.setIfInBounds_toArray, List.set_cons_zero, List.set_cons_succ]
            refine tkH (i := 21) (v := ?_) (hy := .inl ⟨by rfl, ?_⟩) (h := ?_)
            rotate_left 1
            · (intro wS hSw; (try dsimp only at hSw); go_simp; try (with_reducible rfl))
            try simp only [Act.put, List.setIfInBounds_toArray, List.set_cons_zero, List.set_cons_succ]
            refine tkH (i := 22) (v := ?_) (hy := .inl ⟨by rfl, ?_⟩) (h := ?_)
            rotate_left 1
            · (intro wS hSw; (try dsimp only at hSw); go_simp; try (with_reducible rfl))
            try simp only [Act.put, List.setIfInBounds_toArray, List.set_cons_zero, List.set_cons_succ]
            refine wpAnyH_done (by kernel_rfl) ?_ _
            go_wp2_with (go_at_call 48; refine (HDO.out _ (bel_drew _)).mono ?_; rintro e w1 ⟨rfl, hst⟩; have HST := hidM hst; clear hst)
            go_roundw
            case rel => exact ⟨j + 1, 0, by omega, by omega, by go_num, by first | rfl | go_num, HNX.out _ HST.out⟩
            case measure => simp [intOf]; omega
        · have e34 : (op == 34) = false := by simpa using h34
          have HNX : Hid (∀ wr', StepOK T E E' a c G P M1 (doI c G P f ⟨op, D, A, B, Ec, nn, bt⟩) wr wr' → ∃ f s X M m, GoInv T E E' a c G P f0 w (j + 1) 0 wr' f s X M m) := fun wr' hs => NX (next_C c G P f (fun e => h34 e.1)) hs
          clear NX hwc aR gi h34
          go_wp2
          refine wp_region_held_drew (S := (fun v => v.cell? ⟨lb, lo + j * 7, none⟩ = some (.int .i64 op))) (by kernel_rfl) ?_ (fun hHeld => ?_)
          · ((try dsimp only); go_keep)
          refine tkH (i := 0) (v := ?_) (hy := .inl ⟨by rfl, ?_⟩) (h := ?_)
          rotate_left 1
          · (intro wS hSw; (try dsimp only at hSw); go_simp; try (with_reducible rfl))
          try simp only [Act.put, List.setIfInBounds_toArray, List.set_cons_zero, List.set_cons_succ]
          refine tkH (i := 1) (v := ?_) (hy := .inl ⟨by rfl, ?_⟩) (h := ?_)
          rotate_left 1
          · (intro wS hSw; (try dsimp only at hSw); go_simp; try (with_reducible rfl))
          try simp only [Act.put, List.setIfInBounds_toArray, List.set_cons_zero, List.set_cons_succ]
          refine tkH (i := 2) (v := ?_) (hy := .inl ⟨by rfl, ?_⟩) (h := ?_)
          rotate_left 1
          · (intro wS hSw; (try dsimp only at hSw); go_simp; try (with_reducible rfl))
          try simp only [Act.put, List.setIfInBounds_toArray, List.set_cons_zero, List.set_cons_succ]
          refine tkH (i := 3) (v := ?_) (hy := .inl ⟨by rfl, ?_⟩) (h := ?_)
          rotate_left 1
          · (intro wS hSw; (try dsimp only at hSw); go_simp; try (with_reducible rfl))
          try simp only [Act.put, List.setIfInBounds_toArray, List.set_cons_zero, List.set_cons_succ]
          refine tkH (i := 4) (v := ?_) (hy := .inl ⟨by rfl, ?_⟩) (h := ?_)
          rotate_left 1
          · (intro wS hSw; (try dsimp only at hSw); go_simp; try (with_reducible rfl))
          try simp only [Act.put, List.setIfInBounds_toArray, List.set_cons_zero, List.set_cons_succ]
          refine tkH (i := 5) (v := ?_) (hy := .inl ⟨by rfl, ?_⟩) (h := ?_)
          rotate_left 1
          · (intro wS hSw; (try dsimp only at hSw); go_simp; try (with_reducible rfl))
          try simp only [Act.put, List.setIfInBounds_toArray, List.set_cons_zero, List.set_cons_succ]
          refine tkH (i := 6) (v := undef) (hy := .inr ⟨by rfl, rfl⟩) (h := ?_)
          try simp only [Act.put, List.setIfInBounds_toArray, List.set_cons_zero, List.set_cons_succ]
          refine tkH (i := 7) (v := undef) (hy := .inr ⟨by rfl, rfl⟩) (h := ?_)
          try simp only [Act.put, List.setIfInBounds_toArray, List.set_cons_zero, List.set_cons_succ]
          refine tkH (i := 8) (v := undef) (hy := .inr ⟨by rfl, rfl⟩) (h := ?_)
          try simp only [Act.put, List.setIfInBounds_toArray, List.set_cons_zero, List.set_cons_succ]
          refine tkH (i := 9) (v := undef) (hy := .inr ⟨by rfl, rfl⟩) (h := ?_)
          try simp only [Act.put, List.setIfInBounds_toArray, List.set_cons_zero, List.set_cons_succ]
          refine tkH (i := 10) (v := undef) (hy := .inr ⟨by rfl, rfl⟩) (h := ?_)
          try simp only [Act.put, List.setIfInBounds_toArray, List.set_cons_zero, List.set_cons_succ]
          refine tkH (i := 11) (v := undef) (hy := .inr ⟨by rfl, rfl⟩) (h := ?_)
          try simp only [Act.put, List.setIfInBounds_toArray, List.set_cons_zero, List.set_cons_succ]
          refine tkH (i := 12) (v := undef) (hy := .inr ⟨by rfl, rfl⟩) (h := ?_)
          try simp only [Act.put, List.setIfInBounds_toArray, List.set_cons_zero, List.set_cons_succ]
          refine tkH (i := 13) (v := undef) (hy := .inr ⟨by rfl, rfl⟩) (h := ?_)
          try simp only [Act.put, List.setIfInBounds_toArray, List.set_cons_zero, List.set_cons_succ]
          refine tkH (i := 14) (v := undef) (hy := .inr ⟨by rfl, rfl⟩) (h := ?_)
          try simp only [Act.put, List.setIfInBounds_toArray, List.set_cons_zero, List.set_cons_succ]
          refine tkH (i := 15) (v := undef) (hy := .inr ⟨by rfl, rfl⟩) (h := ?_)
          try simp only [Act.put, List.setIfInBounds_toArray, List.set_cons_zero, List.set_cons_succ]
          refine tkH (i := 16) (v := undef) (hy := .inr ⟨by rfl, rfl⟩) (h := ?_)
          try simp only [Act.put, List.setIfInBounds_toArray, List.set_cons_zero, List.set_cons_succ]
          refine tkH (i := 17) (v := undef) (hy := .inr ⟨by rfl, rfl⟩) (h := ?_)
          try simp only [Act.put, List.setIfInBounds_toArray, List.set_cons_zero, List.set_cons_succ]
          refine tkH (i := 18) (v := undef) (hy := .inr ⟨by rfl, rfl⟩) (h := ?_)
          try simp only [Act.put, List.setIfInBounds_toArray, List.set_cons_zero, List.set_cons_succ]
          refine tkH (i := 19) (v := undef) (hy := .inr ⟨by rfl, rfl⟩) (h := ?_)
          try simp only [Act.put, List.setIfInBounds_toArray, List.set_cons_zero, List.set_cons_succ]
          refine tkH (i := 20) (v := undef) (hy := .inr ⟨by rfl, rfl⟩) (h := ?_)
          try simp only [Act.put, List.setIfInBounds_toArray, List.set_cons_zero, List.set_cons_succ]
          refine tkH (i := 21) (v := ?_) (hy := .inl ⟨by rfl, ?_⟩) (h := ?_)
          rotate_left 1
          · (intro wS hSw; (try dsimp only at hSw); go_simp; try (with_reducible rfl))
          try simp only [Act.put, List.setIfInBounds_toArray, List.set_cons_zero, List.set_cons_succ]
          refine tkH (i := 22) (v := ?_) (hy := .inl ⟨by rfl, ?_⟩) (h := ?_)
          rotate_left 1
          · (intro wS hSw; (try dsimp only at hSw); go_simp; try (with_reducible rfl))
          try simp only [Act.put, List.setIfInBounds_toArray, List.set_cons_zero, List.set_cons_succ]
          refine wpAnyH_done (by kernel_rfl) ?_ _
          go_wp2_with (go_at_call 48; refine (HDO.out _ (bel_drew _)).mono ?_; rintro e w1 ⟨rfl, hst⟩; have HST := hidM hst; clear hst)
          go_roundw
          case rel => exact ⟨j + 1, 0, by omega, by omega, by go_num, by first | rfl | go_num, HNX.out _ HST.out⟩
          case measure => simp [intOf]; omega
      · obtain ⟨K, rfl⟩ : ∃ K, k = K + 1 := ⟨k - 1, by omega⟩
        have ek : (0 : Int) < ((K + 1 : Nat) : Int) := by omega
        have ek2 : (((K + 1 : Nat) : Int) == 0) = false := by have : ((K + 1 : Nat) : Int) ≠ 0 := (by omega); simpa using this
        clear DO
        by_cases h35 : op = 35
        · subst h35
          have HNX : Hid (∀ wr', StepOK T E E' a c G P M1 f wr wr' → ∃ f s X M m, GoInv T E E' a c G P f0 w (j + 1) K wr' f s X M m) := fun wr' hs => NX (next_A c G P f K rfl) hs
          have ew : IntKind.i64.wrap (((K + 1 : Nat) : Int) - 1) = (K : Int) := by rw [IntKind.wrap_i64]; omega
          clear NX hwc aR gi hk
          go_wp2
          go_roundw
          case rel => exact ⟨j + 1, K, by omega, by omega, by go_num, by first | rfl | go_num, HNX.out _ (HSAME.out _ (bel0 _))⟩
          case measure => simp [intOf]; omega
        · have e35 : (op == 35) = false := by simpa using h35
          by_cases h34 : op = 34
          · subst h34
            have HNX : Hid (∀ wr', StepOK T E E' a c G P M1 f wr wr' → ∃ f s X M m, GoInv T E E' a c G P f0 w (j + 1) (K + 2) wr' f s X M m) := fun wr' hs => NX (next_B c G P f (K + 1) rfl (.inl (by omega))) hs
            have ew : IntKind.i64.wrap (((K + 1 : Nat) : Int) + 1) = ((K + 2 : Nat) : Int) := by rw [IntKind.wrap_i64]; omega
            clear NX hwc aR gi hk h35
            go_wp2
            refine wp_region_held_drew (S := (fun v => v.cell? ⟨lb, lo + j * 7, none⟩ = some (.int .i64 34))) (by kernel_rfl) ?_ (fun hHeld => ?_)
            · ((try dsimp only); go_keep)
            refine tkH (i := 0) (v := ?_) (hy := .inl ⟨by rfl, ?_⟩) (h := ?_)
            rotate_left 1
            · (intro wS hSw; (try dsimp only at hSw); go_simp; try (with_reducible rfl))
            try simp only [Act.put, List.setIfInBounds_toArray, List.set_cons_zero, List.set_cons_succ]
            refine tkH (i := 1) (v := ?_) (hy := .inl ⟨by rfl, ?_⟩) (h := ?_)
            rotate_left 1
            · (intro wS hSw; (try dsimp only at hSw); go_simp; try (with_reducible rfl))
            try simp only [Act.put, List.setIfInBounds_toArray, List.set_cons_zero, List.set_cons_succ]
            refine tkH (i := 2) (v := ?_) (hy := .inl ⟨by rfl, ?_⟩) (h := ?_)
            rotate_left 1
            · (intro wS hSw; (try dsimp only at hSw); go_simp; try (with_reducible rfl))
            try simp only [Act.put, List.setIfInBounds_toArray, List.set_cons_zero, List.set_cons_succ]
            refine tkH (i := 3) (v := ?_) (hy := .inl ⟨by rfl, ?_⟩) (h := ?_)
            rotate_left 1
            · (intro wS hSw; (try dsimp only at hSw); go_simp; try (with_reducible rfl))
            try simp only [Act.put, List.setIfInBounds_toArray, List.set_cons_zero, List.set_cons_succ]
            refine tkH (i := 4) (v := ?_) (hy := .inl ⟨by rfl, ?_⟩) (h := ?_)
            rotate_left 1
            · (intro wS hSw; (try dsimp only at hSw); go_simp; try (with_reducible rfl))
            try simp only [Act.put, List.setIfInBounds_toArray, List.set_cons_zero, List.set_cons_succ]
            refine tkH (i := 5) (v := ?_) (hy := .inl ⟨by rfl, ?_⟩) (h := ?_)
            rotate_left 1
            · (intro wS hSw; (try dsimp only at hSw); go_simp; try (with_reducible rfl))
            try simp only [Act.put, List.setIfInBounds_toArray, List.set_cons_zero, List.set_cons_succ]
            refine tkH (i := 6) (v := ?_) (hy := .inl ⟨by rfl, ?_⟩) (h := ?_)
            rotate_left 1
            · (intro wS hSw; (try dsimp only at hSw); go_simp; try (with_reducible rfl))
            try simp only [Act.put, List.setIfInBounds_toArray, List.set_cons_zero, List.set_cons_succ]
            refine tkH (i := 7) (v := ?_) (hy := .inl ⟨by rfl, ?_⟩) (h := ?_)
            rotate_left 1
            · (intro wS hSw; (try dsimp only at hSw); go_simp; try (with_reducible rfl))
            try simp only [Act.put, List.setIfInBounds_toArray, List.set_cons_zero, List.set_cons_succ]
            refine tkH (i := 8) (v := ?_) (hy := .inl ⟨by rfl, ?_⟩) (h := ?_)
            rotate_left 1
            · (intro wS hSw; (try dsimp only at hSw); go_simp; try (with_reducible rfl))
            try simp only [Act.put, List.setIfInBounds_toArray, List.set_cons_zero, List.set_cons_succ]
            refine tkH (i := 9) (v := undef) (hy := .inr ⟨by rfl, rfl⟩) (h := ?_)
            try simp only [Act.put, List.setIfInBounds_toArray, List.set_cons_zero, List.set_cons_succ]
            refine tkH (i := 10) (v := undef) (hy := .inr ⟨by rfl, rfl⟩) (h := ?_)
            try simp only [Act.put, List.setIfInBounds_toArray, List.set_cons_zero, List.set_cons_succ]
            refine tkH (i := 11) (v := undef) (hy := .inr ⟨by rfl, rfl⟩) (h := ?_)
            try simp only [Act.put, List.setIfInBounds_toArray, List.set_cons_zero, List.set_cons_succ]
            refine tkH (i := 12) (v := undef) (hy := .inr ⟨by rfl, rfl⟩) (h := ?_)
            try simp only [Act.put, List.setIfInBounds_toArray, List.set_cons_zero, List.set_cons_succ]
            refine tkH (i := 13) (v := undef) (hy := .inr ⟨by rfl, rfl⟩) (h := ?_)
            try simp only [Act.put, List.setIfInBounds_toArray, List.set_cons_zero, List.set_cons_succ]
            refine tkH (i := 14) (v := undef) (hy := .inr ⟨by rfl, rfl⟩) (h := ?_)
            try simp only [Act.put, List.setIfInBounds_toArray, List.set_cons_zero, List.set_cons_succ]
            refine tkH (i := 15) (v := undef) (hy := .inr ⟨by rfl, rfl⟩) (h := ?_)
            try simp only [Act.put, List.setIfInBounds_toArray, List.set_cons_zero, List.set_cons_succ]
            refine tkH (i := 16) (v := undef) (hy := .inr ⟨by rfl, rfl⟩) (h := ?_)
            try simp only [Act.put, List.setIfInBounds_toArray, List.set_cons_zero, List.set_cons_succ]
            refine tkH (i := 17) (v := undef) (hy := .inr ⟨by rfl, rfl⟩) (h := ?_)
            try simp only [Act.put, List.setIfInBounds_toArray, List.set_cons_zero, List.set_cons_succ]
            refine tkH (i := 18) (v := undef) (hy := .inr ⟨by rfl, rfl⟩) (h := ?_)
            try simp only [Act.put, List.setIfInBounds_toArray, List.set_cons_zero, List.set_cons_succ]
            refine tkH (i := 19) (v := undef) (hy := .inr ⟨by rfl, rfl⟩) (h := ?_)
            try simp only [Act.put, List.setIfInBounds_toArray, List.set_cons_zero, List.set_cons_succ]
            refine tkH (i := 20) (v := ?_) (hy := .inl ⟨by rfl, ?_⟩) (h := ?_)
            rotate_left 1
            · (intro wS hSw; (try dsimp only at hSw); go_simp; try (with_reducible rfl))
            try simp only [Act.put, List.setIfInBounds_toArray, List.set_cons_zero, List.set_cons_succ]
            refine tkH (i := 21) (v := ?_) (hy := .inl ⟨by rfl, ?_⟩) (h := ?_)
            rotate_left 1
            · (intro wS hSw; (try dsimp only at hSw); go_simp; try (with_reducible rfl))
            try simp only [Act.put, List.setIfInBounds_toArray, List.set_cons_zero, List.set_cons_succ]
            refine tkH (i := 22) (v := ?_) (hy := .inl ⟨by rfl, ?_⟩) (h := ?_)
            rotate_left 1
            · (intro wS hSw; (try dsimp only at hSw); go_simp; try (with_reducible rfl))
            try simp only [Act.put, List.setIfInBounds_toArray, List.set_cons_zero, List.set_cons_succ]
            refine wpAnyH_done (by kernel_rfl) ?_ _
            go_wp2
            go_roundw
            case rel => exact ⟨j + 1, K + 2, by omega, by omega, by go_num, by first | rfl | go_num, HNX.out _ (HSAME.out _ (bel_drew _))⟩
            case measure => simp [intOf]; omega
          · have e34 : (op == 34) = false := by simpa using h34
            have HNX : Hid (∀ wr', StepOK T E E' a c G P M1 f wr wr' → ∃ f s X M m, GoInv T E E' a c G P f0 w (j + 1) (K + 1) wr' f s X M m) := fun wr' hs => NX (next_D c G P f K h34 h35) hs
            clear NX hwc aR gi hk h35 h34
            go_wp2
            refine wp_region_held_drew (S := (fun v => v.cell? ⟨lb, lo + j * 7, none⟩ = some (.int .i64 op))) (by kernel_rfl) ?_ (fun hHeld => ?_)
            · ((try dsimp only); go_keep)
            refine tkH (i := 0) (v := ?_) (hy := .inl ⟨by rfl, ?_⟩) (h := ?_)
            rotate_left 1
            · (intro wS hSw; (try dsimp only at hSw); go_simp; try (with_reducible rfl))
            try simp only [Act.put, List.setIfInBounds_toArray, List.set_cons_zero, List.set_cons_succ]
            refine tkH (i := 1) (v := ?_) (hy := .inl ⟨by rfl, ?_⟩) (h := ?_)
            rotate_left 1
            · (intro wS hSw; (try dsimp only at hSw); go_simp; try (with_reducible rfl))
            try simp only [Act.put, List.setIfInBounds_toArray, List.set_cons_zero, List.set_cons_succ]
            refine tkH (i := 2) (v := ?_) (hy := .inl ⟨by rfl, ?_⟩) (h := ?_)
            rotate_left 1
            · (intro wS hSw; (try dsimp only at hSw); go_simp; try (with_reducible rfl))
            try simp only [Act.put, List.setIfInBounds_toArray, List.set_cons_zero, List.set_cons_succ]
            refine tkH (i := 3) (v := ?_) (hy := .inl ⟨by rfl, ?_⟩) (h := ?_)
            rotate_left 1
            · (intro wS hSw; (try dsimp only at hSw); go_simp; try (with_reducible rfl))
            try simp only [Act.put, List.setIfInBounds_toArray, List.set_cons_zero, List.set_cons_succ]
            refine tkH (i := 4) (v := ?_) (hy := .inl ⟨by rfl, ?_⟩) (h := ?_)
            rotate_left 1
            · (intro wS hSw; (try dsimp only at hSw); go_simp; try (with_reducible rfl))
            try simp only [Act.put, List.setIfInBounds_toArray, List.set_cons_zero, List.set_cons_succ]
            refine tkH (i := 5) (v := ?_) (hy := .inl ⟨by rfl, ?_⟩) (h := ?_)
            rotate_left 1
            · (intro wS hSw; (try dsimp only at hSw); go_simp; try (with_reducible rfl))
            try simp only [Act.put, List.setIfInBounds_toArray, List.set_cons_zero, List.set_cons_succ]
            refine tkH (i := 6) (v := undef) (hy := .inr ⟨by rfl, rfl⟩) (h := ?_)
            try simp only [Act.put, List.setIfInBounds_toArray, List.set_cons_zero, List.set_cons_succ]
            refine tkH (i := 7) (v := undef) (hy := .inr ⟨by rfl, rfl⟩) (h := ?_)
            try simp only [Act.put, List.setIfInBounds_toArray, List.set_cons_zero, List.set_cons_succ]
            refine tkH (i := 8) (v := undef) (hy := .inr ⟨by rfl, rfl⟩) (h := ?_)
            try simp only [Act.put, List.setIfInBounds_toArray, List.set_cons_zero, List.set_cons_succ]
            refine tkH (i := 9) (v := undef) (hy := .inr ⟨by rfl, rfl⟩) (h := ?_)
            try simp only [Act.put, List.setIfInBounds_toArray, List.set_cons_zero, List.set_cons_succ]
            refine tkH (i := 10) (v := undef) (hy := .inr ⟨by rfl, rfl⟩) (h := ?_)
            try simp only [Act.put, List.setIfInBounds_toArray, List.set_cons_zero, List.set_cons_succ]
            refine tkH (i := 11) (v := undef) (hy := .inr ⟨by rfl, rfl⟩) (h := ?_)
            try simp only [Act.put, List.setIfInBounds_toArray, List.set_cons_zero, List.set_cons_succ]
            refine tkH (i := 12) (v := undef) (hy := .inr ⟨by rfl, rfl⟩) (h := ?_)
            try simp only [Act.put, List.setIfInBounds_toArray, List.set_cons_zero, List.set_cons_succ]
            refine tkH (i := 13) (v := undef) (hy := .inr ⟨by rfl, rfl⟩) (h := ?_)
            try simp only [Act.put, List.setIfInBounds_toArray, List.set_cons_zero, List.set_cons_succ]
            refine tkH (i := 14) (v := undef) (hy := .inr ⟨by rfl, rfl⟩) (h := ?_)
            try simp only [Act.put, List.setIfInBounds_toArray, List.set_cons_zero, List.set_cons_succ]
            refine tkH (i := 15) (v := undef) (hy := .inr ⟨by rfl, rfl⟩) (h := ?_)
            try simp only [Act.put, List.setIfInBounds_toArray, List.set_cons_zero, List.set_cons_succ]
            refine tkH (i := 16) (v := undef) (hy := .inr ⟨by rfl, rfl⟩) (h := ?_)
            try simp only [Act.put, List.setIfInBounds_toArray, List.set_cons_zero, List.set_cons_succ]
            refine tkH (i := 17) (v := undef) (hy := .inr ⟨by rfl, rfl⟩) (h := ?_)
            try simp only [Act.put, List.setIfInBounds_toArray, List.set_cons_zero, List.set_cons_succ]
            refine tkH (i := 18) (v := undef) (hy := .inr ⟨by rfl, rfl⟩) (h := ?_)
            try simp only [Act.put, List.setIfInBounds_toArray, List.set_cons_zero, List.set_cons_succ]
            refine tkH (i := 19) (v := undef) (hy := .inr ⟨by rfl, rfl⟩) (h := ?_)
            try simp only [Act.put, List.setIfInBounds_toArray, List.set_cons_zero, List.set_cons_succ]
            refine tkH (i := 20) (v := undef) (hy := .inr ⟨by rfl, rfl⟩) (h := ?_)
            try simp only [Act.put, List.setIfInBounds_toArray, List.set_cons_zero, List.set_cons_succ]
            refine tkH (i := 21) (v := ?_) (hy := .inl ⟨by rfl, ?_⟩) (h := ?_)
            rotate_left 1
            · (intro wS hSw; (try dsimp only at hSw); go_simp; try (with_reducible rfl))
            try simp only [Act.put, List.setIfInBounds_toArray, List.set_cons_zero, List.set_cons_succ]
            refine tkH (i := 22) (v := ?_) (hy := .inl ⟨by rfl, ?_⟩) (h := ?_)
            rotate_left 1
            · (intro wS hSw; (try dsimp only at hSw); go_simp; try (with_reducible rfl))
            try simp only [Act.put, List.setIfInBounds_toArray, List.set_cons_zero, List.set_cons_succ]
            refine wpAnyH_done (by kernel_rfl) ?_ _
            go_wp2
            go_roundw
            case rel => exact ⟨j + 1, K + 1, by omega, by omega, by go_num, by first | rfl | go_num, HNX.out _ (HSAME.out _ (bel_drew _))⟩
            case measure => simp [intOf]; omega
    · have hjN : j = N := by omega
      subst hjN
      have hgo := gi.go
      rw [← HN.out, List.take_length] at hgo
      have HF : Hid (goI c G P (f0, 0) c.list = (f, k)) := hgo
      clear hgo gi
      go_wp2
      go_end0
      rw [HF.out]
      exact ⟨rfl, GI.out.x, ⟨_, _, _, GI.out.h, GI.out.ok⟩, GI.out.un⟩

end Go.Proofs.YtholhpmnicibgaaGreat
/- slices.Clone. -/
namespace Go.Proofs.YtholhpmnicibgaaGreat
open Go.RowKit
set_option linter.unusedVariables false
set_option linter.unusedSimpArgs false

/-- append of a row to an empty one that was just made. -/
theorem app_rowE {α : Type} {f : α → List Value} {k bytes : Nat} {t e : TypeId} {z : Value} {i : TypeInfo} (hk : 0 < k) (hf : ∀ x, (f x).length = k) (h1 : ∀ x, ∀ u ∈ f x, u.oneCell' = true) (ht : Tryz.prog.underlying t = some (.slice e)) (hi : Tryz.prog.info? e = some i) (hz : i.zero = some z) (hsize : i.size = k) (hby : i.bytes = bytes) (hzs : z.cells.size = k)
    {l : List α} {p : Option Addr} {d : Nat} {w : World} (h : RowG k f w (.slice p l.length d) l) (hl : l.length ≤ maxLen) (hb : l.length * bytes ≤ 140737488355328) (ty : TypeId) :
    ∃ p' c' w', (Builtin.append_ #[t, t] ty #[.slice (some ⟨w.heap.size, 0, none⟩) 0 0, .slice p l.length d]).run Tryz.prog (w.alloc (.cells #[] e)) = .ok (.slice p' l.length c') w' ∧ Below w.heap.size w w' ∧ RowT (fun b => b < w.heap.size) k f w' (.slice p' l.length c') l ∧ w'.ownsRow w.heap.size e k (.slice p' l.length c') l.length (flat f l) := by
  have hown0 : (w.alloc (.cells #[] e)).ownsRow w.heap.size e k (.slice (some ⟨w.heap.size, 0, none⟩) 0 0) 0 [] := ⟨by simp, .inr ⟨w.heap.size, 0, #[], rfl, Nat.le_refl _, heap_alloc_new w _, Nat.le_refl _, by unfold maxLen; omega, by simp, by simp⟩⟩
  by_cases h0 : l = []
  · subst h0
    refine ⟨some ⟨w.heap.size, 0, none⟩, 0, w.alloc (.cells #[] e), ?_, bel_alloc _ _, ⟨_, _, rfl, .inl rfl⟩, by simpa [flat] using hown0⟩
    cases p with
    | none => simp [Builtin.append_, run_underlying ht, sizeOf, typeInfo, hi, Builtin.lenOf, Builtin.firstCells, storeCells]
    | some a => simp [Builtin.append_, run_underlying ht, sizeOf, typeInfo, hi, Builtin.lenOf, Builtin.firstCells, storeCells, loadCells, loadCellsFrom]
  · have h' := h.below (bel_alloc w (.cells #[] e))
    obtain ⟨p', c', hv, h2⟩ := h'
    simp only [Value.slice.injEq] at hv
    obtain ⟨rfl, -, rfl⟩ := hv
    obtain ⟨b, o, rfl, h3⟩ := h2.resolve_left h0
    clear h2
    have hpos : 0 < l.length := List.length_pos_iff.2 h0
    obtain ⟨g, cap, w', hr, hown, hg, hat, hlt⟩ := run_append_lies (P := Tryz.prog) (w.alloc (.cells #[] e)) t ty w.heap.size e i z k bytes ht hi hz hsize hby hzs hk (.slice (some ⟨w.heap.size, 0, none⟩) 0 0) 0 [] hown0 ⟨b, o, none⟩ l.length d (flat f l) (flat_len hf l) (row_cells hk hf h3) (by intro u hu; obtain ⟨x, _, hx⟩ := List.mem_flatMap.1 hu; exact h1 x u hx) hpos (by omega) (by rw [Nat.zero_add]; exact hb) (by simp) _ rfl
    rw [Nat.zero_add] at hr hown
    rw [List.nil_append] at hown
    have hgb : ∀ g', (Value.slice (some ⟨g, 0, none⟩) l.length cap).ownBlock = some g' → w.heap.size ≤ g' := fun g' e => (hown.lt g' e).1
    refine ⟨_, cap, w', hr, ⟨hg.os, hg.tape, hg.output, Nat.le_trans (by simp) hg.size, fun j hj => (hg.block j (by simp; omega) (by show some j ≠ some w.heap.size; simp; omega)).trans ((bel_alloc w (.cells #[] e)).block j hj)⟩, ?_, hown⟩
    obtain ⟨q, cc, hq, hrow⟩ := own_row hf hown
    simp only [Value.slice.injEq] at hq
    obtain ⟨rfl, -, rfl⟩ := hq
    refine ⟨_, _, rfl, hrow.imp id fun ⟨b', o', hp, hh⟩ => ⟨b', o', hp, ?_, ?_, hh⟩⟩
    · simp only [Option.some.injEq, Addr.mk.injEq] at hp
      have := hgb g rfl
      omega
    · simp only [Option.some.injEq, Addr.mk.injEq] at hp
      have := (hown.lt g rfl).2
      omega

set_option maxRecDepth 100000 in
set_option maxHeartbeats 1000000 in
theorem clone_Par (v : Value) (l : List Par) (w : World) (h : RowG 3 parCells w v l) (hl : l.length ≤ 1000000) :
    Calls Tryz.prog 20 #[v] w fun e w' => ∃ p c, e = .returned (.slice p l.length c) ∧ RowT (fun b => b < w.heap.size) 3 parCells w' (.slice p l.length c) l ∧ w'.ownsRow w.heap.size 72 3 (.slice p l.length c) l.length (flat parCells l) ∧ Below w.heap.size w w' := by
  obtain ⟨i0, hi0, hz0, hz1, hz2⟩ := info_parts info_Param
  have hv := h
  obtain ⟨p, c, rfl, hh⟩ := h
  cases p with
  | none =>
    have hn : l = [] := by
      rcases hh with e | ⟨b, o, e, _⟩
      · exact e
      · cases e
    subst hn
    clear hh hv
    have heq : ∀ (w : World) (n : Nat), (binOp .eql 22 (.slice none n c) (.slice none 0 0)).run Tryz.prog w = .ok (.bool true) w := fun w n => Go.run_eql_slice_nil w _ _ none n c Tryz.underlying22
    go_enter Tryz.func20, Tryz.ntmps20
    go_wp2
    go_ret
    exact ⟨none, 0, rfl, ⟨_, _, rfl, .inl rfl⟩, World.ownsRow_nil _ _ _ _, bel0 _⟩
  | some ad =>
    obtain ⟨p', c', w', hr, hb, hrow, hown⟩ := app_rowE (by decide) parC_len parC_one Tryz.underlying22 hi0 hz0 hz1 hz2 rfl hv (by unfold maxLen; omega) (by omega) 22
    have HF : Hid (RowT (fun b => b < w.heap.size) 3 parCells w' (.slice p' l.length c') l ∧ w'.ownsRow w.heap.size 72 3 (.slice p' l.length c') l.length (flat parCells l) ∧ Below w.heap.size w w') := ⟨hrow, hown, hb⟩
    obtain ⟨n, hn⟩ : ∃ n, l.length = n := ⟨_, rfl⟩
    rw [hn] at hr HF ⊢
    clear hh hv hb hrow hown hn
    have heq : ∀ (w : World), (binOp .eql 22 (.slice (some ad) n c) (.slice none 0 0)).run Tryz.prog w = .ok (.bool false) w := fun w => Go.run_eql_slice_nil w _ _ (some ad) n c Tryz.underlying22
    go_enter Tryz.func20, Tryz.ntmps20
    go_wp2_with (at_builtin; refine wpList_app rfl _ _ 22 rfl _ _ _ rfl rfl hr ?_)
    go_ret
    exact ⟨p', c', rfl, HF.out⟩

set_option maxRecDepth 100000 in
set_option maxHeartbeats 1000000 in
theorem clone_Ty (v : Value) (l : List Ty) (w : World) (h : RowG 2 tyC w v l) (hl : l.length ≤ 1000000) :
    Calls Tryz.prog 21 #[v] w fun e w' => ∃ p c, e = .returned (.slice p l.length c) ∧ RowT (fun b => b < w.heap.size) 2 tyC w' (.slice p l.length c) l ∧ w'.ownsRow w.heap.size 63 2 (.slice p l.length c) l.length (flat tyC l) ∧ Below w.heap.size w w' := by
  obtain ⟨i0, hi0, hz0, hz1, hz2⟩ := info_parts info_Type
  have hv := h
  obtain ⟨p, c, rfl, hh⟩ := h
  cases p with
  | none =>
    have hn : l = [] := by
      rcases hh with e | ⟨b, o, e, _⟩
      · exact e
      · cases e
    subst hn
    clear hh hv
    have heq : ∀ (w : World) (n : Nat), (binOp .eql 23 (.slice none n c) (.slice none 0 0)).run Tryz.prog w = .ok (.bool true) w := fun w n => Go.run_eql_slice_nil w _ _ none n c Tryz.underlying23
    go_enter Tryz.func21, Tryz.ntmps21
    go_wp2
    go_ret
    exact ⟨none, 0, rfl, ⟨_, _, rfl, .inl rfl⟩, World.ownsRow_nil _ _ _ _, bel0 _⟩
  | some ad =>
    obtain ⟨p', c', w', hr, hb, hrow, hown⟩ := app_rowE (by decide) tyC_len tyC_one Tryz.underlying23 hi0 hz0 hz1 hz2 rfl hv (by unfold maxLen; omega) (by omega) 23
    have HF : Hid (RowT (fun b => b < w.heap.size) 2 tyC w' (.slice p' l.length c') l ∧ w'.ownsRow w.heap.size 63 2 (.slice p' l.length c') l.length (flat tyC l) ∧ Below w.heap.size w w') := ⟨hrow, hown, hb⟩
    obtain ⟨n, hn⟩ : ∃ n, l.length = n := ⟨_, rfl⟩
    rw [hn] at hr HF ⊢
    clear hh hv hb hrow hown hn
    have heq : ∀ (w : World), (binOp .eql 23 (.slice (some ad) n c) (.slice none 0 0)).run Tryz.prog w = .ok (.bool false) w := fun w => Go.run_eql_slice_nil w _ _ (some ad) n c Tryz.underlying23
    go_enter Tryz.func21, Tryz.ntmps21
    go_wp2_with (at_builtin; refine wpList_app rfl _ _ 23 rfl _ _ _ rfl rfl hr ?_)
    go_ret
    exact ⟨p', c', rfl, HF.out⟩

set_option maxRecDepth 100000 in
set_option maxHeartbeats 1000000 in
theorem clone_Sl (v : Value) (l : List Sl) (w : World) (h : RowG 5 slC w v l) (hl : l.length ≤ 1000000) :
    Calls Tryz.prog 22 #[v] w fun e w' => ∃ p c, e = .returned (.slice p l.length c) ∧ RowT (fun b => b < w.heap.size) 5 slC w' (.slice p l.length c) l ∧ w'.ownsRow w.heap.size 65 5 (.slice p l.length c) l.length (flat slC l) ∧ Below w.heap.size w w' := by
  obtain ⟨i0, hi0, hz0, hz1, hz2⟩ := info_parts info_Slot
  have hv := h
  obtain ⟨p, c, rfl, hh⟩ := h
  cases p with
  | none =>
    have hn : l = [] := by
      rcases hh with e | ⟨b, o, e, _⟩
      · exact e
      · cases e
    subst hn
    clear hh hv
    have heq : ∀ (w : World) (n : Nat), (binOp .eql 24 (.slice none n c) (.slice none 0 0)).run Tryz.prog w = .ok (.bool true) w := fun w n => Go.run_eql_slice_nil w _ _ none n c Tryz.underlying24
    go_enter Tryz.func22, Tryz.ntmps22
    go_wp2
    go_ret
    exact ⟨none, 0, rfl, ⟨_, _, rfl, .inl rfl⟩, World.ownsRow_nil _ _ _ _, bel0 _⟩
  | some ad =>
    obtain ⟨p', c', w', hr, hb, hrow, hown⟩ := app_rowE (by decide) slC_len slC_one Tryz.underlying24 hi0 hz0 hz1 hz2 rfl hv (by unfold maxLen; omega) (by omega) 24
    have HF : Hid (RowT (fun b => b < w.heap.size) 5 slC w' (.slice p' l.length c') l ∧ w'.ownsRow w.heap.size 65 5 (.slice p' l.length c') l.length (flat slC l) ∧ Below w.heap.size w w') := ⟨hrow, hown, hb⟩
    obtain ⟨n, hn⟩ : ∃ n, l.length = n := ⟨_, rfl⟩
    rw [hn] at hr HF ⊢
    clear hh hv hb hrow hown hn
    have heq : ∀ (w : World), (binOp .eql 24 (.slice (some ad) n c) (.slice none 0 0)).run Tryz.prog w = .ok (.bool false) w := fun w => Go.run_eql_slice_nil w _ _ (some ad) n c Tryz.underlying24
    go_enter Tryz.func22, Tryz.ntmps22
    go_wp2_with (at_builtin; refine wpList_app rfl _ _ 24 rfl _ _ _ rfl rfl hr ?_)
    go_ret
    exact ⟨p', c', rfl, HF.out⟩

set_option maxRecDepth 100000 in
set_option maxHeartbeats 1000000 in
theorem clone_Ins (v : Value) (l : List Ins) (w : World) (h : RowG 7 inC w v l) (hl : l.length ≤ 1000000) :
    Calls Tryz.prog 23 #[v] w fun e w' => ∃ p c, e = .returned (.slice p l.length c) ∧ RowT (fun b => b < w.heap.size) 7 inC w' (.slice p l.length c) l ∧ w'.ownsRow w.heap.size 45 7 (.slice p l.length c) l.length (flat inC l) ∧ Below w.heap.size w w' := by
  obtain ⟨i0, hi0, hz0, hz1, hz2⟩ := info_parts info_Inst
  have hv := h
  obtain ⟨p, c, rfl, hh⟩ := h
  cases p with
  | none =>
    have hn : l = [] := by
      rcases hh with e | ⟨b, o, e, _⟩
      · exact e
      · cases e
    subst hn
    clear hh hv
    have heq : ∀ (w : World) (n : Nat), (binOp .eql 25 (.slice none n c) (.slice none 0 0)).run Tryz.prog w = .ok (.bool true) w := fun w n => Go.run_eql_slice_nil w _ _ none n c Tryz.underlying25
    go_enter Tryz.func23, Tryz.ntmps23
    go_wp2
    go_ret
    exact ⟨none, 0, rfl, ⟨_, _, rfl, .inl rfl⟩, World.ownsRow_nil _ _ _ _, bel0 _⟩
  | some ad =>
    obtain ⟨p', c', w', hr, hb, hrow, hown⟩ := app_rowE (by decide) inC_len inC_one Tryz.underlying25 hi0 hz0 hz1 hz2 rfl hv (by unfold maxLen; omega) (by omega) 25
    have HF : Hid (RowT (fun b => b < w.heap.size) 7 inC w' (.slice p' l.length c') l ∧ w'.ownsRow w.heap.size 45 7 (.slice p' l.length c') l.length (flat inC l) ∧ Below w.heap.size w w') := ⟨hrow, hown, hb⟩
    obtain ⟨n, hn⟩ : ∃ n, l.length = n := ⟨_, rfl⟩
    rw [hn] at hr HF ⊢
    clear hh hv hb hrow hown hn
    have heq : ∀ (w : World), (binOp .eql 25 (.slice (some ad) n c) (.slice none 0 0)).run Tryz.prog w = .ok (.bool false) w := fun w => Go.run_eql_slice_nil w _ _ (some ad) n c Tryz.underlying25
    go_enter Tryz.func23, Tryz.ntmps23
    go_wp2_with (at_builtin; refine wpList_app rfl _ _ 25 rfl _ _ _ rfl rfl hr ?_)
    go_ret
    exact ⟨p', c', rfl, HF.out⟩

theorem ptC_len (x : Int) : (ptC x).length = 1 := rfl
theorem ptC_one : ∀ x : Int, ∀ u ∈ ptC x, u.oneCell' = true := fun x u hu => by simp [ptC] at hu; rw [hu]; rfl

set_option maxRecDepth 100000 in
set_option maxHeartbeats 1000000 in
theorem clone_F (v : Value) (l : List Int) (w : World) (h : RowG 1 ptC w v l) (hl : l.length ≤ 1000000) :
    Calls Tryz.prog 33 #[v] w fun e w' => ∃ p c, e = .returned (.slice p l.length c) ∧ RowT (fun b => b < w.heap.size) 1 ptC w' (.slice p l.length c) l ∧ w'.ownsRow w.heap.size 43 1 (.slice p l.length c) l.length (flat ptC l) ∧ Below w.heap.size w w' := by
  obtain ⟨i0, hi0, hz0, hz1, hz2⟩ := info_parts info_F
  have hv := h
  obtain ⟨p, c, rfl, hh⟩ := h
  cases p with
  | none =>
    have hn : l = [] := by
      rcases hh with e | ⟨b, o, e, _⟩
      · exact e
      · cases e
    subst hn
    clear hh hv
    have heq : ∀ (w : World) (n : Nat), (binOp .eql 57 (.slice none n c) (.slice none 0 0)).run Tryz.prog w = .ok (.bool true) w := fun w n => Go.run_eql_slice_nil w _ _ none n c Tryz.underlying57
    go_enter Tryz.func33, Tryz.ntmps33
    go_wp2
    go_ret
    exact ⟨none, 0, rfl, ⟨_, _, rfl, .inl rfl⟩, World.ownsRow_nil _ _ _ _, bel0 _⟩
  | some ad =>
    obtain ⟨p', c', w', hr, hb, hrow, hown⟩ := app_rowE (by decide) ptC_len ptC_one Tryz.underlying57 hi0 hz0 hz1 hz2 rfl hv (by unfold maxLen; omega) (by omega) 57
    have HF : Hid (RowT (fun b => b < w.heap.size) 1 ptC w' (.slice p' l.length c') l ∧ w'.ownsRow w.heap.size 43 1 (.slice p' l.length c') l.length (flat ptC l) ∧ Below w.heap.size w w') := ⟨hrow, hown, hb⟩
    obtain ⟨n, hn⟩ : ∃ n, l.length = n := ⟨_, rfl⟩
    rw [hn] at hr HF ⊢
    clear hh hv hb hrow hown hn
    have heq : ∀ (w : World), (binOp .eql 57 (.slice (some ad) n c) (.slice none 0 0)).run Tryz.prog w = .ok (.bool false) w := fun w => Go.run_eql_slice_nil w _ _ (some ad) n c Tryz.underlying57
    go_enter Tryz.func33, Tryz.ntmps33
    go_wp2_with (at_builtin; refine wpList_app rfl _ _ 57 rfl _ _ _ rfl rfl hr ?_)
    go_ret
    exact ⟨p', c', rfl, HF.out⟩

end Go.Proofs.YtholhpmnicibgaaGreat
