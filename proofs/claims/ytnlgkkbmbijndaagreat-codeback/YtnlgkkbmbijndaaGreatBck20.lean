import Derived.Test.YtnlgkkbmbijndaaGreatBck19
import Derived.Test.YtnlgkkbmbijndaaGreatBck15
import Derived.Test.YtnlgkkbmbijndaaGreatBck17
import Derived.Deep.DeepCutAuto
import Derived.Test.YtnlgkkbmbijndaaGreatBck12
/- lathelaw16.copied: code of its own. By program (tool/layer16/gencopy.py). -/
namespace Go.Proofs.YtnlgkkbmbijndaaGreat
open Go.RowKit
set_option linter.unusedVariables false
set_option linter.unusedSimpArgs false

theorem parC_one : ∀ x : Par, ∀ u ∈ parCells x, u.oneCell' = true := fun x u hu => by simp [parCells] at hu; rcases hu with rfl | rfl | rfl <;> rfl
theorem tyC_one : ∀ x : Ty, ∀ u ∈ tyC x, u.oneCell' = true := fun x u hu => by simp [tyC] at hu; rcases hu with rfl | rfl <;> rfl
theorem slC_one : ∀ x : Sl, ∀ u ∈ slC x, u.oneCell' = true := fun x u hu => by simp [slC] at hu; rcases hu with rfl | rfl | rfl | rfl | rfl <;> rfl
theorem info_Type : (Tryz.prog.info? 62).map (fun i => (i.zero, i.size, i.bytes)) = some (some (.agg #[.int .i64 0, .int .i64 0]), 2, 16) := by kernel_rfl
theorem info_Slot : (Tryz.prog.info? 66).map (fun i => (i.zero, i.size, i.bytes)) = some (some (.agg #[.int .i64 0, .int .i64 0, .bool false, .int .u32 0, .int .i64 0]), 5, 32) := by kernel_rfl
theorem app_Par {l : List Par} {v : Value} {w : World} (h : RowG 3 parCells w v l) (hl : l.length * 32 ≤ 140737488355328) (ty : TypeId) :
    ∃ v' w', (Builtin.append_ #[22, 22] ty #[.slice none 0 0, v]).run Tryz.prog w = .ok v' w' ∧ Below w.heap.size w w' ∧ w'.ownsRow w.heap.size 59 3 v' l.length (flat parCells l) := by
  obtain ⟨i0, hi0, hz0, hz1, hz2⟩ := info_parts info_Param
  exact app_rowG (by decide) parC_len parC_one Tryz.underlying22 hi0 hz0 hz1 hz2 rfl h (by unfold maxLen; omega) hl ty
theorem app_Ty {l : List Ty} {v : Value} {w : World} (h : RowG 2 tyC w v l) (hl : l.length * 16 ≤ 140737488355328) (ty : TypeId) :
    ∃ v' w', (Builtin.append_ #[23, 23] ty #[.slice none 0 0, v]).run Tryz.prog w = .ok v' w' ∧ Below w.heap.size w w' ∧ w'.ownsRow w.heap.size 62 2 v' l.length (flat tyC l) := by
  obtain ⟨i0, hi0, hz0, hz1, hz2⟩ := info_parts info_Type
  exact app_rowG (by decide) tyC_len tyC_one Tryz.underlying23 hi0 hz0 hz1 hz2 rfl h (by unfold maxLen; omega) hl ty
theorem app_Sl {l : List Sl} {v : Value} {w : World} (h : RowG 5 slC w v l) (hl : l.length * 32 ≤ 140737488355328) (ty : TypeId) :
    ∃ v' w', (Builtin.append_ #[24, 24] ty #[.slice none 0 0, v]).run Tryz.prog w = .ok v' w' ∧ Below w.heap.size w w' ∧ w'.ownsRow w.heap.size 66 5 v' l.length (flat slC l) := by
  obtain ⟨i0, hi0, hz0, hz1, hz2⟩ := info_parts info_Slot
  exact app_rowG (by decide) slC_len slC_one Tryz.underlying24 hi0 hz0 hz1 hz2 rfl h (by unfold maxLen; omega) hl ty

def f4 (a b c d : Value) (j : Nat) : Value := if j = 0 then a else if j = 1 then b else if j = 2 then c else d
/-- The boxes: the code, the answer, the copy. -/
structure CW (w : World) (v0 v1 v2 v3 x0 x1 x2 x3 : Value) (v : World) : Prop where
  bel : Below w.heap.size w v
  c : CellsAt v w.heap.size 0 [v0, v1, v2, v3]
  r : v.rowIs (w.heap.size + 1) 27 4 (f4 (.slice none 0 0) (.slice none 0 0) (.slice none 0 0) (.slice none 0 0))
  d : v.rowIs (w.heap.size + 1 + 1) 27 4 (f4 x0 x1 x2 x3)
theorem CW.app {w : World} {v0 v1 v2 v3 x0 x1 x2 x3 : Value} {v v' : World} (h : CW w v0 v1 v2 v3 x0 x1 x2 x3 v) (k : Below v.heap.size v v') : CW w v0 v1 v2 v3 x0 x1 x2 x3 v' :=
  ⟨Go.Proofs.YtnlgkkbmbijndaaGreat.bel h.bel k, h.c.below k, h.r.of_block (k.block _ h.r.lt), h.d.of_block (k.block _ h.d.lt)⟩
theorem CW.put {w : World} {v0 v1 v2 v3 x0 x1 x2 x3 y0 y1 y2 y3 : Value} {v : World} (h : CW w v0 v1 v2 v3 x0 x1 x2 x3 v) (i : Nat) (x : Value) (e : ∀ j, j < 4 → (if j = i then x else f4 x0 x1 x2 x3 j) = f4 y0 y1 y2 y3 j) : CW w v0 v1 v2 v3 y0 y1 y2 y3 (v.setCell ⟨w.heap.size + 1 + 1, i, none⟩ x) := by
  have nb : ∀ b, b ≠ w.heap.size + 1 + 1 → (v.setCell ⟨w.heap.size + 1 + 1, i, none⟩ x).heap[b]? = v.heap[b]? := fun b hb => Below.heap_setCell _ _ _ _ hb
  exact ⟨h.bel.setCell (by show w.heap.size ≤ w.heap.size + 1 + 1; omega) _, h.c.of_block (nb _ (by omega)), h.r.of_block (nb _ (by omega)), (h.d.set i x).congr e⟩
theorem CW.start (w : World) (v0 v1 v2 v3 : Value) : CW w v0 v1 v2 v3 (.slice none 0 0) (.slice none 0 0) (.slice none 0 0) (.slice none 0 0) (((w.alloc (.cells #[v0, v1, v2, v3] 27)).alloc (.cells #[.slice none 0 0, .slice none 0 0, .slice none 0 0, .slice none 0 0] 27)).alloc (.cells #[.slice none 0 0, .slice none 0 0, .slice none 0 0, .slice none 0 0] 27)) := by
  have q : ∀ u : World, (u.alloc (.cells #[.slice none 0 0, .slice none 0 0, .slice none 0 0, .slice none 0 0] 27)).rowIs u.heap.size 27 4 (f4 (.slice none 0 0) (.slice none 0 0) (.slice none 0 0) (.slice none 0 0)) := fun u => World.rowIs_alloc u #[.slice none 0 0, .slice none 0 0, .slice none 0 0, .slice none 0 0] 27 _ (fun i hi => by
    have hi' : i < 4 := hi
    obtain rfl | rfl | rfl | rfl : i = 0 ∨ i = 1 ∨ i = 2 ∨ i = 3 := by omega
    all_goals rfl)
  have h1 := q (w.alloc (.cells #[v0, v1, v2, v3] 27))
  have h2 := q ((w.alloc (.cells #[v0, v1, v2, v3] 27)).alloc (.cells #[.slice none 0 0, .slice none 0 0, .slice none 0 0, .slice none 0 0] 27))
  have s1 : (w.alloc (.cells #[v0, v1, v2, v3] 27)).heap.size = w.heap.size + 1 := by simp
  have s2 : ((w.alloc (.cells #[v0, v1, v2, v3] 27)).alloc (.cells #[.slice none 0 0, .slice none 0 0, .slice none 0 0, .slice none 0 0] 27)).heap.size = w.heap.size + 1 + 1 := by simp
  rw [s1] at h1
  rw [s2] at h2
  refine ⟨Go.Proofs.YtnlgkkbmbijndaaGreat.bel (Go.Proofs.YtnlgkkbmbijndaaGreat.bel (bel_alloc _ _) (bel_alloc _ _)) (bel_alloc _ _), fun j hj => ?_, h1.alloc _, h2⟩
  have hj' : j < 4 := hj
  obtain rfl | rfl | rfl | rfl : j = 0 ∨ j = 1 ∨ j = 2 ∨ j = 3 := by omega
  all_goals simp [go_sem]
/-- What lies from E on, and was there, stays. -/
def Up (E : Nat) (v v' : World) : Prop := v.heap.size ≤ v'.heap.size ∧ ∀ b, E ≤ b → b < v.heap.size → v'.heap[b]? = v.heap[b]?
theorem Up.of {E : Nat} {v v' : World} (k : Below v.heap.size v v') : Up E v v' := ⟨k.size, fun b _ hb => k.block b hb⟩
theorem Up.set {E : Nat} (v : World) {D : Nat} (hD : D < E) (i : Nat) (x : Value) : Up E v (v.setCell ⟨D, i, none⟩ x) := ⟨by simp, fun b hb _ => Below.heap_setCell _ _ _ _ (by show b ≠ D; omega)⟩
theorem Up.trans {E : Nat} {a b c : World} (h : Up E a b) (k : Up E b c) : Up E a c := ⟨Nat.le_trans h.1 k.1, fun x hx hl => (k.2 x hx (Nat.lt_of_lt_of_le hl h.1)).trans (h.2 x hx hl)⟩
theorem Up.own {E B : Nat} {v v' : World} {t : TypeId} {k n : Nat} {u : Value} {xs : List Value} (h : Up E v v') (ho : v.ownsRow B t k u n xs) (hB : E ≤ B) : v'.ownsRow B t k u n xs := own_keep ho fun g hg => h.2 g (Nat.le_trans hB (ho.lt g hg).1) (ho.lt g hg).2

/-- Code whose four lists are one's own. -/
structure Own4 (B : Nat) (w : World) (u0 u1 u2 u3 : Value) (c : Cd) : Prop where
  sign : w.ownsRow B 59 3 u0 c.sign.length (flat parCells c.sign)
  regs : w.ownsRow B 62 2 u1 c.regs.length (flat tyC c.regs)
  slots : w.ownsRow B 66 5 u2 c.slots.length (flat slC c.slots)
  list : w.ownsRow B 70 7 u3 c.list.length (flat inC c.list)
/-- Code that may be copied. -/
structure CdSz (c : Cd) : Prop where
  s : c.sign.length * 32 ≤ 140737488351232
  r : c.regs.length * 16 ≤ 140737488351232
  l : c.slots.length * 32 ≤ 140737488351232
  i : c.list.length * 56 ≤ 140737488351232

end Go.Proofs.YtnlgkkbmbijndaaGreat
/- Package code: the reader: what a list's reading tells. -/
namespace Go.Proofs.YtnlgkkbmbijndaaGreat
open Go.RowKit
set_option linter.unusedVariables false
set_option linter.unusedSimpArgs false

/-- What the reading of a list tells, by what the plain parser tells. -/
def RdL {α : Type} (E RB : Nat) (s : ByteArray) (w : World) (t : TypeId) (k : Nat) (f : α → List Value) (q : Except (Int × Nat) (List α × List Nat × Nat)) (e : Ending) (w' : World) : Prop :=
  match q with
  | .error (er, at_) => e = flt er at_ ∧ Below E w w' ∧ RdO RB w w'
  | .ok (xs, l', A') => ∃ v, e = .returned v ∧ w'.ownsRow w.heap.size t k v xs.length (flat f xs) ∧ Below E w w' ∧ RdO RB w w' ∧ RdM E RB s A' w' ∧ A' ≤ s.size ∧ l' = (bytN s).drop A'
theorem pCount_in {most : Nat} {l l' : List Nat} {p n p' : Nat} (h : pCount most l p = .ok (n, l', p')) : n ≤ most := by
  unfold pCount at h
  split at h
  · cases h
  · split at h
    · cases h
    · simp only [Except.ok.injEq, Prod.mk.injEq] at h
      omega

end Go.Proofs.YtnlgkkbmbijndaaGreat
/- Package code: the reader: a list of types. By program (tool/layer25/genrl.py). -/
namespace Go.Proofs.YtnlgkkbmbijndaaGreat
open Go.RowKit
set_option linter.unusedVariables false
set_option linter.unusedSimpArgs false

set_option maxRecDepth 100000 in
set_option maxHeartbeats 8000000 in
theorem rlistT_any (E RB : Nat) (s : ByteArray) (A : Nat) (w : World) (h : RdM E RB s A w) (hA : A ≤ s.size) (hs : s.size ≤ 140737488355328) (hE : E ≤ w.heap.size) :
    Calls Tryz.prog 52 #[.pointer (some ⟨RB, 0, none⟩), .int .i64 16384, .func (.func 53) #[.pointer (some ⟨RB, 0, none⟩)] #[]] w (RdL E RB s w 62 2 tyC (pLst 16384 pTy ((bytN s).drop A) A)) := by
  have KN : Calls Tryz.prog 84 #[.pointer (some ⟨RB, 0, none⟩), .int .i64 16384] w (RdT E RB s w (fun (b : Nat) => .int .i64 (b : Int)) (pCount 16384 ((bytN s).drop A) A)) := count_any E RB s A 16384 w h hA hs hE
  have hRB : RB < w.heap.size := h.b.lt
  cases hq : pCount 16384 ((bytN s).drop A) A with
  | error er =>
    obtain ⟨er, at_⟩ := er
    have HP : Hid (pLst 16384 pTy ((bytN s).drop A) A = .error (er, at_)) := by show pLst _ _ _ _ = _; unfold pLst; exact pBind_err hq
    rw [HP.out]
    rw [hq] at KN
    have KN' := hidC KN
    unfold RdT flt at KN'
    unfold RdL flt
    simp only at KN' ⊢
    clear h KN hq HP hRB
    go_enter Tryz.func52, Tryz.ntmps52
    go_wp2_with (go_at_call 84; (with_reducible refine KN'.out.mono ?_); rintro e9 w4 ⟨rfl, hb4, ho4⟩; have HB4 := hidC hb4; have HO4 := hidC ho4; clear hb4 ho4)
    exact ⟨rfl, rfl, HB4.out, HO4.out⟩
  | ok r =>
    obtain ⟨N, l1, A1⟩ := r
    have hN := pCount_in hq
    rw [hq] at KN
    have KN' := hidC KN
    unfold RdT at KN'
    simp only at KN'
    have HST : Hid (l1 = (bytN s).drop A1 → pLst 16384 pTy ((bytN s).drop A) A = pMore pTy (N - 0) [] ((bytN s).drop A1) A1) := fun e => by
      unfold pLst
      rw [pBind_at hq, Nat.sub_zero, pMore_start, e]
    obtain ⟨R, hR⟩ : ∃ R, pLst 16384 pTy ((bytN s).drop A) A = R := ⟨_, rfl⟩
    rw [hR] at HST ⊢
    have HRB := hidC hRB
    have HE := hidC hE
    have HS := hidC hs
    clear h KN hq hR hRB hA hs hE
    go_enter Tryz.func52, Tryz.ntmps52
    go_upto_block 0 with (go_at_call 84; (with_reducible refine KN'.out.mono ?_); rintro e9 w4 ⟨rfl, hb4, ho4, hm4, hl4, hd4⟩; have HJ0 := hidC (And.intro hb4 (And.intro ho4 (And.intro hm4 (And.intro hl4 hd4)))); clear hb4 ho4 hm4 hl4 hd4)
    go_wp2_with fail
    go_loopw [7, 11] (fun lv iv wx => ∃ (k A' : Nat) (xs : List Ty) (p : Option Addr) (q : Nat), k ≤ N ∧ iv = .int .i64 (k : Int) ∧ lv = .slice p k q ∧ Hid (xs.length = k ∧ Below E w wx ∧ RdO RB w wx ∧ RdM E RB s A' wx ∧ A' ≤ s.size ∧ wx.ownsRow w.heap.size 62 2 (.slice p k q) k (flat tyC xs) ∧ R = pMore pTy (N - k) xs ((bytN s).drop A') A')) (fun _ iv _ => N - (intOf iv).toNat)
    case atStart =>
      obtain ⟨j1, j2, j3, j4, j5⟩ := HJ0.out
      exact ⟨0, A1, [], none, 0, Nat.zero_le _, rfl, rfl, rfl, j1, j2, j3, j4, World.ownsRow_nil _ _ _ 2, HST.out j5⟩
    case round =>
      clear HJ0 HST KN'
      obtain ⟨k, A', xs, p, q, hk, rfl, rfl, HJ⟩ := hrel
      by_cases hlt : k < N
      · obtain ⟨j1, j2, j3, j4, j5, j6, j7⟩ := HJ.out
        have e1 : (k : Int) < (N : Int) := by omega
        have hEr : E ≤ wr.heap.size := Nat.le_trans HE.out j3.1
        have KX := typed_any E RB s A' wr j4 j5 HS.out hEr
        rw [show N - k = (N - (k + 1)) + 1 by omega, pMore_step] at j7
        cases hq2 : pTy ((bytN s).drop A') A' with
        | error er =>
          obtain ⟨er, at_⟩ := er
          rw [pBind_err hq2] at j7
          rw [hq2] at KX
          have KX' := hidC KX
          unfold RdT flt at KX'
          simp only at KX'
          have HG : Hid (∀ w', Below E wr w' → RdO RB wr w' → RdL E RB s w 62 2 tyC R (flt er at_) w') := fun w' a b => by rw [j7]; exact ⟨rfl, j2.trans a, j3.trans b⟩
          unfold flt at HG
          clear j1 j2 j3 j4 j5 j6 j7 hq2 KX HJ hEr hlt
          go_wp2_with (go_at_call 53; (with_reducible refine KX'.out.mono ?_); rintro e9 w5 ⟨rfl, hb5, ho5⟩; have HR5 := hidC (HG.out _ hb5 ho5); clear hb5 ho5)
          exact ⟨rfl, HR5.out⟩
        | ok r =>
          obtain ⟨x, l2, A2⟩ := r
          rw [pBind_at hq2] at j7
          rw [hq2] at KX
          have KX' := hidC KX
          unfold RdT at KX'
          simp only [tyV] at KX'
          have HAP : Hid (∀ w5, RdO RB wr w5 → ∃ g c' w6, (Builtin.append_ #[23, 23] 23 #[.slice p k q, .slice (some ⟨w5.heap.size, 0, none⟩) 1 1]).run Tryz.prog (w5.alloc (.cells #[.int .i64 (x.kind), .int .i64 (x.par)] 62)) = .ok (.slice (some ⟨g, 0, none⟩) (k + 1) c') w6 ∧ Below w.heap.size w5 w6 ∧ w6.ownsRow w.heap.size 62 2 (.slice (some ⟨g, 0, none⟩) (k + 1) c') (k + 1) (flat tyC (xs ++ [x]))) := fun w5 ho => by
            have hown : w5.ownsRow w.heap.size 62 2 (.slice p k q) k (flat tyC xs) := own_keep j6 fun b hb => ho.2 b (j6.lt b hb).2 (fun e => by have := (j6.lt b hb).1; have := HRB.out; omega)
            obtain ⟨g, c', w6, a1, a2, a3, -⟩ := own_app2 Tryz.underlying23 info_Type rfl (by decide) hown (Nat.le_trans j3.1 ho.1) #[.int .i64 (x.kind), .int .i64 (x.par)] rfl (fun u hu => tyC_one x u hu) (by unfold maxLen; omega) (by omega) 23
            refine ⟨g, c', w6, a1, a2, ?_⟩
            rw [flat_snoc]
            exact a3
          have HG : Hid (∀ w5 w6, Below E wr w5 → RdO RB wr w5 → RdM E RB s A2 w5 → Below w.heap.size w5 w6 → Below E w w6 ∧ RdO RB w w6 ∧ RdM E RB s A2 w6) := fun w5 w6 a b c d =>
            ⟨(j2.trans a).trans (d.mono HE.out), ⟨Nat.le_trans (j3.trans b).1 d.size, fun i hi hne => (d.block i hi).trans ((j3.trans b).2 i hi hne)⟩, ⟨c.b.of_block (d.block _ HRB.out), c.ge⟩⟩
          have HXL : Hid ((xs ++ [x]).length = k + 1) := by show _ = _; rw [List.length_append, j1]; rfl
          have H7 := hidC j7
          have wi : IntKind.i64.wrap ((k : Int) + 1) = ((k + 1 : Nat) : Int) := by rw [IntKind.wrap_i64]; omega
          clear j1 j2 j3 j4 j5 j6 j7 hq2 KX HJ hEr
          go_wp2_with (first | (go_at_call 53; (with_reducible refine KX'.out.mono ?_); rintro e9 w5 ⟨rfl, hb5, ho5, hm5, hl5, hd5⟩; obtain ⟨g, c', w6, hrun, hb6, ho6⟩ := HAP.out w5 ho5; have HRUN := hidC hrun; have HO6 := hidC ho6; have HQ := hidC (HG.out w5 w6 hb5 ho5 hm5 hb6); have HL5 := hidC hl5; have HD5 := hidC hd5; clear hb5 ho5 hm5 hl5 hd5 hrun hb6 ho6) | (at_builtin; refine wpList_app (by rfl) _ _ _ (by rfl) _ _ _ (by rfl) (by rfl) HRUN.out ?_))
          go_roundw
          case rel => exact ⟨k + 1, A2, xs ++ [x], some ⟨g, 0, none⟩, c', by omega, by go_num, rfl, HXL.out, HQ.out.1, HQ.out.2.1, HQ.out.2.2, HL5.out, HO6.out, by rw [← HD5.out]; exact H7.out⟩
          case measure => simp [intOf]; omega
      · obtain ⟨j1, j2, j3, j4, j5, j6, j7⟩ := HJ.out
        have e1 : ¬ (k : Int) < (N : Int) := by omega
        rw [show N - k = 0 by omega, pMore_end] at j7
        have HG : Hid (RdL E RB s w 62 2 tyC R (.returned (.slice p k q)) wr) := by show RdL _ _ _ _ _ _ _ _ _ _; rw [j7]; exact ⟨_, rfl, by rw [j1]; exact j6, j2, j3, j4, j5, rfl⟩
        clear j1 j2 j3 j4 j5 j6 j7 HJ hlt
        go_wp2
        refine bodyPost_ret (by simp [results, Tryz.results52, go_sem, *]; try rfl) rfl ?_
        exact HG.out

end Go.Proofs.YtnlgkkbmbijndaaGreat
/- Package code: the reader: slot. -/
namespace Go.Proofs.YtnlgkkbmbijndaaGreat
open Go.RowKit
set_option linter.unusedVariables false
set_option linter.unusedSimpArgs false

def sl5 (a b c d e : Value) (j : Nat) : Value := if j = 0 then a else if j = 1 then b else if j = 2 then c else if j = 3 then d else e

set_option maxRecDepth 100000 in
set_option maxHeartbeats 8000000 in
theorem slot_any (E RB : Nat) (s : ByteArray) (A : Nat) (w : World) (h : RdM E RB s A w) (hA : A ≤ s.size) (hs : s.size ≤ 140737488355328) (hE : E ≤ w.heap.size) :
    Calls Tryz.prog 55 #[.pointer (some ⟨RB, 0, none⟩)] w (RdT E RB s w slV (pSl ((bytN s).drop A) A)) := by
  obtain ⟨W0, hW0⟩ : ∃ W, w.alloc (.cells #[.int .i64 0, .int .i64 0, .bool false, .int .u32 0, .int .i64 0] 66) = W := ⟨_, rfl⟩
  have hb0 : Below w.heap.size w W0 := by rw [← hW0]; exact bel_alloc _ _
  have h0 := h.below hb0
  have hE0 : E ≤ W0.heap.size := Nat.le_trans hE hb0.size
  obtain ⟨X, hX⟩ : ∃ X, w.heap.size = X := ⟨_, rfl⟩
  have hXR : X ≠ RB := by have := h.b.lt; omega
  have hr0 : W0.rowIs X 66 5 (sl5 (.int .i64 0) (.int .i64 0) (.bool false) (.int .u32 0) (.int .i64 0)) := by
    rw [← hW0, ← hX]
    exact World.rowIs_alloc w #[.int .i64 0, .int .i64 0, .bool false, .int .u32 0, .int .i64 0] 66 _ (fun i hi => by
      rcases (show i = 0 ∨ i = 1 ∨ i = 2 ∨ i = 3 ∨ i = 4 by have : i < 5 := hi; omega) with rfl | rfl | rfl | rfl | rfl <;> rfl)
  have KS : Calls Tryz.prog 85 #[.pointer (some ⟨RB, 0, none⟩), .int .i64 0, .int .i64 1] W0 (RdT E RB s W0 (fun (b : Nat) => .int .i64 (b : Int)) (pByte 0 1 ((bytN s).drop A) A)) := small_any E RB s A 0 1 W0 h0 hA hs hE0
  obtain ⟨R, hR⟩ : ∃ R, pSl ((bytN s).drop A) A = R := ⟨_, rfl⟩
  rw [hR]
  unfold pSl at hR
  have HRS := hidC ((Rds.start h).below hE hb0)
  cases hq : pByte 0 1 ((bytN s).drop A) A with
  | error er =>
    obtain ⟨er, at_⟩ := er
    have HP : R = .error (er, at_) := by rw [← hR]; exact pBind_err hq
    rw [hq] at KS
    have KS' := hidC KS
    have HG : Hid (∀ w', Below E W0 w' → RdO RB W0 w' → RdT E RB s w slV R (flt er at_) w') := fun w' a b => by rw [HP]; exact HRS.out.bad slV er at_ a b
    unfold RdT flt at KS'
    unfold flt at HG
    simp only at KS'
    clear h h0 hb0 hr0 KS hq HP hR hX hXR hE0
    go_enter Tryz.func55, Tryz.ntmps55
    go_upto_region 1 with fail
    try rw [hW0]
    clear hW0
    go_wp2_with (go_at_call 85; (with_reducible refine KS'.out.mono ?_); rintro e9 w4 ⟨rfl, hb4, ho4⟩; have HR5 := hidC (HG.out _ hb4 ho4); clear hb4 ho4)
    exact ⟨rfl, HR5.out⟩
  | ok r =>
    obtain ⟨k, l', A1⟩ := r
    have hk := pByte_in hq
    rw [pBind_at hq] at hR
    rw [hq] at KS
    have KS' := hidC KS
    unfold RdT at KS'
    simp only at KS'
    obtain ⟨kb, hkb⟩ : ∃ b : Bool, (k == 1) = b := ⟨_, rfl⟩
    rw [hkb] at hR
    have qk : ((k : Int) == 1) = kb := by
      rw [← hkb]
      rcases (show k = 0 ∨ k = 1 by omega) with rfl | rfl <;> rfl
    have HR0 := hidC hr0
    have HRB := hidC h.b.lt
    have HX : Hid (w.heap.size ≤ X) := Nat.le_of_eq hX
    have HRR := hidC hR
    clear h h0 hb0 hr0 KS hE0 hR hkb hq
    go_enter Tryz.func55, Tryz.ntmps55
    go_upto_region 1 with fail
    try rw [hW0]
    try rw [hX]
    clear hW0 hX
    go_upto_region 2 with (go_at_call 85; (with_reducible refine KS'.out.mono ?_); rintro e9 w4 ⟨rfl, hb4, ho4, hm4, hl4, hd4⟩; have HB4 := hidC hb4; have HO4 := hidC ho4; have HM4 := hidC hm4; have HD4 := hidC hd4; have HL4 := hidC hl4; clear hb4 ho4 hm4 hl4 hd4)
    obtain ⟨Y, hY⟩ : ∃ Y, w4.heap.size = Y := ⟨_, rfl⟩
    obtain ⟨V, hV⟩ : ∃ V, w4.alloc (.cells #[.int .i64 0, .int .i64 0, .bool kb, .int .u32 0, .int .i64 0] 66) = V := ⟨_, rfl⟩
    have hbV : Below w4.heap.size w4 V := by rw [← hV]; exact bel_alloc _ _
    have r4 := rdo_row HO4.out HR0.out hXR
    have rx := r4.of_block (hbV.block _ r4.lt)
    have ry : V.rowIs Y 66 5 (sl5 (.int .i64 0) (.int .i64 0) (.bool kb) (.int .u32 0) (.int .i64 0)) := by
      rw [← hV, ← hY]
      exact World.rowIs_alloc w4 #[.int .i64 0, .int .i64 0, .bool kb, .int .u32 0, .int .i64 0] 66 _ (fun i hi => by
      rcases (show i = 0 ∨ i = 1 ∨ i = 2 ∨ i = 3 ∨ i = 4 by have : i < 5 := hi; omega) with rfl | rfl | rfl | rfl | rfl <;> rfl)
    have hXY : X ≠ Y := by have := r4.lt; omega
    have hYR : Y ≠ RB := by have := HM4.out.b.lt; omega
    have hwY : w.heap.size ≤ Y := by have := r4.lt; have := HX.out; omega
    have D1 : Rds E RB s A1 w V := ((HRS.out.next HB4.out HO4.out HM4.out).below hE hbV)
    have KM := typed_any E RB s A1 V D1.2.2 HL4.out hs (Nat.le_trans hE D1.2.1.1)
    have hR := HRR.out
    rw [HD4.out] at hR
    try rw [hV]
    try rw [hY]
    clear hV hY hbV HRR KS' HB4 HO4 HM4 HD4 HR0 HRS
    cases hq2 : pTy ((bytN s).drop A1) A1 with
    | error er =>
      obtain ⟨er, at_⟩ := er
      rw [pBind_err hq2] at hR
      rw [hq2] at KM
      have KM' := hidC KM
      unfold RdT flt at KM'
      simp only at KM'
      have HG : Hid (∀ w', Below E V w' → RdO RB V w' → RdT E RB s w slV R (flt er at_) w') := fun w' a b => by rw [← hR]; exact D1.bad slV er at_ a b
      unfold flt at HG
      clear D1 KM hq2 hR rx ry r4
      go_wp2_with (go_at_call 53; (with_reducible refine KM'.out.mono ?_); rintro e9 w5 ⟨rfl, hb5, ho5⟩; have HR5 := hidC (HG.out _ hb5 ho5); clear hb5 ho5)
      exact ⟨rfl, HR5.out⟩
    | ok r =>
      obtain ⟨⟨tk, tp⟩, l2, A2⟩ := r
      rw [pBind_at hq2] at hR
      rw [hq2] at KM
      have KM' := hidC KM
      unfold RdT tyV at KM'
      simp only at KM' hR
      have HG : Hid (∀ w', Below E V w' → RdO RB V w' → RdM E RB s A2 w' → Rds E RB s A2 w w' ∧ w'.rowIs X 66 5 (sl5 (.int .i64 0) (.int .i64 0) (.bool false) (.int .u32 0) (.int .i64 0)) ∧ w'.rowIs Y 66 5 (sl5 (.int .i64 0) (.int .i64 0) (.bool kb) (.int .u32 0) (.int .i64 0))) := fun w' a b c => ⟨D1.next a b c, rdo_row b rx hXR, rdo_row b ry hYR⟩
      have HRR := hidC hR
      clear D1 KM hq2 hR rx ry r4
      go_upto_region 3 with (go_at_call 53; (with_reducible refine KM'.out.mono ?_); rintro e9 w5 ⟨rfl, hb5, ho5, hm5, hl5, hd5⟩; obtain ⟨D5, x5, z5⟩ := HG.out _ hb5 ho5 hm5; have HL5 := hidC hl5; have HD5 := hidC hd5; have y50 : w5.cell? ⟨Y, 0, none⟩ = some (.int .i64 0) := z5.cell (i := 0) (by decide); have f50 := z5.frozen 0; have y51 : w5.cell? ⟨Y, 1, none⟩ = some (.int .i64 0) := z5.cell (i := 1) (by decide); have f51 := z5.frozen 1; clear hb5 ho5 hm5 hl5 hd5)
      obtain ⟨V2, hV2⟩ : ∃ V2, (w5.setCell ⟨Y, 0, none⟩ (.int .i64 tk)).setCell ⟨Y, 1, none⟩ (.int .i64 tp) = V2 := ⟨_, rfl⟩
      have x6 := x5.of_block (w' := V2) (by rw [← hV2]; exact (Below.heap_setCell _ _ _ _ hXY).trans (Below.heap_setCell _ _ _ _ hXY))
      have z6 : V2.rowIs Y 66 5 (sl5 (.int .i64 tk) (.int .i64 tp) (.bool kb) (.int .u32 0) (.int .i64 0)) := by
        rw [← hV2]
        exact ((z5.set 0 (.int .i64 tk)).set 1 (.int .i64 tp)).congr fun j hj => by
          rcases (show j = 0 ∨ j = 1 ∨ j = 2 ∨ j = 3 ∨ j = 4 by omega) with rfl | rfl | rfl | rfl | rfl <;> rfl
      have D6 : Rds E RB s A2 w V2 := by rw [← hV2]; exact (D5.set hE HRB.out hwY 0 _).set hE HRB.out hwY 1 _
      have a0 : V2.cell? ⟨Y, 0, none⟩ = some (.int .i64 tk) := z6.cell (i := 0) (by decide)
      have hR := HRR.out
      rw [HD5.out] at hR
      try rw [hV2]
      clear hV2 D5 x5 z5 y50 y51 f50 f51 HRR KM' HG HD5
      by_cases q : tk = 2
      · have q2 : (tk == 2) = true := by simpa using q
        simp only [if_pos q] at hR
        clear q
        have KN := number_any E RB s A2 V2 D6.2.2 HL5.out hs (Nat.le_trans hE D6.2.1.1)
        cases hq3 : pNum ((bytN s).drop A2) A2 with
        | error er =>
          obtain ⟨er, at_⟩ := er
          rw [pBind_err hq3] at hR
          rw [hq3] at KN
          have KN' := hidC KN
          unfold RdT flt at KN'
          simp only at KN'
          have HG : Hid (∀ w', Below E V2 w' → RdO RB V2 w' → RdT E RB s w slV R (flt er at_) w') := fun w' a b => by rw [← hR]; exact D6.bad slV er at_ a b
          unfold flt at HG
          clear D6 KN hq3 hR x6 z6
          go_wp2_with (go_at_call 87; (with_reducible refine KN'.out.mono ?_); rintro e9 w7 ⟨rfl, hb7, ho7⟩; have HR7 := hidC (HG.out _ hb7 ho7); clear hb7 ho7)
          exact ⟨rfl, HR7.out⟩
        | ok r =>
          obtain ⟨n, l3, A3⟩ := r
          rw [pBind_at hq3] at hR
          rw [hq3] at KN
          have KN' := hidC KN
          unfold RdT at KN'
          simp only at KN'
          have HG : Hid (∀ w', Below E V2 w' → RdO RB V2 w' → RdM E RB s A3 w' → Rds E RB s A3 w w' ∧ w'.rowIs X 66 5 (sl5 (.int .i64 0) (.int .i64 0) (.bool false) (.int .u32 0) (.int .i64 0)) ∧ w'.rowIs Y 66 5 (sl5 (.int .i64 tk) (.int .i64 tp) (.bool kb) (.int .u32 0) (.int .i64 0))) := fun w' a b c => ⟨D6.next a b c, rdo_row b x6 hXR, rdo_row b z6 hYR⟩
          have HRR : Hid (R = .ok (⟨⟨tk, tp⟩, kb, 0, (n : Int)⟩, l3, A3)) := hR.symm
          clear D6 KN hq3 hR x6 z6
          go_upto_region 6 with (go_at_call 87; (with_reducible refine KN'.out.mono ?_); rintro e9 w7 ⟨rfl, hb7, ho7, hm7, hl7, hd7⟩; obtain ⟨D7, x7, z7⟩ := HG.out _ hb7 ho7 hm7; have HL7 := hidC hl7; have HD7 := hidC hd7; have y7 : w7.cell? ⟨Y, 4, none⟩ = some (.int .i64 0) := z7.cell (i := 4) (by decide); have f7 := z7.frozen 4; clear hb7 ho7 hm7 hl7 hd7)
          obtain ⟨V3, hV3⟩ : ∃ V3, w7.setCell ⟨Y, 4, none⟩ (.int .i64 (n : Int)) = V3 := ⟨_, rfl⟩
          have x8 := x7.of_block (w' := V3) (by rw [← hV3]; exact Below.heap_setCell _ _ _ _ hXY)
          have z8 : V3.rowIs Y 66 5 (sl5 (.int .i64 tk) (.int .i64 tp) (.bool kb) (.int .u32 0) (.int .i64 (n : Int))) := by
            rw [← hV3]
            exact (z7.set 4 (.int .i64 (n : Int))).congr fun j hj => by
              rcases (show j = 0 ∨ j = 1 ∨ j = 2 ∨ j = 3 ∨ j = 4 by omega) with rfl | rfl | rfl | rfl | rfl <;> rfl
          have D8 : Rds E RB s A3 w V3 := by rw [← hV3]; exact D7.set hE HRB.out hwY 4 _
          have b0 : V3.cell? ⟨Y, 0, none⟩ = some (.int .i64 tk) := z8.cell (i := 0) (by decide)
          have b1 : V3.cell? ⟨Y, 1, none⟩ = some (.int .i64 tp) := z8.cell (i := 1) (by decide)
          have b2 : V3.cell? ⟨Y, 2, none⟩ = some (.bool kb) := z8.cell (i := 2) (by decide)
          have b3 : V3.cell? ⟨Y, 3, none⟩ = some (.int .u32 0) := z8.cell (i := 3) (by decide)
          have b4 : V3.cell? ⟨Y, 4, none⟩ = some (.int .i64 (n : Int)) := z8.cell (i := 4) (by decide)
          have x0 : V3.cell? ⟨X, 0, none⟩ = some (.int .i64 0) := x8.cell (i := 0) (by decide)
          have x1 : V3.cell? ⟨X, 1, none⟩ = some (.int .i64 0) := x8.cell (i := 1) (by decide)
          have x2 : V3.cell? ⟨X, 2, none⟩ = some (.bool false) := x8.cell (i := 2) (by decide)
          have x3 : V3.cell? ⟨X, 3, none⟩ = some (.int .u32 0) := x8.cell (i := 3) (by decide)
          have x4 : V3.cell? ⟨X, 4, none⟩ = some (.int .i64 0) := x8.cell (i := 4) (by decide)
          have f0 := x8.frozen 0
          have f1 := x8.frozen 1
          have f2 := x8.frozen 2
          have f3 := x8.frozen 3
          have f4 := x8.frozen 4
          have HD := hidC (((((D8.set hE HRB.out HX.out 0 (.int .i64 tk)).set hE HRB.out HX.out 1 (.int .i64 tp)).set hE HRB.out HX.out 2 (.bool kb)).set hE HRB.out HX.out 3 (.int .u32 0)).set hE HRB.out HX.out 4 (.int .i64 (n : Int)))
          try rw [hV3]
          clear hV3 D7 D8 x7 z7 x8 z8 y7 f7 KN' HG
          go_wp2
          refine bodyPost_ret (by simp [results, Tryz.results55, go_sem, *]; try rfl) rfl ?_
          rw [HRR.out]
          exact HD.out.fin HL7.out HD7.out
      · have q2 : (tk == 2) = false := by simpa using q
        simp only [if_neg q] at hR
        have KN := pattern_any E RB s A2 V2 D6.2.2 HL5.out hs (Nat.le_trans hE D6.2.1.1)
        cases hq3 : pFix 4 ((bytN s).drop A2) A2 with
        | error er =>
          obtain ⟨er, at_⟩ := er
          rw [pBind_err hq3] at hR
          rw [hq3] at KN
          have KN' := hidC KN
          unfold RdT flt at KN'
          simp only at KN'
          have HG : Hid (∀ w', Below E V2 w' → RdO RB V2 w' → RdT E RB s w slV R (flt er at_) w') := fun w' a b => by rw [← hR]; exact D6.bad slV er at_ a b
          unfold flt at HG
          clear D6 KN hq3 hR x6 z6
          go_wp2_with (go_at_call 88; (with_reducible refine KN'.out.mono ?_); rintro e9 w7 ⟨rfl, hb7, ho7⟩; have HR7 := hidC (HG.out _ hb7 ho7); clear hb7 ho7)
          exact ⟨rfl, HR7.out⟩
        | ok r =>
          obtain ⟨n, l3, A3⟩ := r
          rw [pBind_at hq3] at hR
          rw [hq3] at KN
          have KN' := hidC KN
          unfold RdT at KN'
          simp only at KN'
          have HG : Hid (∀ w', Below E V2 w' → RdO RB V2 w' → RdM E RB s A3 w' → Rds E RB s A3 w w' ∧ w'.rowIs X 66 5 (sl5 (.int .i64 0) (.int .i64 0) (.bool false) (.int .u32 0) (.int .i64 0)) ∧ w'.rowIs Y 66 5 (sl5 (.int .i64 tk) (.int .i64 tp) (.bool kb) (.int .u32 0) (.int .i64 0))) := fun w' a b c => ⟨D6.next a b c, rdo_row b x6 hXR, rdo_row b z6 hYR⟩
          have HRR : Hid (R = .ok (⟨⟨tk, tp⟩, kb, (n : Int), 0⟩, l3, A3)) := hR.symm
          clear D6 KN hq3 hR x6 z6
          go_upto_region 6 with (go_at_call 88; (with_reducible refine KN'.out.mono ?_); rintro e9 w7 ⟨rfl, hb7, ho7, hm7, hl7, hd7⟩; obtain ⟨D7, x7, z7⟩ := HG.out _ hb7 ho7 hm7; have HL7 := hidC hl7; have HD7 := hidC hd7; have y7 : w7.cell? ⟨Y, 3, none⟩ = some (.int .u32 0) := z7.cell (i := 3) (by decide); have f7 := z7.frozen 3; clear hb7 ho7 hm7 hl7 hd7)
          obtain ⟨V3, hV3⟩ : ∃ V3, w7.setCell ⟨Y, 3, none⟩ (.int .u32 (n : Int)) = V3 := ⟨_, rfl⟩
          have x8 := x7.of_block (w' := V3) (by rw [← hV3]; exact Below.heap_setCell _ _ _ _ hXY)
          have z8 : V3.rowIs Y 66 5 (sl5 (.int .i64 tk) (.int .i64 tp) (.bool kb) (.int .u32 (n : Int)) (.int .i64 0)) := by
            rw [← hV3]
            exact (z7.set 3 (.int .u32 (n : Int))).congr fun j hj => by
              rcases (show j = 0 ∨ j = 1 ∨ j = 2 ∨ j = 3 ∨ j = 4 by omega) with rfl | rfl | rfl | rfl | rfl <;> rfl
          have D8 : Rds E RB s A3 w V3 := by rw [← hV3]; exact D7.set hE HRB.out hwY 3 _
          have b0 : V3.cell? ⟨Y, 0, none⟩ = some (.int .i64 tk) := z8.cell (i := 0) (by decide)
          have b1 : V3.cell? ⟨Y, 1, none⟩ = some (.int .i64 tp) := z8.cell (i := 1) (by decide)
          have b2 : V3.cell? ⟨Y, 2, none⟩ = some (.bool kb) := z8.cell (i := 2) (by decide)
          have b3 : V3.cell? ⟨Y, 3, none⟩ = some (.int .u32 (n : Int)) := z8.cell (i := 3) (by decide)
          have b4 : V3.cell? ⟨Y, 4, none⟩ = some (.int .i64 0) := z8.cell (i := 4) (by decide)
          have x0 : V3.cell? ⟨X, 0, none⟩ = some (.int .i64 0) := x8.cell (i := 0) (by decide)
          have x1 : V3.cell? ⟨X, 1, none⟩ = some (.int .i64 0) := x8.cell (i := 1) (by decide)
          have x2 : V3.cell? ⟨X, 2, none⟩ = some (.bool false) := x8.cell (i := 2) (by decide)
          have x3 : V3.cell? ⟨X, 3, none⟩ = some (.int .u32 0) := x8.cell (i := 3) (by decide)
          have x4 : V3.cell? ⟨X, 4, none⟩ = some (.int .i64 0) := x8.cell (i := 4) (by decide)
          have f0 := x8.frozen 0
          have f1 := x8.frozen 1
          have f2 := x8.frozen 2
          have f3 := x8.frozen 3
          have f4 := x8.frozen 4
          have HD := hidC (((((D8.set hE HRB.out HX.out 0 (.int .i64 tk)).set hE HRB.out HX.out 1 (.int .i64 tp)).set hE HRB.out HX.out 2 (.bool kb)).set hE HRB.out HX.out 3 (.int .u32 (n : Int))).set hE HRB.out HX.out 4 (.int .i64 0))
          try rw [hV3]
          clear hV3 D7 D8 x7 z7 x8 z8 y7 f7 KN' HG
          go_wp2
          refine bodyPost_ret (by simp [results, Tryz.results55, go_sem, *]; try rfl) rfl ?_
          rw [HRR.out]
          exact HD.out.fin HL7.out HD7.out

end Go.Proofs.YtnlgkkbmbijndaaGreat
/- Package code: the reader: a list of slots. By program (tool/layer25/genrl.py). -/
namespace Go.Proofs.YtnlgkkbmbijndaaGreat
open Go.RowKit
set_option linter.unusedVariables false
set_option linter.unusedSimpArgs false

set_option maxRecDepth 100000 in
set_option maxHeartbeats 8000000 in
theorem rlistS_any (E RB : Nat) (s : ByteArray) (A : Nat) (w : World) (h : RdM E RB s A w) (hA : A ≤ s.size) (hs : s.size ≤ 140737488355328) (hE : E ≤ w.heap.size) :
    Calls Tryz.prog 54 #[.pointer (some ⟨RB, 0, none⟩), .int .i64 4096, .func (.func 55) #[.pointer (some ⟨RB, 0, none⟩)] #[]] w (RdL E RB s w 66 5 slC (pLst 4096 pSl ((bytN s).drop A) A)) := by
  have KN : Calls Tryz.prog 84 #[.pointer (some ⟨RB, 0, none⟩), .int .i64 4096] w (RdT E RB s w (fun (b : Nat) => .int .i64 (b : Int)) (pCount 4096 ((bytN s).drop A) A)) := count_any E RB s A 4096 w h hA hs hE
  have hRB : RB < w.heap.size := h.b.lt
  cases hq : pCount 4096 ((bytN s).drop A) A with
  | error er =>
    obtain ⟨er, at_⟩ := er
    have HP : Hid (pLst 4096 pSl ((bytN s).drop A) A = .error (er, at_)) := by show pLst _ _ _ _ = _; unfold pLst; exact pBind_err hq
    rw [HP.out]
    rw [hq] at KN
    have KN' := hidC KN
    unfold RdT flt at KN'
    unfold RdL flt
    simp only at KN' ⊢
    clear h KN hq HP hRB
    go_enter Tryz.func54, Tryz.ntmps54
    go_wp2_with (go_at_call 84; (with_reducible refine KN'.out.mono ?_); rintro e9 w4 ⟨rfl, hb4, ho4⟩; have HB4 := hidC hb4; have HO4 := hidC ho4; clear hb4 ho4)
    exact ⟨rfl, rfl, HB4.out, HO4.out⟩
  | ok r =>
    obtain ⟨N, l1, A1⟩ := r
    have hN := pCount_in hq
    rw [hq] at KN
    have KN' := hidC KN
    unfold RdT at KN'
    simp only at KN'
    have HST : Hid (l1 = (bytN s).drop A1 → pLst 4096 pSl ((bytN s).drop A) A = pMore pSl (N - 0) [] ((bytN s).drop A1) A1) := fun e => by
      unfold pLst
      rw [pBind_at hq, Nat.sub_zero, pMore_start, e]
    obtain ⟨R, hR⟩ : ∃ R, pLst 4096 pSl ((bytN s).drop A) A = R := ⟨_, rfl⟩
    rw [hR] at HST ⊢
    have HRB := hidC hRB
    have HE := hidC hE
    have HS := hidC hs
    clear h KN hq hR hRB hA hs hE
    go_enter Tryz.func54, Tryz.ntmps54
    go_upto_block 0 with (go_at_call 84; (with_reducible refine KN'.out.mono ?_); rintro e9 w4 ⟨rfl, hb4, ho4, hm4, hl4, hd4⟩; have HJ0 := hidC (And.intro hb4 (And.intro ho4 (And.intro hm4 (And.intro hl4 hd4)))); clear hb4 ho4 hm4 hl4 hd4)
    go_wp2_with fail
    go_loopw [7, 11] (fun lv iv wx => ∃ (k A' : Nat) (xs : List Sl) (p : Option Addr) (q : Nat), k ≤ N ∧ iv = .int .i64 (k : Int) ∧ lv = .slice p k q ∧ Hid (xs.length = k ∧ Below E w wx ∧ RdO RB w wx ∧ RdM E RB s A' wx ∧ A' ≤ s.size ∧ wx.ownsRow w.heap.size 66 5 (.slice p k q) k (flat slC xs) ∧ R = pMore pSl (N - k) xs ((bytN s).drop A') A')) (fun _ iv _ => N - (intOf iv).toNat)
    case atStart =>
      obtain ⟨j1, j2, j3, j4, j5⟩ := HJ0.out
      exact ⟨0, A1, [], none, 0, Nat.zero_le _, rfl, rfl, rfl, j1, j2, j3, j4, World.ownsRow_nil _ _ _ 5, HST.out j5⟩
    case round =>
      clear HJ0 HST KN'
      obtain ⟨k, A', xs, p, q, hk, rfl, rfl, HJ⟩ := hrel
      by_cases hlt : k < N
      · obtain ⟨j1, j2, j3, j4, j5, j6, j7⟩ := HJ.out
        have e1 : (k : Int) < (N : Int) := by omega
        have hEr : E ≤ wr.heap.size := Nat.le_trans HE.out j3.1
        have KX := slot_any E RB s A' wr j4 j5 HS.out hEr
        rw [show N - k = (N - (k + 1)) + 1 by omega, pMore_step] at j7
        cases hq2 : pSl ((bytN s).drop A') A' with
        | error er =>
          obtain ⟨er, at_⟩ := er
          rw [pBind_err hq2] at j7
          rw [hq2] at KX
          have KX' := hidC KX
          unfold RdT flt at KX'
          simp only at KX'
          have HG : Hid (∀ w', Below E wr w' → RdO RB wr w' → RdL E RB s w 66 5 slC R (flt er at_) w') := fun w' a b => by rw [j7]; exact ⟨rfl, j2.trans a, j3.trans b⟩
          unfold flt at HG
          clear j1 j2 j3 j4 j5 j6 j7 hq2 KX HJ hEr hlt
          go_wp2_with (go_at_call 55; (with_reducible refine KX'.out.mono ?_); rintro e9 w5 ⟨rfl, hb5, ho5⟩; have HR5 := hidC (HG.out _ hb5 ho5); clear hb5 ho5)
          exact ⟨rfl, HR5.out⟩
        | ok r =>
          obtain ⟨x, l2, A2⟩ := r
          rw [pBind_at hq2] at j7
          rw [hq2] at KX
          have KX' := hidC KX
          unfold RdT at KX'
          simp only [slV] at KX'
          have HAP : Hid (∀ w5, RdO RB wr w5 → ∃ g c' w6, (Builtin.append_ #[24, 24] 24 #[.slice p k q, .slice (some ⟨w5.heap.size, 0, none⟩) 1 1]).run Tryz.prog (w5.alloc (.cells #[.int .i64 (x.ty.kind), .int .i64 (x.ty.par), .bool (x.keep), .int .u32 (x.bits), .int .i64 (x.int_)] 66)) = .ok (.slice (some ⟨g, 0, none⟩) (k + 1) c') w6 ∧ Below w.heap.size w5 w6 ∧ w6.ownsRow w.heap.size 66 5 (.slice (some ⟨g, 0, none⟩) (k + 1) c') (k + 1) (flat slC (xs ++ [x]))) := fun w5 ho => by
            have hown : w5.ownsRow w.heap.size 66 5 (.slice p k q) k (flat slC xs) := own_keep j6 fun b hb => ho.2 b (j6.lt b hb).2 (fun e => by have := (j6.lt b hb).1; have := HRB.out; omega)
            obtain ⟨g, c', w6, a1, a2, a3, -⟩ := own_app2 Tryz.underlying24 info_Slot rfl (by decide) hown (Nat.le_trans j3.1 ho.1) #[.int .i64 (x.ty.kind), .int .i64 (x.ty.par), .bool (x.keep), .int .u32 (x.bits), .int .i64 (x.int_)] rfl (fun u hu => slC_one x u hu) (by unfold maxLen; omega) (by omega) 24
            refine ⟨g, c', w6, a1, a2, ?_⟩
            rw [flat_snoc]
            exact a3
          have HG : Hid (∀ w5 w6, Below E wr w5 → RdO RB wr w5 → RdM E RB s A2 w5 → Below w.heap.size w5 w6 → Below E w w6 ∧ RdO RB w w6 ∧ RdM E RB s A2 w6) := fun w5 w6 a b c d =>
            ⟨(j2.trans a).trans (d.mono HE.out), ⟨Nat.le_trans (j3.trans b).1 d.size, fun i hi hne => (d.block i hi).trans ((j3.trans b).2 i hi hne)⟩, ⟨c.b.of_block (d.block _ HRB.out), c.ge⟩⟩
          have HXL : Hid ((xs ++ [x]).length = k + 1) := by show _ = _; rw [List.length_append, j1]; rfl
          have H7 := hidC j7
          have wi : IntKind.i64.wrap ((k : Int) + 1) = ((k + 1 : Nat) : Int) := by rw [IntKind.wrap_i64]; omega
          clear j1 j2 j3 j4 j5 j6 j7 hq2 KX HJ hEr
          go_wp2_with (first | (go_at_call 55; (with_reducible refine KX'.out.mono ?_); rintro e9 w5 ⟨rfl, hb5, ho5, hm5, hl5, hd5⟩; obtain ⟨g, c', w6, hrun, hb6, ho6⟩ := HAP.out w5 ho5; have HRUN := hidC hrun; have HO6 := hidC ho6; have HQ := hidC (HG.out w5 w6 hb5 ho5 hm5 hb6); have HL5 := hidC hl5; have HD5 := hidC hd5; clear hb5 ho5 hm5 hl5 hd5 hrun hb6 ho6) | (at_builtin; refine wpList_app (by rfl) _ _ _ (by rfl) _ _ _ (by rfl) (by rfl) HRUN.out ?_))
          go_roundw
          case rel => exact ⟨k + 1, A2, xs ++ [x], some ⟨g, 0, none⟩, c', by omega, by go_num, rfl, HXL.out, HQ.out.1, HQ.out.2.1, HQ.out.2.2, HL5.out, HO6.out, by rw [← HD5.out]; exact H7.out⟩
          case measure => simp [intOf]; omega
      · obtain ⟨j1, j2, j3, j4, j5, j6, j7⟩ := HJ.out
        have e1 : ¬ (k : Int) < (N : Int) := by omega
        rw [show N - k = 0 by omega, pMore_end] at j7
        have HG : Hid (RdL E RB s w 66 5 slC R (.returned (.slice p k q)) wr) := by show RdL _ _ _ _ _ _ _ _ _ _; rw [j7]; exact ⟨_, rfl, by rw [j1]; exact j6, j2, j3, j4, j5, rfl⟩
        clear j1 j2 j3 j4 j5 j6 j7 HJ hlt
        go_wp2
        refine bodyPost_ret (by simp [results, Tryz.results54, go_sem, *]; try rfl) rfl ?_
        exact HG.out

end Go.Proofs.YtnlgkkbmbijndaaGreat
/- Package code: the reader: param. -/
namespace Go.Proofs.YtnlgkkbmbijndaaGreat
open Go.RowKit
set_option linter.unusedVariables false
set_option linter.unusedSimpArgs false

theorem cclone_any (s : ByteArray) (hs : s.size ≤ 65536) (w : World) :
    Calls Tryz.prog 86 #[.string s] w fun e w' => e = .returned (.string s) ∧ Below w.heap.size w w' := by
  go_enter Tryz.func86, Tryz.ntmps86
  go_wp2_with (go_at_call 112; refine (sh_stringslite_Clone s _ (by omega)).mono ?_; rintro e w1 ⟨rfl, hb⟩)
  refine bodyPost_ret (by simp [results, Tryz.results86, go_sem, *]; try rfl) rfl ?_
  exact ⟨rfl, hb⟩
theorem rtake_any (E RB : Nat) (s : ByteArray) (A n : Nat) (w : World) (h : RdM E RB s A w) (hA : A ≤ s.size) (hs : s.size ≤ 140737488355328) (hn : n ≤ 140737488355328) (hE : E ≤ w.heap.size) :
    Calls Tryz.prog 83 #[.pointer (some ⟨RB, 0, none⟩), .int .i64 (n : Int)] w (RdT E RB s w (fun l => .string (ofN l)) (pTake n ((bytN s).drop A) A)) := by
  by_cases hlt : s.size < A + n
  · refine (take_cut E RB s A n w h hA hs hn hlt).mono ?_
    rintro e w' ⟨e1, e2⟩
    unfold pTake
    rw [if_pos (by rw [List.length_drop, bytN_len]; omega)]
    exact ⟨e1, e2.mono hE, RdO.of e2⟩
  · refine (take_ok E RB s A n w h hs (by omega) hE).mono ?_
    rintro e w' ⟨e1, e2, e3, e4⟩
    unfold pTake
    rw [if_neg (by rw [List.length_drop, bytN_len]; omega), ← bytN_ext]
    refine ⟨?_, e2, e4, e3, by omega, by rw [List.drop_drop]⟩
    rw [e1]
    simp only [ofN_bytN]
theorem pPar_eq : pPar = pBind (pByte 1 2) fun k => pBind (pCount 64) fun n => pBind (pTake n) fun l => pBind pNum fun m => pPure (⟨ofN l, (k : Int), (m : Int)⟩ : Par) := by
  unfold pPar pNam pFld
  simp only [pBind_assoc, pBind_pure, if_true]
def pr3 (a b c : Value) (j : Nat) : Value := if j = 0 then a else if j = 1 then b else c
theorem pTake_len {n : Nat} {l x l' : List Nat} {p p' : Nat} (h : pTake n l p = .ok (x, l', p')) : x.length = n := by
  unfold pTake at h
  split at h
  · cases h
  · simp only [Except.ok.injEq, Prod.mk.injEq] at h
    rw [← h.1, List.length_take]
    omega

set_option maxRecDepth 100000 in
set_option maxHeartbeats 8000000 in
theorem param_any (E RB : Nat) (s : ByteArray) (A : Nat) (w : World) (h : RdM E RB s A w) (hA : A ≤ s.size) (hs : s.size ≤ 140737488355328) (hE : E ≤ w.heap.size) :
    Calls Tryz.prog 51 #[.pointer (some ⟨RB, 0, none⟩)] w (RdT E RB s w pv (pPar ((bytN s).drop A) A)) := by
  obtain ⟨W0, hW0⟩ : ∃ W, w.alloc (.cells #[.string ⟨#[]⟩, .int .i64 0, .int .i64 0] 59) = W := ⟨_, rfl⟩
  have hb0 : Below w.heap.size w W0 := by rw [← hW0]; exact bel_alloc _ _
  have h0 := h.below hb0
  have hE0 : E ≤ W0.heap.size := Nat.le_trans hE hb0.size
  obtain ⟨X, hX⟩ : ∃ X, w.heap.size = X := ⟨_, rfl⟩
  have hXR : X ≠ RB := by have := h.b.lt; omega
  have hr0 : W0.rowIs X 59 3 (pr3 (.string ⟨#[]⟩) (.int .i64 0) (.int .i64 0)) := by
    rw [← hW0, ← hX]
    exact World.rowIs_alloc w #[.string ⟨#[]⟩, .int .i64 0, .int .i64 0] 59 _ (fun i hi => by
      rcases (show i = 0 ∨ i = 1 ∨ i = 2 by have : i < 3 := hi; omega) with rfl | rfl | rfl <;> rfl)
  have KS : Calls Tryz.prog 85 #[.pointer (some ⟨RB, 0, none⟩), .int .i64 1, .int .i64 2] W0 (RdT E RB s W0 (fun (b : Nat) => .int .i64 (b : Int)) (pByte 1 2 ((bytN s).drop A) A)) := small_any E RB s A 1 2 W0 h0 hA hs hE0
  obtain ⟨R, hR⟩ : ∃ R, pPar ((bytN s).drop A) A = R := ⟨_, rfl⟩
  rw [hR]
  rw [pPar_eq] at hR
  have HRS := hidC ((Rds.start h).below hE hb0)
  cases hq : pByte 1 2 ((bytN s).drop A) A with
  | error er =>
    obtain ⟨er, at_⟩ := er
    have HP : R = .error (er, at_) := by rw [← hR]; exact pBind_err hq
    rw [hq] at KS
    have KS' := hidC KS
    have HG : Hid (∀ w', Below E W0 w' → RdO RB W0 w' → RdT E RB s w pv R (flt er at_) w') := fun w' a b => by rw [HP]; exact HRS.out.bad pv er at_ a b
    unfold RdT flt at KS'
    unfold flt at HG
    simp only at KS'
    clear h h0 hb0 hr0 KS hq HP hR hX hXR hE0
    go_enter Tryz.func51, Tryz.ntmps51
    go_upto_region 1 with fail
    try rw [hW0]
    clear hW0
    go_wp2_with (go_at_call 85; (with_reducible refine KS'.out.mono ?_); rintro e9 w4 ⟨rfl, hb4, ho4⟩; have HR5 := hidC (HG.out _ hb4 ho4); clear hb4 ho4)
    exact ⟨rfl, HR5.out⟩
  | ok r =>
    obtain ⟨k, l', A1⟩ := r
    rw [pBind_at hq] at hR
    rw [hq] at KS
    have KS' := hidC KS
    unfold RdT at KS'
    simp only at KS'
    have HR0 := hidC hr0
    have HRB := hidC h.b.lt
    have HX : Hid (w.heap.size ≤ X) := Nat.le_of_eq hX
    have HRR := hidC hR
    clear h h0 hb0 hr0 KS hE0 hR hq
    go_enter Tryz.func51, Tryz.ntmps51
    go_upto_region 1 with fail
    try rw [hW0]
    try rw [hX]
    clear hW0 hX
    go_upto_region 2 with (go_at_call 85; (with_reducible refine KS'.out.mono ?_); rintro e9 w4 ⟨rfl, hb4, ho4, hm4, hl4, hd4⟩; have HB4 := hidC hb4; have HO4 := hidC ho4; have HM4 := hidC hm4; have HD4 := hidC hd4; have HL4 := hidC hl4; clear hb4 ho4 hm4 hl4 hd4)
    obtain ⟨Y, hY⟩ : ∃ Y, w4.heap.size = Y := ⟨_, rfl⟩
    obtain ⟨V, hV⟩ : ∃ V, w4.alloc (.cells #[.string ⟨#[]⟩, .int .i64 (k : Int), .int .i64 0] 59) = V := ⟨_, rfl⟩
    have hbV : Below w4.heap.size w4 V := by rw [← hV]; exact bel_alloc _ _
    have r4 := rdo_row HO4.out HR0.out hXR
    have rx := r4.of_block (hbV.block _ r4.lt)
    have ry : V.rowIs Y 59 3 (pr3 (.string ⟨#[]⟩) (.int .i64 (k : Int)) (.int .i64 0)) := by
      rw [← hV, ← hY]
      exact World.rowIs_alloc w4 #[.string ⟨#[]⟩, .int .i64 (k : Int), .int .i64 0] 59 _ (fun i hi => by
      rcases (show i = 0 ∨ i = 1 ∨ i = 2 by have : i < 3 := hi; omega) with rfl | rfl | rfl <;> rfl)
    have hXY : X ≠ Y := by have := r4.lt; omega
    have hYR : Y ≠ RB := by have := HM4.out.b.lt; omega
    have hwY : w.heap.size ≤ Y := by have := r4.lt; have := HX.out; omega
    have D1 : Rds E RB s A1 w V := ((HRS.out.next HB4.out HO4.out HM4.out).below hE hbV)
    have KM : Calls Tryz.prog 84 #[.pointer (some ⟨RB, 0, none⟩), .int .i64 64] V (RdT E RB s V (fun (b : Nat) => .int .i64 (b : Int)) (pCount 64 ((bytN s).drop A1) A1)) := count_any E RB s A1 64 V D1.2.2 HL4.out hs (Nat.le_trans hE D1.2.1.1)
    have hR := HRR.out
    rw [HD4.out] at hR
    try rw [hV]
    try rw [hY]
    clear hV hY hbV HRR KS' HB4 HO4 HM4 HD4 HR0 HRS
    cases hq2 : pCount 64 ((bytN s).drop A1) A1 with
    | error er =>
      obtain ⟨er, at_⟩ := er
      rw [pBind_err hq2] at hR
      rw [hq2] at KM
      have KM' := hidC KM
      unfold RdT flt at KM'
      simp only at KM'
      have HG : Hid (∀ w', Below E V w' → RdO RB V w' → RdT E RB s w pv R (flt er at_) w') := fun w' a b => by rw [← hR]; exact D1.bad pv er at_ a b
      unfold flt at HG
      clear D1 KM hq2 hR rx ry r4
      go_wp2_with (go_at_call 84; (with_reducible refine KM'.out.mono ?_); rintro e9 w5 ⟨rfl, hb5, ho5⟩; have HR5 := hidC (HG.out _ hb5 ho5); clear hb5 ho5)
      exact ⟨rfl, HR5.out⟩
    | ok r =>
      obtain ⟨N, l2, A2⟩ := r
      have hN64 := pCount_in hq2
      rw [pBind_at hq2] at hR
      rw [hq2] at KM
      have KM' := hidC KM
      unfold RdT at KM'
      simp only at KM' hR
      have KT := hidC (fun (v : World) (a : RdM E RB s A2 v) (b : A2 ≤ s.size) (c : E ≤ v.heap.size) => rtake_any E RB s A2 N v a b hs (by omega) c)
      have HD1 := hidC D1
      have HRX := hidC rx
      have HRY := hidC ry
      have HRR := hidC hR
      clear D1 KM hq2 hR rx ry r4
      cases hq3 : pTake N ((bytN s).drop A2) A2 with
      | error er =>
        obtain ⟨er, at_⟩ := er
        rw [hq3] at KT
        unfold RdT flt at KT
        simp only at KT
        have HG : Hid (∀ v w', l2 = (bytN s).drop A2 → Below E V v → RdO RB V v → RdM E RB s A2 v → Below E v w' → RdO RB v w' → RdT E RB s w pv R (flt er at_) w') := fun v w' e a b c d f => by
          rw [← HRR.out, e, pBind_err hq3]
          exact (HD1.out.next a b c).bad pv er at_ d f
        unfold flt at HG
        clear hq3 HRR
        go_wp2_with (first | (go_at_call 84; (with_reducible refine KM'.out.mono ?_); rintro e9 w5 ⟨rfl, hb5, ho5, hm5, hl5, hd5⟩; have KT5 := hidC (KT.out w5 hm5 hl5 (Nat.le_trans hE (HD1.out.2.1.trans ho5).1)); have HG5 := hidC (fun w' => HG.out w5 w' hd5 hb5 ho5 hm5); clear hb5 ho5 hm5 hl5 hd5) | (go_at_call 83; (with_reducible refine KT5.out.mono ?_); rintro e9 w6 ⟨rfl, hb6, ho6⟩; have HR5 := hidC (HG5.out _ hb6 ho6); clear hb6 ho6))
        exact ⟨rfl, HR5.out⟩
      | ok r =>
        obtain ⟨nm, l3, A3⟩ := r
        have hnm := pTake_len hq3
        rw [hq3] at KT
        unfold RdT at KT
        simp only at KT
        have HR3 : Hid (l2 = (bytN s).drop A2 → l3 = (bytN s).drop A3 → R = (pBind pNum fun m => pPure (⟨ofN nm, (k : Int), (m : Int)⟩ : Par)) ((bytN s).drop A3) A3) := fun e f => by rw [← HRR.out, e, pBind_at hq3, f]
        have KC := hidC (fun (v : World) => cclone_any (ofN nm) (by rw [ofN_size]; omega) v)
        have HG : Hid (∀ w', Below E V w' → RdO RB V w' → RdM E RB s A3 w' → Rds E RB s A3 w w' ∧ w'.rowIs X 59 3 (pr3 (.string ⟨#[]⟩) (.int .i64 0) (.int .i64 0)) ∧ w'.rowIs Y 59 3 (pr3 (.string ⟨#[]⟩) (.int .i64 (k : Int)) (.int .i64 0))) := fun w' a b c => ⟨HD1.out.next a b c, rdo_row b HRX.out hXR, rdo_row b HRY.out hYR⟩
        have HVE : Hid (E ≤ V.heap.size) := Nat.le_trans hE HD1.out.2.1.1
        obtain ⟨nb, hnb⟩ : ∃ nb, ofN nm = nb := ⟨_, rfl⟩
        rw [hnb] at KT HR3 KC
        clear hq3 HRR hnb hnm HRX HRY
        go_upto_region 3 with (first | (go_at_call 84; (with_reducible refine KM'.out.mono ?_); rintro e9 w5 ⟨rfl, hb5, ho5, hm5, hl5, hd5⟩; have KT5 := hidC (KT.out w5 hm5 hl5 (Nat.le_trans HVE.out ho5.1)); have HB5 := hidC hb5; have HO5 := hidC ho5; have HD5 := hidC hd5; clear hb5 ho5 hm5 hl5 hd5) | (go_at_call 83; (with_reducible refine KT5.out.mono ?_); rintro e9 w6 ⟨rfl, hb6, ho6, hm6, hl6, hd6⟩; have HB6 := hidC (HB5.out.trans hb6); have HO6 := hidC (HO5.out.trans ho6); have HM6 := hidC hm6; have HL6 := hidC hl6; have HD6 := hidC hd6; clear hb6 ho6 hm6 hl6 hd6) | (go_at_call 86; (with_reducible refine (KC.out _).mono ?_); rintro e9 w7 ⟨rfl, hb7⟩; obtain ⟨D7, x7, z7⟩ := HG.out w7 (HB6.out.trans (hb7.mono (Nat.le_trans HVE.out HO6.out.1))) (HO6.out.trans (RdO.of hb7)) (HM6.out.below hb7); have y7 : w7.cell? ⟨Y, 0, none⟩ = some (.string ⟨#[]⟩) := z7.cell (i := 0) (by decide); have f7 := z7.frozen 0; clear hb7))
        obtain ⟨V2, hV2⟩ : ∃ V2, w7.setCell ⟨Y, 0, none⟩ (.string nb) = V2 := ⟨_, rfl⟩
        have x8 := x7.of_block (w' := V2) (by rw [← hV2]; exact Below.heap_setCell _ _ _ _ hXY)
        have z8 : V2.rowIs Y 59 3 (pr3 (.string nb) (.int .i64 (k : Int)) (.int .i64 0)) := by
          rw [← hV2]
          exact (z7.set 0 (.string nb)).congr fun j hj => by
            rcases (show j = 0 ∨ j = 1 ∨ j = 2 by omega) with rfl | rfl | rfl <;> rfl
        have D8 : Rds E RB s A3 w V2 := by rw [← hV2]; exact D7.set hE HRB.out hwY 0 _
        have hR := (HR3.out HD5.out HD6.out).symm
        have KN := number_any E RB s A3 V2 D8.2.2 HL6.out hs (Nat.le_trans hE D8.2.1.1)
        try rw [hV2]
        clear hV2 D7 x7 z7 y7 f7 HG KC KT KT5 KM' HB5 HO5 HD5 HB6 HO6 HM6 HR3 HD1
        cases hq4 : pNum ((bytN s).drop A3) A3 with
        | error er =>
          obtain ⟨er, at_⟩ := er
          rw [pBind_err hq4] at hR
          rw [hq4] at KN
          have KN' := hidC KN
          unfold RdT flt at KN'
          simp only at KN'
          have HG : Hid (∀ w', Below E V2 w' → RdO RB V2 w' → RdT E RB s w pv R (flt er at_) w') := fun w' a b => by rw [← hR]; exact D8.bad pv er at_ a b
          unfold flt at HG
          clear D8 KN hq4 hR x8 z8
          go_wp2_with (go_at_call 87; (with_reducible refine KN'.out.mono ?_); rintro e9 w7 ⟨rfl, hb7, ho7⟩; have HR7 := hidC (HG.out _ hb7 ho7); clear hb7 ho7)
          exact ⟨rfl, HR7.out⟩
        | ok r =>
          obtain ⟨n, l4, A4⟩ := r
          rw [pBind_at hq4] at hR
          rw [hq4] at KN
          have KN' := hidC KN
          unfold RdT at KN'
          simp only at KN'
          have HG : Hid (∀ w', Below E V2 w' → RdO RB V2 w' → RdM E RB s A4 w' → Rds E RB s A4 w w' ∧ w'.rowIs X 59 3 (pr3 (.string ⟨#[]⟩) (.int .i64 0) (.int .i64 0)) ∧ w'.rowIs Y 59 3 (pr3 (.string nb) (.int .i64 (k : Int)) (.int .i64 0))) := fun w' a b c => ⟨D8.next a b c, rdo_row b x8 hXR, rdo_row b z8 hYR⟩
          have HRR : Hid (R = .ok (⟨nb, (k : Int), (n : Int)⟩, l4, A4)) := hR.symm
          clear D8 KN hq4 hR x8 z8
          go_upto_region 4 with (go_at_call 87; (with_reducible refine KN'.out.mono ?_); rintro e9 w8 ⟨rfl, hb7, ho7, hm7, hl7, hd7⟩; obtain ⟨D9, x9, z9⟩ := HG.out _ hb7 ho7 hm7; have HL7 := hidC hl7; have HD7 := hidC hd7; have y9 : w8.cell? ⟨Y, 2, none⟩ = some (.int .i64 0) := z9.cell (i := 2) (by decide); have f9 := z9.frozen 2; clear hb7 ho7 hm7 hl7 hd7)
          obtain ⟨V3, hV3⟩ : ∃ V3, w8.setCell ⟨Y, 2, none⟩ (.int .i64 (n : Int)) = V3 := ⟨_, rfl⟩
          have xa := x9.of_block (w' := V3) (by rw [← hV3]; exact Below.heap_setCell _ _ _ _ hXY)
          have za : V3.rowIs Y 59 3 (pr3 (.string nb) (.int .i64 (k : Int)) (.int .i64 (n : Int))) := by
            rw [← hV3]
            exact (z9.set 2 (.int .i64 (n : Int))).congr fun j hj => by
              rcases (show j = 0 ∨ j = 1 ∨ j = 2 by omega) with rfl | rfl | rfl <;> rfl
          have Da : Rds E RB s A4 w V3 := by rw [← hV3]; exact D9.set hE HRB.out hwY 2 _
          have b0 : V3.cell? ⟨Y, 0, none⟩ = some (.string nb) := za.cell (i := 0) (by decide)
          have b1 : V3.cell? ⟨Y, 1, none⟩ = some (.int .i64 (k : Int)) := za.cell (i := 1) (by decide)
          have b2 : V3.cell? ⟨Y, 2, none⟩ = some (.int .i64 (n : Int)) := za.cell (i := 2) (by decide)
          have x0 : V3.cell? ⟨X, 0, none⟩ = some (.string ⟨#[]⟩) := xa.cell (i := 0) (by decide)
          have x1 : V3.cell? ⟨X, 1, none⟩ = some (.int .i64 0) := xa.cell (i := 1) (by decide)
          have x2 : V3.cell? ⟨X, 2, none⟩ = some (.int .i64 0) := xa.cell (i := 2) (by decide)
          have f0 := xa.frozen 0
          have f1 := xa.frozen 1
          have f2 := xa.frozen 2
          have HD := hidC (((Da.set hE HRB.out HX.out 0 (.string nb)).set hE HRB.out HX.out 1 (.int .i64 (k : Int))).set hE HRB.out HX.out 2 (.int .i64 (n : Int)))
          try rw [hV3]
          clear hV3 D9 Da x9 z9 xa za y9 f9 KN' HG
          go_wp2
          refine bodyPost_ret (by simp [results, Tryz.results51, go_sem, *]; try rfl) rfl ?_
          rw [HRR.out]
          exact HD.out.fin HL7.out HD7.out

end Go.Proofs.YtnlgkkbmbijndaaGreat
