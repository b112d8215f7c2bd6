import Derived.Test.YtkdpchlehoomhaaPart13
import Derived.Test.YtkdpchlehoomhaaRows
import Derived.WalkKit
import Derived.ProofKit
import Derived.OpenShut
import Derived.JoinedCond
import Derived.Deep.Slices
import Derived.Deep.Strs
import Derived.SizedLaws
namespace Go.Proofs.Ytkdpchlehoomhaa
open Go.RowKit
set_option linter.unusedVariables false
set_option linter.unusedSimpArgs false
theorem own_frozen {w : World} {B : Nat} {t : TypeId} {k : Nat} {g n c : Nat} {xs : List Value} (h : w.ownsRow B t k (.slice (some ⟨g, 0, none⟩) n c) n xs) (j : Nat) : w.frozen? ⟨g, j, none⟩ = false := by
 rcases h.2 with ⟨hv, _⟩ | ⟨g', cap, cur, hv, hB, hg, _⟩
 ·cases hv
 ·simp only [Value.slice.injEq, Option.some.injEq, Addr.mk.injEq] at hv
  obtain ⟨⟨rfl, -⟩, -⟩ := hv
  simp [World.frozen?, hg]
structure LRows (W : World) (H ga gb : Nat) (i : Ins) (R : List Int) (k : Nat) (v : World) : Prop where
 bel : Below W.heap.size W v
 a : ∀ j (hj : j < R.length), k ≤ j → v.cell? ⟨ga, j, none⟩ = some (.int .i64 R[j]) ∧ v.frozen? ⟨ga, j, none⟩ = false
 b : ∀ j (hj : j < R.length), v.cell? ⟨gb, j, none⟩ = some (.int .i64 R[j])
 box : CellsAt v H 0 (inC i)
 ne : 0 < R.length → ga ≠ gb ∧ ga ≠ H ∧ W.heap.size ≤ ga
theorem LRows.put {W : World} {H ga gb : Nat} {i : Ins} {R : List Int} {k : Nat} {v : World} (h : LRows W H ga gb i R k v) (hk : k < R.length) (x : Value) : LRows W H ga gb i R (k + 1) (v.setCell ⟨ga, k, none⟩ x) := by
 obtain ⟨h1, h2, h3⟩ := h.ne (by omega)
 have far : ∀ b, b ≠ ga → (v.setCell ⟨ga, k, none⟩ x).heap[b]? = v.heap[b]? := fun b hb => Below.heap_setCell _ _ _ _ hb
 refine ⟨h.bel.setCell h3 _, fun j hj hkj => ?_, fun j hj => (World.cell?_of_block (far _ (Ne.symm h1))).trans (h.b j hj), h.box.of_block (far _ (Ne.symm h2)), h.ne⟩
 obtain ⟨e1, e2⟩ := h.a j hj (by omega)
 refine ⟨?_, by simpa using e2⟩
 rw [World.cell?_setCell_other _ _ _ _ (fun e => by simp only [Addr.mk.injEq] at e; omega)]
 exact e1
theorem LRows.below {W : World} {H ga gb : Nat} {i : Ins} {R : List Int} {k : Nat} {v v' : World} (h : LRows W H ga gb i R k v) (q : Below v.heap.size v v') : LRows W H ga gb i R k v' :=
 ⟨Go.Proofs.Ytkdpchlehoomhaa.bel h.bel q, fun j hj hkj => ⟨kc q (h.a j hj hkj).1, kf q (h.a j hj hkj).1 (h.a j hj hkj).2⟩, fun j hj => kc q (h.b j hj), h.box.below q, h.ne⟩
set_option maxRecDepth 100000 in
set_option maxHeartbeats 4000000 in
theorem rows_core (op D A B E n bt : Int) (R : List Int) (hR3 : R.length ≤ 3) (X Y : Bool) (W : World)
  (HK1 : Hid (∀ w, Calls Try.prog 8 #[.agg #[.int .i64 op, .int .i64 D, .int .i64 A, .int .i64 B, .int .i64 E, .int .i64 n, .int .u32 bt]] w fun e w' => ∃ v, e = .returned v ∧ w'.ownsRow w.heap.size 3 1 v R.length (i64s R) ∧ Below w.heap.size w w'))
  (HK2 : Hid (∀ w, Calls Try.prog 9 #[.agg #[.int .i64 op, .int .i64 D, .int .i64 A, .int .i64 B, .int .i64 E, .int .i64 n, .int .u32 bt]] w fun e w' => ∃ v, e = .returned v ∧ w'.ownsRow w.heap.size 3 1 v R.length (i64s R) ∧ Below w.heap.size w w'))
  (HK3 : Hid (∀ w, Calls Try.prog 10 #[.agg #[.int .i64 op, .int .i64 D, .int .i64 A, .int .i64 B, .int .i64 E, .int .i64 n, .int .u32 bt]] w fun e w' => e = .returned (.bool X) ∧ Below w.heap.size w w'))
  (HK4 : Hid (∀ w, Calls Try.prog 11 #[.agg #[.int .i64 op, .int .i64 D, .int .i64 A, .int .i64 B, .int .i64 E, .int .i64 n, .int .u32 bt]] w fun e w' => e = .returned (.bool X) ∧ Below w.heap.size w w'))
  (HK5 : Hid (∀ w, Calls Try.prog 12 #[.int .i64 op] w fun e w' => e = .returned (.bool Y) ∧ w' = w))
  (HK6 : Hid (∀ w, Calls Try.prog 13 #[.int .i64 op] w fun e w' => e = .returned (.bool Y) ∧ w' = w))
  (HK7 : Hid (∀ w, Calls Try.prog 14 #[] w fun e w' => e = .returned (.bool true) ∧ Below w.heap.size w w')) :
  Calls Try.prog 3 #[.agg #[.int .i64 op, .int .i64 D, .int .i64 A, .int .i64 B, .int .i64 E, .int .i64 n, .int .u32 bt]] W fun e W' => e = .returned (.bool true) ∧ Below W.heap.size W W' := by
 have HIC : Hid (∀ v, Below (W.alloc (.cells #[.int .i64 op, .int .i64 D, .int .i64 A, .int .i64 B, .int .i64 E, .int .i64 n, .int .u32 bt] 25)).heap.size (W.alloc (.cells #[.int .i64 op, .int .i64 D, .int .i64 A, .int .i64 B, .int .i64 E, .int .i64 n, .int .u32 bt] 25)) v → CellsAt v W.heap.size 0 (inC ⟨op, D, A, B, E, n, bt⟩)) := fun v k => ins_cells (w := W) (v := v) (i := ⟨op, D, A, B, E, n, bt⟩) (t := 25) k
 have HCC : Hid (∀ v, CellsAt v W.heap.size 0 (inC ⟨op, D, A, B, E, n, bt⟩) → v.cell? ⟨W.heap.size, 0, none⟩ = some (.int .i64 op) ∧ v.cell? ⟨W.heap.size, 1, none⟩ = some (.int .i64 D) ∧ v.cell? ⟨W.heap.size, 2, none⟩ = some (.int .i64 A) ∧ v.cell? ⟨W.heap.size, 3, none⟩ = some (.int .i64 B) ∧ v.cell? ⟨W.heap.size, 4, none⟩ = some (.int .i64 E) ∧ v.cell? ⟨W.heap.size, 5, none⟩ = some (.int .i64 n) ∧ v.cell? ⟨W.heap.size, 6, none⟩ = some (.int .u32 bt)) := fun v h => by
  have q : ∀ j {u : Value}, (inC ⟨op, D, A, B, E, n, bt⟩)[j]? = some u → v.cell? ⟨W.heap.size, j, none⟩ = some u := fun j u e => by have := h.at j e; rwa [Nat.zero_add] at this
  exact ⟨q 0 rfl, q 1 rfl, q 2 rfl, q 3 rfl, q 4 rfl, q 5 rfl, q 6 rfl⟩
 go_enter Try.func3, Try.ntmps3
 go_wp2_with (first
  | (go_at_call 8; (with_reducible refine (HK1.out _).mono ?_); rintro e w1 ⟨va, rfl, ha, hb1⟩; obtain ⟨pa, ca, hva⟩ := own_len ha; subst hva; have HA1 : Hid (w1.ownsRow (W.alloc (.cells #[.int .i64 op, .int .i64 D, .int .i64 A, .int .i64 B, .int .i64 E, .int .i64 n, .int .u32 bt] 25)).heap.size 3 1 (.slice pa R.length ca) R.length (i64s R)) := ha; have HB1 := hb1; obtain ⟨b0, b1, b2, b3, b4, b5, b6⟩ := HCC.out w1 (HIC.out w1 HB1); clear ha hb1)
  | (go_at_call 9; (with_reducible refine (HK2.out _).mono ?_); rintro e w2 ⟨vb, rfl, hbb, hb2⟩; obtain ⟨pb, cb, hvb⟩ := own_len hbb; subst hvb; have HA2 : Hid (w2.ownsRow w1.heap.size 3 1 (.slice pb R.length cb) R.length (i64s R)) := hbb; have HB2 := bel HB1 hb2; have HB12 : Hid (Below w1.heap.size w1 w2) := hb2; obtain ⟨c0, c1, c2, c3, c4, c5, c6⟩ := HCC.out w2 (HIC.out w2 HB2); clear hbb hb2))
 have hsz : (W.alloc (.cells #[.int .i64 op, .int .i64 D, .int .i64 A, .int .i64 B, .int .i64 E, .int .i64 n, .int .u32 bt] 25)).heap.size = W.heap.size + 1 := by simp
 obtain ⟨ga, gb, hg⟩ : ∃ ga gb, (0 < R.length → pa = some ⟨ga, 0, none⟩ ∧ pb = some ⟨gb, 0, none⟩) ∧ LRows W W.heap.size ga gb ⟨op, D, A, B, E, n, bt⟩ R 0 w2 := by
  by_cases h0 : 0 < R.length
  ·obtain ⟨ga, cap, hv, hB, hlt, _, _, hcl⟩ := own_open HA1.out h0
   obtain ⟨gb, cap', hv', hB', hlt', _, _, hcl'⟩ := own_open HA2.out h0
   simp only [Value.slice.injEq] at hv hv'
   have hfz := HA1.out
   rw [hv.1] at hfz
   refine ⟨ga, gb, fun _ => ⟨hv.1, hv'.1⟩, bel (bel_alloc _ _) HB2, fun j hj _ => ⟨kc HB12.out (hcl j _ (by simp [i64s, List.getElem?_eq_getElem hj])), ?_⟩, fun j hj => hcl' j _ (by simp [i64s, List.getElem?_eq_getElem hj]), HIC.out w2 HB2, fun _ => ⟨by omega, by omega, by omega⟩⟩
   exact kf HB12.out (hcl j (.int .i64 R[j]) (by simp [i64s, List.getElem?_eq_getElem hj])) (own_frozen hfz j)
  ·refine ⟨0, 0, fun h => absurd h h0, bel (bel_alloc _ _) HB2, fun j hj _ => absurd hj (by omega), fun j hj => absurd hj (by omega), HIC.out w2 HB2, fun h => absurd h h0⟩
 obtain ⟨hgp, hlr⟩ := hg
 have HGP : Hid (0 < R.length → pa = some ⟨ga, 0, none⟩ ∧ pb = some ⟨gb, 0, none⟩) := hgp
 have HL0 : Hid (LRows W W.heap.size ga gb ⟨op, D, A, B, E, n, bt⟩ R 0 w2) := hlr
 have HL1 : Hid (∀ v, LRows W W.heap.size ga gb ⟨op, D, A, B, E, n, bt⟩ R 0 v → v.cell? ⟨W.heap.size, 0, none⟩ = some (.int .i64 op) ∧ v.cell? ⟨W.heap.size, 1, none⟩ = some (.int .i64 D) ∧ v.cell? ⟨W.heap.size, 2, none⟩ = some (.int .i64 A) ∧ v.cell? ⟨W.heap.size, 3, none⟩ = some (.int .i64 B) ∧ v.cell? ⟨W.heap.size, 4, none⟩ = some (.int .i64 E) ∧ v.cell? ⟨W.heap.size, 5, none⟩ = some (.int .i64 n) ∧ v.cell? ⟨W.heap.size, 6, none⟩ = some (.int .u32 bt)) := fun v h => HCC.out v h.box
 clear hgp hlr HA1 HA2 HB12 hsz
 obtain ⟨M, hM⟩ : ∃ M, R.length = M := ⟨_, rfl⟩
 have HM : Hid (R.length = M) := hM
 rw [hM] at hR3 ⊢
 clear hM
 go_upto_region 3 with fail
 go_cut [30] (fun cv wx => cv = .bool false ∧ LRows W W.heap.size ga gb ⟨op, D, A, B, E, n, bt⟩ R 0 wx)
 case first =>
  cases X <;> cases Y
  all_goals
   refine wp_region_held_drew (S := (fun v => v.cell? ⟨W.heap.size, 0, none⟩ = some (.int .i64 op) ∧ v.cell? ⟨W.heap.size, 1, none⟩ = some (.int .i64 D) ∧ v.cell? ⟨W.heap.size, 2, none⟩ = some (.int .i64 A) ∧ v.cell? ⟨W.heap.size, 3, none⟩ = some (.int .i64 B) ∧ v.cell? ⟨W.heap.size, 4, none⟩ = some (.int .i64 E) ∧ v.cell? ⟨W.heap.size, 5, none⟩ = some (.int .i64 n) ∧ v.cell? ⟨W.heap.size, 6, none⟩ = some (.int .u32 bt))) (by kernel_rfl) ?_ (fun hHeld => ?_)
   ·((try dsimp only); go_keep)
   refine wpAnyH_take (i := 0) (v := ?_) (by simp only [List.getElem?_toArray, List.getElem?_cons_succ, List.getElem?_cons_zero]; rfl) (by kernel_rfl) (by kernel_rfl) (by kernel_rfl) (by exact fun _ _ _ h => h) (Or.inl ⟨by rfl, ?_⟩) (by assumption) ?_
   rotate_left 1
   ·(intro wS hSw; (try dsimp only at hSw); go_simp; try (with_reducible rfl))
   try simp only [Act.put, List.setIfInBounds_toArray, List.set_cons_zero, List.set_cons_succ]
   refine wpAnyH_take (i := 1) (v := ?_) (by simp only [List.getElem?_toArray, List.getElem?_cons_succ, List.getElem?_cons_zero]; rfl) (by kernel_rfl) (by kernel_rfl) (by kernel_rfl) (by exact fun _ _ _ h => h) (Or.inl ⟨by rfl, ?_⟩) (by assumption) ?_
   rotate_left 1
   ·(intro wS hSw; (try dsimp only at hSw); go_simp; try (with_reducible rfl))
   try simp only [Act.put, List.setIfInBounds_toArray, List.set_cons_zero, List.set_cons_succ]
   refine wpAnyH_take (i := 2) (v := ?_) (by simp only [List.getElem?_toArray, List.getElem?_cons_succ, List.getElem?_cons_zero]; rfl) (by kernel_rfl) (by kernel_rfl) (by kernel_rfl) (by exact fun _ _ _ h => h) (Or.inl ⟨by rfl, ?_⟩) (by assumption) ?_
   rotate_left 1
   ·(intro wS hSw; (try dsimp only at hSw); go_simp; try (with_reducible rfl))
   try simp only [Act.put, List.setIfInBounds_toArray, List.set_cons_zero, List.set_cons_succ]
   refine wpAnyH_take (i := 3) (v := ?_) (by simp only [List.getElem?_toArray, List.getElem?_cons_succ, List.getElem?_cons_zero]; rfl) (by kernel_rfl) (by kernel_rfl) (by kernel_rfl) (by exact fun _ _ _ h => h) (Or.inl ⟨by rfl, ?_⟩) (by assumption) ?_
   rotate_left 1
   ·(intro wS hSw; (try dsimp only at hSw); go_simp; try (with_reducible rfl))
   try simp only [Act.put, List.setIfInBounds_toArray, List.set_cons_zero, List.set_cons_succ]
   refine wpAnyH_take (i := 4) (v := ?_) (by simp only [List.getElem?_toArray, List.getElem?_cons_succ, List.getElem?_cons_zero]; rfl) (by kernel_rfl) (by kernel_rfl) (by kernel_rfl) (by exact fun _ _ _ h => h) (Or.inl ⟨by rfl, ?_⟩) (by assumption) ?_
   rotate_left 1
   ·(intro wS hSw; (try dsimp only at hSw); go_simp; try (with_reducible rfl))
   try simp only [Act.put, List.setIfInBounds_toArray, List.set_cons_zero, List.set_cons_succ]
   refine wpAnyH_take (i := 5) (v := ?_) (by simp only [List.getElem?_toArray, List.getElem?_cons_succ, List.getElem?_cons_zero]; rfl) (by kernel_rfl) (by kernel_rfl) (by kernel_rfl) (by exact fun _ _ _ h => h) (Or.inl ⟨by rfl, ?_⟩) (by assumption) ?_
   rotate_left 1
   ·(intro wS hSw; (try dsimp only at hSw); go_simp; try (with_reducible rfl))
   try simp only [Act.put, List.setIfInBounds_toArray, List.set_cons_zero, List.set_cons_succ]
   refine wpAnyH_take (i := 6) (v := ?_) (by simp only [List.getElem?_toArray, List.getElem?_cons_succ, List.getElem?_cons_zero]; rfl) (by kernel_rfl) (by kernel_rfl) (by kernel_rfl) (by exact fun _ _ _ h => h) (Or.inl ⟨by rfl, ?_⟩) (by assumption) ?_
   rotate_left 1
   ·(intro wS hSw; (try dsimp only at hSw); go_simp; try (with_reducible rfl))
   try simp only [Act.put, List.setIfInBounds_toArray, List.set_cons_zero, List.set_cons_succ]
   refine wpAnyH_take (i := 8) (v := ?_) (by simp only [List.getElem?_toArray, List.getElem?_cons_succ, List.getElem?_cons_zero]; rfl) (by kernel_rfl) (by kernel_rfl) (by kernel_rfl) (by exact fun _ _ _ h => h) (Or.inl ⟨by rfl, ?_⟩) (by assumption) ?_
   rotate_left 1
   ·(intro wS hSw; (try dsimp only at hSw); go_simp; try (with_reducible rfl))
   try simp only [Act.put, List.setIfInBounds_toArray, List.set_cons_zero, List.set_cons_succ]
   clear hHeld
   refine wpAnyH_ready (rs := [7]) (by kernel_rfl) (by simp) ?_
   refine AllReadyH.cons (i := 7) (by simp only [List.getElem?_toArray, List.getElem?_cons_succ, List.getElem?_cons_zero]; rfl) (fun K hK => ?_) AllReadyH.nil
   go_simp
   (go_at_call 10; refine (HK3.out _).mono ?_; rintro e w3 ⟨rfl, hb3⟩; have HL3 := HL0.out.below (bel (bel_d _) hb3); obtain ⟨d0, d1, d2, d3, d4, d5, d6⟩ := HL1.out w3 HL3)
   try (go_wp2_with fail)
   refine hK.out _ _ ?_ (fun hHeld => ?_)
   ·((try dsimp only); go_keep)
   clear hK K
   try simp only [Act.put, List.setIfInBounds_toArray, List.set_cons_zero, List.set_cons_succ]
   clear hHeld
   refine wpAnyH_ready (rs := [9]) (by kernel_rfl) (by simp) ?_
   refine AllReadyH.cons (i := 9) (by simp only [List.getElem?_toArray, List.getElem?_cons_succ, List.getElem?_cons_zero]; rfl) (fun K hK => ?_) AllReadyH.nil
   go_simp
   (go_at_call 11; refine (HK4.out _).mono ?_; rintro e w4 ⟨rfl, hb4⟩; have HL4 := HL3.below hb4; obtain ⟨d0, d1, d2, d3, d4, d5, d6⟩ := HL1.out w4 HL4)
   try (go_wp2_with fail)
   refine hK.out _ _ ?_ (fun hHeld => ?_)
   ·((try dsimp only); go_keep)
   clear hK K
   try simp only [Act.put, List.setIfInBounds_toArray, List.set_cons_zero, List.set_cons_succ]
   refine wpAnyH_take (i := 10) (v := ?_) (by simp only [List.getElem?_toArray, List.getElem?_cons_succ, List.getElem?_cons_zero]; rfl) (by kernel_rfl) (by kernel_rfl) (by kernel_rfl) (by exact fun _ _ _ h => h) (Or.inl ⟨by rfl, ?_⟩) (by assumption) ?_
   rotate_left 1
   ·(intro wS hSw; (try dsimp only at hSw); go_simp; try (with_reducible rfl))
   try simp only [Act.put, List.setIfInBounds_toArray, List.set_cons_zero, List.set_cons_succ]
   refine wpAnyH_take (i := 11) (v := ?_) (by simp only [List.getElem?_toArray, List.getElem?_cons_succ, List.getElem?_cons_zero]; rfl) (by kernel_rfl) (by kernel_rfl) (by kernel_rfl) (by exact fun _ _ _ h => h) (Or.inl ⟨by rfl, ?_⟩) (by assumption) ?_
   rotate_left 1
   ·(intro wS hSw; (try dsimp only at hSw); go_simp; try (with_reducible rfl))
   try simp only [Act.put, List.setIfInBounds_toArray, List.set_cons_zero, List.set_cons_succ]
   refine wpAnyH_take (i := 12) (v := ?_) (by simp only [List.getElem?_toArray, List.getElem?_cons_succ, List.getElem?_cons_zero]; rfl) (by kernel_rfl) (by kernel_rfl) (by kernel_rfl) (by exact fun _ _ _ h => h) (Or.inl ⟨by rfl, ?_⟩) (by assumption) ?_
   rotate_left 1
   ·(intro wS hSw; (try dsimp only at hSw); go_simp; try (with_reducible rfl))
   try simp only [Act.put, List.setIfInBounds_toArray, List.set_cons_zero, List.set_cons_succ]
   refine wpAnyH_take (i := 13) (v := ?_) (by simp only [List.getElem?_toArray, List.getElem?_cons_succ, List.getElem?_cons_zero]; rfl) (by kernel_rfl) (by kernel_rfl) (by kernel_rfl) (by exact fun _ _ _ h => h) (Or.inl ⟨by rfl, ?_⟩) (by assumption) ?_
   rotate_left 1
   ·(intro wS hSw; (try dsimp only at hSw); go_simp; try (with_reducible rfl))
   try simp only [Act.put, List.setIfInBounds_toArray, List.set_cons_zero, List.set_cons_succ]
   refine wpAnyH_take (i := 14) (v := ?_) (by simp only [List.getElem?_toArray, List.getElem?_cons_succ, List.getElem?_cons_zero]; rfl) (by kernel_rfl) (by kernel_rfl) (by kernel_rfl) (by exact fun _ _ _ h => h) (Or.inl ⟨by rfl, ?_⟩) (by assumption) ?_
   rotate_left 1
   ·(intro wS hSw; (try dsimp only at hSw); go_simp; try (with_reducible rfl))
   try simp only [Act.put, List.setIfInBounds_toArray, List.set_cons_zero, List.set_cons_succ]
   refine wpAnyH_take (i := 16) (v := ?_) (by simp only [List.getElem?_toArray, List.getElem?_cons_succ, List.getElem?_cons_zero]; rfl) (by kernel_rfl) (by kernel_rfl) (by kernel_rfl) (by exact fun _ _ _ h => h) (Or.inl ⟨by rfl, ?_⟩) (by assumption) ?_
   rotate_left 1
   ·(intro wS hSw; (try dsimp only at hSw); go_simp; try (with_reducible rfl))
   try simp only [Act.put, List.setIfInBounds_toArray, List.set_cons_zero, List.set_cons_succ]
   refine wpAnyH_take (i := 17) (v := ?_) (by simp only [List.getElem?_toArray, List.getElem?_cons_succ, List.getElem?_cons_zero]; rfl) (by kernel_rfl) (by kernel_rfl) (by kernel_rfl) (by exact fun _ _ _ h => h) (Or.inl ⟨by rfl, ?_⟩) (by assumption) ?_
   rotate_left 1
   ·(intro wS hSw; (try dsimp only at hSw); go_simp; try (with_reducible rfl))
   try simp only [Act.put, List.setIfInBounds_toArray, List.set_cons_zero, List.set_cons_succ]
   clear hHeld
   refine wpAnyH_ready (rs := [15]) (by kernel_rfl) (by simp) ?_
   refine AllReadyH.cons (i := 15) (by simp only [List.getElem?_toArray, List.getElem?_cons_succ, List.getElem?_cons_zero]; rfl) (fun K hK => ?_) AllReadyH.nil
   go_simp
   (go_at_call 12; refine (HK5.out _).mono ?_; rintro e w5 ⟨rfl, rfl⟩)
   try (go_wp2_with fail)
   refine hK.out _ _ ?_ (fun hHeld => ?_)
   ·((try dsimp only); go_keep)
   clear hK K
   try simp only [Act.put, List.setIfInBounds_toArray, List.set_cons_zero, List.set_cons_succ]
   clear hHeld
   refine wpAnyH_ready (rs := [18]) (by kernel_rfl) (by simp) ?_
   refine AllReadyH.cons (i := 18) (by simp only [List.getElem?_toArray, List.getElem?_cons_succ, List.getElem?_cons_zero]; rfl) (fun K hK => ?_) AllReadyH.nil
   go_simp
   (go_at_call 13; refine (HK6.out _).mono ?_; rintro e w6 ⟨rfl, rfl⟩)
   try (go_wp2_with fail)
   refine hK.out _ _ ?_ (fun hHeld => ?_)
   ·((try dsimp only); go_keep)
   clear hK K
   try simp only [Act.put, List.setIfInBounds_toArray, List.set_cons_zero, List.set_cons_succ]
   refine wpAnyH_take (i := 19) (v := ?_) (by simp only [List.getElem?_toArray, List.getElem?_cons_succ, List.getElem?_cons_zero]; rfl) (by kernel_rfl) (by kernel_rfl) (by kernel_rfl) (by exact fun _ _ _ h => h) (Or.inl ⟨by rfl, ?_⟩) (by assumption) ?_
   rotate_left 1
   ·(intro wS hSw; (try dsimp only at hSw); go_simp; try (with_reducible rfl))
   try simp only [Act.put, List.setIfInBounds_toArray, List.set_cons_zero, List.set_cons_succ]
   refine wpAnyH_take (i := 20) (v := ?_) (by simp only [List.getElem?_toArray, List.getElem?_cons_succ, List.getElem?_cons_zero]; rfl) (by kernel_rfl) (by kernel_rfl) (by kernel_rfl) (by exact fun _ _ _ h => h) (Or.inl ⟨by rfl, ?_⟩) (by assumption) ?_
   rotate_left 1
   ·(intro wS hSw; (try dsimp only at hSw); go_simp; try (with_reducible rfl))
   try simp only [Act.put, List.setIfInBounds_toArray, List.set_cons_zero, List.set_cons_succ]
   refine wpAnyH_done (by kernel_rfl) ?_ _
   go_wp2
   go_meet
   exact ⟨rfl, HL4⟩
 case rest =>
  obtain ⟨rfl, hl⟩ := hcut
  have HLc : Hid (LRows W W.heap.size ga gb ⟨op, D, A, B, E, n, bt⟩ R 0 wc) := hl
  clear hl HL0 HL1 c0 c1 c2 c3 c4 c5 c6 b0 b1 b2 b3 b4 b5 b6 HB1 HB2 HK3 HK4 HK5 HK6
  go_wp2
  go_loopw [5] (fun iv wr => ∃ k : Nat, k ≤ M ∧ iv = .int .i64 k ∧ LRows W W.heap.size ga gb ⟨op, D, A, B, E, n, bt⟩ R k wr) (fun iv _ => M - (intOf iv).toNat)
  case atStart => exact ⟨0, Nat.zero_le _, rfl, HLc.out⟩
  case round =>
   clear HLc
   obtain ⟨k, hk, rfl, hl⟩ := hrel
   have HL : Hid (LRows W W.heap.size ga gb ⟨op, D, A, B, E, n, bt⟩ R k wr) := hl
   by_cases hlt : k < M
   ·have hll : k < R.length := by rw [HM.out]; exact hlt
    obtain ⟨rfl, rfl⟩ := HGP.out (by omega)
    obtain ⟨x1, x2⟩ := hl.a k hll (Nat.le_refl _)
    have x3 := hl.b k hll
    obtain ⟨q1, q2, q3⟩ := hl.ne (by omega)
    have HP : Hid (LRows W W.heap.size ga gb ⟨op, D, A, B, E, n, bt⟩ R (k + 1) (wr.drew.setCell ⟨ga, k, none⟩ (.int .i64 (-1)))) := (hl.below (bel_d _)).put hll _
    obtain ⟨y, hy⟩ : ∃ y, R[k] = y := ⟨_, rfl⟩
    rw [hy] at x1 x3
    have i1 : (0 : Int) ≤ (k : Int) := by omega
    have i2 : (k : Int) < (M : Int) := by omega
    clear hl hy
    go_wp2
    refine wp_region_held_drew (S := (fun v => v.cell? ⟨ga, k, none⟩ = some (.int .i64 y) ∧ v.cell? ⟨gb, k, none⟩ = some (.int .i64 y))) (by kernel_rfl) ?_ (fun hHeld => ?_)
    ·((try dsimp only); go_keep)
    refine wpAnyH_take (i := 0) (v := ?_) (by simp only [List.getElem?_toArray, List.getElem?_cons_succ, List.getElem?_cons_zero]; rfl) (by kernel_rfl) (by kernel_rfl) (by kernel_rfl) (by exact fun _ _ _ h => h) (Or.inl ⟨by rfl, ?_⟩) (by assumption) ?_
    rotate_left 1
    ·(intro wS hSw; (try dsimp only at hSw); go_simp; try (with_reducible rfl))
    try simp only [Act.put, List.setIfInBounds_toArray, List.set_cons_zero, List.set_cons_succ]
    refine wpAnyH_take (i := 1) (v := ?_) (by simp only [List.getElem?_toArray, List.getElem?_cons_succ, List.getElem?_cons_zero]; rfl) (by kernel_rfl) (by kernel_rfl) (by kernel_rfl) (by exact fun _ _ _ h => h) (Or.inl ⟨by rfl, ?_⟩) (by assumption) ?_
    rotate_left 1
    ·(intro wS hSw; (try dsimp only at hSw); go_simp; try (with_reducible rfl))
    try simp only [Act.put, List.setIfInBounds_toArray, List.set_cons_zero, List.set_cons_succ]
    refine wpAnyH_take (i := 2) (v := ?_) (by simp only [List.getElem?_toArray, List.getElem?_cons_succ, List.getElem?_cons_zero]; rfl) (by kernel_rfl) (by kernel_rfl) (by kernel_rfl) (by exact fun _ _ _ h => h) (Or.inl ⟨by rfl, ?_⟩) (by assumption) ?_
    rotate_left 1
    ·(intro wS hSw; (try dsimp only at hSw); go_simp; try (with_reducible rfl))
    try simp only [Act.put, List.setIfInBounds_toArray, List.set_cons_zero, List.set_cons_succ]
    refine wpAnyH_take (i := 3) (v := ?_) (by simp only [List.getElem?_toArray, List.getElem?_cons_succ, List.getElem?_cons_zero]; rfl) (by kernel_rfl) (by kernel_rfl) (by kernel_rfl) (by exact fun _ _ _ h => h) (Or.inl ⟨by rfl, ?_⟩) (by assumption) ?_
    rotate_left 1
    ·(intro wS hSw; (try dsimp only at hSw); go_simp; try (with_reducible rfl))
    try simp only [Act.put, List.setIfInBounds_toArray, List.set_cons_zero, List.set_cons_succ]
    refine wpAnyH_take (i := 4) (v := ?_) (by simp only [List.getElem?_toArray, List.getElem?_cons_succ, List.getElem?_cons_zero]; rfl) (by kernel_rfl) (by kernel_rfl) (by kernel_rfl) (by exact fun _ _ _ h => h) (Or.inl ⟨by rfl, ?_⟩) (by assumption) ?_
    rotate_left 1
    ·(intro wS hSw; (try dsimp only at hSw); go_simp; try (with_reducible rfl))
    try simp only [Act.put, List.setIfInBounds_toArray, List.set_cons_zero, List.set_cons_succ]
    refine wpAnyH_take (i := 5) (v := ?_) (by simp only [List.getElem?_toArray, List.getElem?_cons_succ, List.getElem?_cons_zero]; rfl) (by kernel_rfl) (by kernel_rfl) (by kernel_rfl) (by exact fun _ _ _ h => h) (Or.inl ⟨by rfl, ?_⟩) (by assumption) ?_
    rotate_left 1
    ·(intro wS hSw; (try dsimp only at hSw); go_simp; try (with_reducible rfl))
    try simp only [Act.put, List.setIfInBounds_toArray, List.set_cons_zero, List.set_cons_succ]
    refine wpAnyH_take (i := 6) (v := ?_) (by simp only [List.getElem?_toArray, List.getElem?_cons_succ, List.getElem?_cons_zero]; rfl) (by kernel_rfl) (by kernel_rfl) (by kernel_rfl) (by exact fun _ _ _ h => h) (Or.inl ⟨by rfl, ?_⟩) (by assumption) ?_
    rotate_left 1
    ·(intro wS hSw; (try dsimp only at hSw); go_simp; try (with_reducible rfl))
    try simp only [Act.put, List.setIfInBounds_toArray, List.set_cons_zero, List.set_cons_succ]
    refine wpAnyH_take (i := 7) (v := ?_) (by simp only [List.getElem?_toArray, List.getElem?_cons_succ, List.getElem?_cons_zero]; rfl) (by kernel_rfl) (by kernel_rfl) (by kernel_rfl) (by exact fun _ _ _ h => h) (Or.inl ⟨by rfl, ?_⟩) (by assumption) ?_
    rotate_left 1
    ·(intro wS hSw; (try dsimp only at hSw); go_simp; try (with_reducible rfl))
    try simp only [Act.put, List.setIfInBounds_toArray, List.set_cons_zero, List.set_cons_succ]
    refine wpAnyH_take (i := 8) (v := ?_) (by simp only [List.getElem?_toArray, List.getElem?_cons_succ, List.getElem?_cons_zero]; rfl) (by kernel_rfl) (by kernel_rfl) (by kernel_rfl) (by exact fun _ _ _ h => h) (Or.inl ⟨by rfl, ?_⟩) (by assumption) ?_
    rotate_left 1
    ·(intro wS hSw; (try dsimp only at hSw); go_simp; try (with_reducible rfl))
    try simp only [Act.put, List.setIfInBounds_toArray, List.set_cons_zero, List.set_cons_succ]
    refine wpAnyH_done (by kernel_rfl) ?_ _
    go_wp2
    go_roundw
    case rel => exact ⟨k + 1, by omega, by go_num, HP.out⟩
    case measure => simp [intOf]; omega
   ·have : k = M := by omega
    subst this
    obtain ⟨d0, d1, d2, d3, d4, d5, d6⟩ := HCC.out wr hl.box
    clear hl
    go_wp2_with (first
     | (go_at_call 8; (with_reducible refine (HK1.out _).mono ?_); rintro e w7 ⟨vc, rfl, hc, hb7⟩; obtain ⟨pc, cc, hvc⟩ := own_len hc; rw [HM.out] at hvc; subst hvc; have HB7 := hb7; clear hc hb7)
     | (go_at_call 14; (with_reducible refine (HK7.out _).mono ?_); rintro e w8 ⟨rfl, hb8⟩; have HB8 := hb8; clear hb8))
    go_ret
    exact ⟨rfl, bel (bel HL.out.bel HB7) HB8⟩
theorem walk_IrRows (i : Ins) (W : World) : Calls Try.prog 3 #[insV i] W fun e W' => e = .returned (.bool true) ∧ Below W.heap.size W W' := by
 obtain ⟨op, D, A, B, E, n, bt⟩ := i
 exact rows_core op D A B E n bt (readsP ⟨op, D, A, B, E, n, bt⟩ (rowP op)) (reads_len _ _) (setsP ⟨op, D, A, B, E, n, bt⟩) (elemP op) W
  (fun w => reads_any ⟨op, D, A, B, E, n, bt⟩ w) (fun w => rreads_any ⟨op, D, A, B, E, n, bt⟩ w) (fun w => sets_any ⟨op, D, A, B, E, n, bt⟩ w) (fun w => rsets_any ⟨op, D, A, B, E, n, bt⟩ w) (elementwise_any op) (relem_any op) works_any
end Go.Proofs.Ytkdpchlehoomhaa
namespace Go.Proofs.Ytkdpchlehoomhaa
open Go.ChangeShapes Go.WideShapes Go.ChangeAt Go.RowKit
set_option linter.unusedVariables false
set_option maxRecDepth 100000
theorem cells_Inst : Try.prog.cellsOf 25 = 7 := by kernel_rfl
section
variable {H : Type} {enc : TypeId × Value → H} {w : World} {base : Nat} {held : Bool}
def InsOk (i : Ins) : Prop := 0 ≤ i.bits ∧ i.bits < 4294967296
theorem open_Ins {fuel : Nat} {cs : List Value} {x : DataW H × List MemPlace} (h : DataW.trod enc Try.prog w base (fun _ => true) held fuel 25 cs = some x) : ∃ i : Ins, cs = inC i ∧ InsOk i := by
 obtain ⟨xs, n, hfn, hx, hl, hxl, hf⟩ := DataW.trod_struct Try.underlying25 h
 rw [cells_Inst] at hl
 match cs, hl with
 | [v0, v1, v2, v3, v4, v5, v6], _ =>
 match xs, hxl with
 | [y0, y1, y2, y3, y4, y5, y6], _ =>
  have e0 : DataW.trod enc Try.prog w base (fun _ => true) held n 3 [v0] = some y0 := hf 0 _ rfl
  have e1 : DataW.trod enc Try.prog w base (fun _ => true) held n 3 [v1] = some y1 := hf 1 _ rfl
  have e2 : DataW.trod enc Try.prog w base (fun _ => true) held n 3 [v2] = some y2 := hf 2 _ rfl
  have e3 : DataW.trod enc Try.prog w base (fun _ => true) held n 3 [v3] = some y3 := hf 3 _ rfl
  have e4 : DataW.trod enc Try.prog w base (fun _ => true) held n 3 [v4] = some y4 := hf 4 _ rfl
  have e5 : DataW.trod enc Try.prog w base (fun _ => true) held n 3 [v5] = some y5 := hf 5 _ rfl
  have e6 : DataW.trod enc Try.prog w base (fun _ => true) held n 23 [v6] = some y6 := hf 6 _ rfl
  obtain ⟨a0, c0, -, w0⟩ := DataW.trod_int Try.underlying3 e0
  obtain ⟨a1, c1, -, w1⟩ := DataW.trod_int Try.underlying3 e1
  obtain ⟨a2, c2, -, w2⟩ := DataW.trod_int Try.underlying3 e2
  obtain ⟨a3, c3, -, w3⟩ := DataW.trod_int Try.underlying3 e3
  obtain ⟨a4, c4, -, w4⟩ := DataW.trod_int Try.underlying3 e4
  obtain ⟨a5, c5, -, w5⟩ := DataW.trod_int Try.underlying3 e5
  obtain ⟨a6, c6, -, w6⟩ := DataW.trod_int Try.underlying23 e6
  simp only [List.cons.injEq, and_true] at c0 c1 c2 c3 c4 c5 c6
  subst c0 c1 c2 c3 c4 c5 c6
  exact ⟨⟨a0, a1, a2, a3, a4, a5, a6⟩, rfl, (bounds_u32 w6).1, Int.lt_add_one_of_le (bounds_u32 w6).2⟩
theorem open_InsV {r : Reach} {b0 : Nat} {v : Value} {d : DataW H} {pl : List MemPlace} (hv : Value.okWide Try.prog w r b0 25 v) (h : DataW.Trod enc Try.prog w base (fun _ => true) held 25 v d pl) : ∃ i : Ins, v = insV i ∧ InsOk i := by
 obtain ⟨cs, rfl, hsz⟩ := okWide_struct Try.underlying25 hv
 obtain ⟨fuel, hf0⟩ := h
 obtain ⟨i, hi, hok⟩ := open_Ins hf0
 refine ⟨i, ?_, hok⟩
 have hcs : cs.toList = inC i := by rw [← hi]; simp [Value.cells]
 unfold insV
 rw [Value.agg.injEq]
 apply Array.toList_inj.1
 exact hcs
instance : Inhabited Ins := ⟨⟨0, 0, 0, 0, 0, 0, 0⟩⟩
instance : Inhabited Ty := ⟨⟨0, 0⟩⟩
instance : Inhabited Sl := ⟨⟨⟨0, 0⟩, false, 0, 0⟩⟩
instance : Inhabited Par := ⟨⟨⟨#[]⟩, 0, 0⟩⟩
end
end Go.Proofs.Ytkdpchlehoomhaa
