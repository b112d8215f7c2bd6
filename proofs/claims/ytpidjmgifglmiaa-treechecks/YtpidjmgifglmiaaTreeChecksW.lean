import Derived.Test.YtpidjmgifglmiaaTreeSure
import Derived.Test.YtpidjmgifglmiaaTreeRefChk
import Derived.Test.YtpidjmgifglmiaaTreeTwin
import Derived.Test.YtpidjmgifglmiaaTreeRefEq
/- The walk of TreeChecks. -/
namespace Go.Proofs.Ytpidjmgifglmiaa
open Go.RowKit
set_option linter.unusedVariables false
set_option linter.unusedSimpArgs false

set_option maxRecDepth 100000 in
set_option maxHeartbeats 8000000 in
theorem walk_TreeChecks (t : Nd) (p : Option Addr) (c : Nat) (hok : ok1 t) (w : World) (hk : Kids w anyH (.slice p t.args.length c) t.args) :
    Calls Try.prog 3 #[nv t (.slice p t.args.length c)] w fun e w' => e = .returned (.bool true) ∧ Below w.heap.size w w' := by
  have hb0 := bel_alloc w (.cells #[.int .i64 t.kind, .string t.name, .int .u32 t.num, .int .i64 t.int_, .string t.key, .slice p t.args.length c, .int .i64 t.at_] 26)
  have hx0 := box_heap w (.cells #[.int .i64 t.kind, .string t.name, .int .u32 t.num, .int .i64 t.int_, .string t.key, .slice p t.args.length c, .int .i64 t.at_] 26)
  have HG : Hid (∀ v, Below w.heap.size w v → Calls Try.prog 9 #[.agg #[.int .i64 t.kind, .string t.name, .int .u32 t.num, .int .i64 t.int_, .string t.key, .slice p t.args.length c, .int .i64 t.at_]] v fun e v' => e = .returned (.bool (decide (9000 < cnt t))) ∧ Below v.heap.size v v') := fun v hv => big_any t p c v (hk.below hv)
  have HW0 : Hid (Below w.heap.size w (w.alloc (.cells #[.int .i64 t.kind, .string t.name, .int .u32 t.num, .int .i64 t.int_, .string t.key, .slice p t.args.length c, .int .i64 t.at_] 26))) := hb0
  unfold nv
  by_cases hbig : 9000 < cnt t
  · have e : decide (9000 < cnt t) = true := by simpa using hbig
    rw [e] at HG
    clear e hbig hk hok hx0 hb0
    go_enter Try.func3, Try.ntmps3
    go_wp2_with (first
      | (go_at_call 9; (with_reducible refine (HG.out _ HW0.out).mono ?_); rintro e w1 ⟨rfl, hb1⟩)
      | (go_at_call 10; (with_reducible refine (sure_any _).mono ?_); rintro e w2 ⟨rfl, hb2⟩))
    go_ret
    exact ⟨rfl, bel HW0.out (bel hb1 hb2)⟩
  have e : decide (9000 < cnt t) = false := by simpa using hbig
  rw [e] at HG
  have hc : cnt t ≤ 9000 := by omega
  have HX : Hid (∀ v, Below (w.alloc (.cells #[.int .i64 t.kind, .string t.name, .int .u32 t.num, .int .i64 t.int_, .string t.key, .slice p t.args.length c, .int .i64 t.at_] 26)).heap.size (w.alloc (.cells #[.int .i64 t.kind, .string t.name, .int .u32 t.num, .int .i64 t.int_, .string t.key, .slice p t.args.length c, .int .i64 t.at_] 26)) v → v.heap[w.heap.size]? = some (.cells #[.int .i64 t.kind, .string t.name, .int .u32 t.num, .int .i64 t.int_, .string t.key, .slice p t.args.length c, .int .i64 t.at_] 26) ∧ Kids v anyH (.slice p t.args.length c) t.args) := fun v hv => ⟨by rw [hv.block _ (hlt hx0)]; exact hx0, hk.below (bel hb0 hv)⟩
  have HOK : Hid (ok1 t ∧ cnt t ≤ 9000) := ⟨hok, hc⟩
  have HTW : Hid (∀ v, Below (w.alloc (.cells #[.int .i64 t.kind, .string t.name, .int .u32 t.num, .int .i64 t.int_, .string t.key, .slice p t.args.length c, .int .i64 t.at_] 26)).heap.size (w.alloc (.cells #[.int .i64 t.kind, .string t.name, .int .u32 t.num, .int .i64 t.int_, .string t.key, .slice p t.args.length c, .int .i64 t.at_] 26)) v → Calls Try.prog 11 #[.agg #[.int .i64 t.kind, .string t.name, .int .u32 t.num, .int .i64 t.int_, .string t.key, .slice p t.args.length c, .int .i64 t.at_]] v fun e v' => ∃ q m d, e = .returned (.agg #[.int .i64 t.kind, .string t.name, .int .u32 t.num, .int .i64 t.int_, .string t.key, .slice q m d, .int .i64 t.at_]) ∧ Kids v' anyH (.slice q m d) t.args ∧ Below v.heap.size v v') := fun v hv => (twin_to (dep t) t p c v (Nat.le_refl _) hc (hk.below (bel hb0 hv))).mono fun e v' ⟨q, m, d, he, hkk, hb⟩ => ⟨q, m, d, he, hkk.weak (fun _ _ _ _ => trivial), hb⟩
  have HCL0 : Hid (∀ v, Below (w.alloc (.cells #[.int .i64 t.kind, .string t.name, .int .u32 t.num, .int .i64 t.int_, .string t.key, .slice p t.args.length c, .int .i64 t.at_] 26)).heap.size (w.alloc (.cells #[.int .i64 t.kind, .string t.name, .int .u32 t.num, .int .i64 t.int_, .string t.key, .slice p t.args.length c, .int .i64 t.at_] 26)) v → v.cell? ⟨w.heap.size, 0, none⟩ = some (.int .i64 t.kind) ∧ v.cell? ⟨w.heap.size, 1, none⟩ = some (.string t.name) ∧ v.cell? ⟨w.heap.size, 2, none⟩ = some (.int .u32 t.num) ∧ v.cell? ⟨w.heap.size, 3, none⟩ = some (.int .i64 t.int_) ∧ v.cell? ⟨w.heap.size, 4, none⟩ = some (.string t.key) ∧ v.cell? ⟨w.heap.size, 5, none⟩ = some (.slice p t.args.length c) ∧ v.cell? ⟨w.heap.size, 6, none⟩ = some (.int .i64 t.at_)) := fun v hv => by
    have hx : v.heap[w.heap.size]? = some (.cells #[.int .i64 t.kind, .string t.name, .int .u32 t.num, .int .i64 t.int_, .string t.key, .slice p t.args.length c, .int .i64 t.at_] 26) := by rw [hv.block _ (hlt hx0)]; exact hx0
    exact ⟨cell_heap hx 0, cell_heap hx 1, cell_heap hx 2, cell_heap hx 3, cell_heap hx 4, cell_heap hx 5, cell_heap hx 6⟩
  clear e hbig hk hok hx0 hb0 hc
  go_enter Try.func3, Try.ntmps3
  go_upto_region 4 with (first
    | (go_at_call 9; (with_reducible refine (HG.out _ HW0.out).mono ?_); rintro e w1 ⟨rfl, hb1⟩; obtain ⟨z0, z1, z2, z3, z4, z5, z6⟩ := HCL0.out w1 hb1)
    | (go_at_call 11; (with_reducible refine (HTW.out _ hb1).mono ?_); rintro e w2 ⟨q, m, d, rfl, hk2, hb2⟩))
  have hbV := bel_alloc w2 (.cells #[.int .i64 t.kind, .string t.name, .int .u32 t.num, .int .i64 t.int_, .string t.key, .slice q m d, .int .i64 t.at_] 26)
  have hxm := box_heap w2 (.cells #[.int .i64 t.kind, .string t.name, .int .u32 t.num, .int .i64 t.int_, .string t.key, .slice q m d, .int .i64 t.at_] 26)
  obtain ⟨hx1, hk1⟩ := HX.out _ (bel hb1 (bel hb2 hbV))
  have hkm := hk2.below hbV
  have hbw : Below w.heap.size w (w2.alloc (.cells #[.int .i64 t.kind, .string t.name, .int .u32 t.num, .int .i64 t.int_, .string t.key, .slice q m d, .int .i64 t.at_] 26)) := bel HW0.out (bel hb1 (bel hb2 hbV))
  obtain ⟨hok, hc⟩ := HOK.out
  clear HX HG HW0 HOK HTW HCL0 hb1 hb2 hk2 hbV z0 z1 z2 z3 z4 z5 z6
  obtain ⟨V, hV⟩ : ∃ V, w2.alloc (.cells #[.int .i64 t.kind, .string t.name, .int .u32 t.num, .int .i64 t.int_, .string t.key, .slice q m d, .int .i64 t.at_] 26) = V := ⟨_, rfl⟩
  obtain ⟨G, hG⟩ : ∃ G, w2.heap.size = G := ⟨_, rfl⟩
  rw [hV, hG] at hxm
  rw [hV] at hx1 hk1 hkm hbw
  rw [hV, hG]
  clear hV hG
  have HCL : Hid (∀ v, Below V.heap.size V v → (v.cell? ⟨w.heap.size, 0, none⟩ = some (.int .i64 t.kind) ∧ v.cell? ⟨w.heap.size, 1, none⟩ = some (.string t.name) ∧ v.cell? ⟨w.heap.size, 2, none⟩ = some (.int .u32 t.num) ∧ v.cell? ⟨w.heap.size, 3, none⟩ = some (.int .i64 t.int_) ∧ v.cell? ⟨w.heap.size, 4, none⟩ = some (.string t.key) ∧ v.cell? ⟨w.heap.size, 5, none⟩ = some (.slice p t.args.length c) ∧ v.cell? ⟨w.heap.size, 6, none⟩ = some (.int .i64 t.at_)) ∧ (v.cell? ⟨G, 0, none⟩ = some (.int .i64 t.kind) ∧ v.cell? ⟨G, 1, none⟩ = some (.string t.name) ∧ v.cell? ⟨G, 2, none⟩ = some (.int .u32 t.num) ∧ v.cell? ⟨G, 3, none⟩ = some (.int .i64 t.int_) ∧ v.cell? ⟨G, 4, none⟩ = some (.string t.key) ∧ v.cell? ⟨G, 5, none⟩ = some (.slice q m d) ∧ v.cell? ⟨G, 6, none⟩ = some (.int .i64 t.at_))) := fun v hv => by
    have hx : v.heap[w.heap.size]? = some (.cells #[.int .i64 t.kind, .string t.name, .int .u32 t.num, .int .i64 t.int_, .string t.key, .slice p t.args.length c, .int .i64 t.at_] 26) := by rw [hv.block _ (hlt hx1)]; exact hx1
    have hy : v.heap[G]? = some (.cells #[.int .i64 t.kind, .string t.name, .int .u32 t.num, .int .i64 t.int_, .string t.key, .slice q m d, .int .i64 t.at_] 26) := by rw [hv.block _ (hlt hxm)]; exact hxm
    exact ⟨⟨cell_heap hx 0, cell_heap hx 1, cell_heap hx 2, cell_heap hx 3, cell_heap hx 4, cell_heap hx 5, cell_heap hx 6⟩, cell_heap hy 0, cell_heap hy 1, cell_heap hy 2, cell_heap hy 3, cell_heap hy 4, cell_heap hy 5, cell_heap hy 6⟩
  obtain ⟨_, _, em, -⟩ := id hkm
  simp only [Value.slice.injEq] at em
  obtain ⟨-, rfl, -⟩ := em
  have HChk : Hid (∀ (v : World), Below V.heap.size V v → Calls Try.prog 12 #[.agg #[.int .i64 t.kind, .string t.name, .int .u32 t.num, .int .i64 t.int_, .string t.key, .slice q t.args.length d, .int .i64 t.at_]] v fun e v' => e = .returned (.int .i64 (checkP t)) ∧ (Below V.heap.size V v' ∧ Below v.heap.size v v')) := fun v hv => (check_any t _ v hc hok (hkm.below hv)).mono fun e v' ⟨he, hb⟩ => ⟨he, bel hv hb, hb⟩
  have HRChk : Hid (∀ (v : World), Below V.heap.size V v → Calls Try.prog 13 #[.agg #[.int .i64 t.kind, .string t.name, .int .u32 t.num, .int .i64 t.int_, .string t.key, .slice p t.args.length c, .int .i64 t.at_]] v fun e v' => e = .returned (.int .i64 (checkP t)) ∧ (Below V.heap.size V v' ∧ Below v.heap.size v v')) := fun v hv => (rcheck_any t p c v hc hok (hk1.below hv)).mono fun e v' ⟨he, hb⟩ => ⟨he, bel hv hb, hb⟩
  have HSame : Hid (∀ (v : World), Below V.heap.size V v → Calls Try.prog 14 #[.agg #[.int .i64 t.kind, .string t.name, .int .u32 t.num, .int .i64 t.int_, .string t.key, .slice q t.args.length d, .int .i64 t.at_], .agg #[.int .i64 t.kind, .string t.name, .int .u32 t.num, .int .i64 t.int_, .string t.key, .slice p t.args.length c, .int .i64 t.at_]] v fun e v' => e = .returned (.bool true) ∧ (Below V.heap.size V v' ∧ Below v.heap.size v v')) := fun v hv => (same_to (dep t) t q p d c v (Nat.le_refl _) hc (hkm.below hv) (hk1.below hv)).mono fun e v' ⟨he, hb⟩ => ⟨he, bel hv hb, hb⟩
  have HSu : Hid (∀ (v : World), Below V.heap.size V v → Calls Try.prog 10 #[] v fun e v' => e = .returned (.bool true) ∧ (Below V.heap.size V v' ∧ Below v.heap.size v v')) := fun v hv => (sure_any v).mono fun e v' ⟨he, hb⟩ => ⟨he, bel hv hb, hb⟩
  have HS : Hid (Below V.heap.size V V.drew) := bel_d _
  obtain ⟨⟨z0, z1, z2, z3, z4, z5, z6⟩, ⟨y0, y1, y2, y3, y4, y5, y6⟩⟩ := HCL.out V (bel0 V)
  have HBW : Hid (Below w.heap.size w V) := hbw
  clear hk1 hkm hx1 hxm hok hc hbw
  refine wp_region_held_drew (S := (fun w' => w'.cell? ⟨w.heap.size, 0, none⟩ = some (.int .i64 t.kind) ∧ w'.cell? ⟨w.heap.size, 1, none⟩ = some (.string t.name) ∧ w'.cell? ⟨w.heap.size, 2, none⟩ = some (.int .u32 t.num) ∧ w'.cell? ⟨w.heap.size, 3, none⟩ = some (.int .i64 t.int_) ∧ w'.cell? ⟨w.heap.size, 4, none⟩ = some (.string t.key) ∧ w'.cell? ⟨w.heap.size, 5, none⟩ = some (.slice p t.args.length c) ∧ w'.cell? ⟨w.heap.size, 6, none⟩ = some (.int .i64 t.at_) ∧ w'.cell? ⟨G, 0, none⟩ = some (.int .i64 t.kind) ∧ w'.cell? ⟨G, 1, none⟩ = some (.string t.name) ∧ w'.cell? ⟨G, 2, none⟩ = some (.int .u32 t.num) ∧ w'.cell? ⟨G, 3, none⟩ = some (.int .i64 t.int_) ∧ w'.cell? ⟨G, 4, none⟩ = some (.string t.key) ∧ w'.cell? ⟨G, 5, none⟩ = some (.slice q t.args.length d) ∧ w'.cell? ⟨G, 6, none⟩ = some (.int .i64 t.at_))) (by kernel_rfl) ?_ (fun hHeld => ?_)
  · ((try dsimp only); go_keep)
  refine wpAnyH_take (i := 0) (v := ?_) (by simp only [List.getElem?_toArray, List.getElem?_cons_succ, List.getElem?_cons_zero]; rfl) (by kernel_rfl) (by kernel_rfl) (by kernel_rfl) (by exact fun _ _ _ h => h) (Or.inl ⟨by rfl, ?_⟩) (by assumption) ?_
  rotate_left 1
  · (intro wS hSw; (try dsimp only at hSw); go_simp; try (with_reducible rfl))
  try simp only [Act.put, List.setIfInBounds_toArray, List.set_cons_zero, List.set_cons_succ]
  refine wpAnyH_take (i := 2) (v := ?_) (by simp only [List.getElem?_toArray, List.getElem?_cons_succ, List.getElem?_cons_zero]; rfl) (by kernel_rfl) (by kernel_rfl) (by kernel_rfl) (by exact fun _ _ _ h => h) (Or.inl ⟨by rfl, ?_⟩) (by assumption) ?_
  rotate_left 1
  · (intro wS hSw; (try dsimp only at hSw); go_simp; try (with_reducible rfl))
  try simp only [Act.put, List.setIfInBounds_toArray, List.set_cons_zero, List.set_cons_succ]
  clear hHeld
  refine wpAnyH_ready (rs := [1]) (by kernel_rfl) (by simp) ?_
  refine AllReadyH.cons (i := 1) (by simp only [List.getElem?_toArray, List.getElem?_cons_succ, List.getElem?_cons_zero]; rfl) (fun K hK => ?_) AllReadyH.nil
  go_simp
  (go_at_call 12; (with_reducible refine (HChk.out _ HS.out).mono ?_); rintro e w2 ⟨rfl, hs2⟩; clear z0 z1 z2 z3 z4 z5 z6 y0 y1 y2 y3 y4 y5 y6; obtain ⟨⟨z0, z1, z2, z3, z4, z5, z6⟩, ⟨y0, y1, y2, y3, y4, y5, y6⟩⟩ := HCL.out w2 hs2.1; (try clear HS); have HS : Hid (Below V.heap.size V w2) := hs2.1; clear hs2)
  try (go_wp2_with fail)
  refine hK.out _ _ ?_ (fun hHeld => ?_)
  · ((try dsimp only); go_keep)
  clear hK K
  try simp only [Act.put, List.setIfInBounds_toArray, List.set_cons_zero, List.set_cons_succ]
  clear hHeld
  refine wpAnyH_ready (rs := [3]) (by kernel_rfl) (by simp) ?_
  refine AllReadyH.cons (i := 3) (by simp only [List.getElem?_toArray, List.getElem?_cons_succ, List.getElem?_cons_zero]; rfl) (fun K hK => ?_) AllReadyH.nil
  go_simp
  (go_at_call 13; (with_reducible refine (HRChk.out _ HS.out).mono ?_); rintro e w2 ⟨rfl, hs2⟩; clear z0 z1 z2 z3 z4 z5 z6 y0 y1 y2 y3 y4 y5 y6; obtain ⟨⟨z0, z1, z2, z3, z4, z5, z6⟩, ⟨y0, y1, y2, y3, y4, y5, y6⟩⟩ := HCL.out w2 hs2.1; (try clear HS); have HS : Hid (Below V.heap.size V w2) := hs2.1; clear hs2)
  try (go_wp2_with fail)
  refine hK.out _ _ ?_ (fun hHeld => ?_)
  · ((try dsimp only); go_keep)
  clear hK K
  try simp only [Act.put, List.setIfInBounds_toArray, List.set_cons_zero, List.set_cons_succ]
  refine wpAnyH_take (i := 4) (v := ?_) (by simp only [List.getElem?_toArray, List.getElem?_cons_succ, List.getElem?_cons_zero]; rfl) (by kernel_rfl) (by kernel_rfl) (by kernel_rfl) (by exact fun _ _ _ h => h) (Or.inl ⟨by rfl, ?_⟩) (by assumption) ?_
  rotate_left 1
  · (intro wS hSw; (try dsimp only at hSw); go_simp; try (with_reducible rfl))
  try simp only [Act.put, List.setIfInBounds_toArray, List.set_cons_zero, List.set_cons_succ]
  refine wpAnyH_take (i := 5) (v := ?_) (by simp only [List.getElem?_toArray, List.getElem?_cons_succ, List.getElem?_cons_zero]; rfl) (by kernel_rfl) (by kernel_rfl) (by kernel_rfl) (by exact fun _ _ _ h => h) (Or.inl ⟨by rfl, ?_⟩) (by assumption) ?_
  rotate_left 1
  · (intro wS hSw; (try dsimp only at hSw); go_simp; try (with_reducible rfl))
  try simp only [Act.put, List.setIfInBounds_toArray, List.set_cons_zero, List.set_cons_succ]
  refine wpAnyH_take (i := 6) (v := ?_) (by simp only [List.getElem?_toArray, List.getElem?_cons_succ, List.getElem?_cons_zero]; rfl) (by kernel_rfl) (by kernel_rfl) (by kernel_rfl) (by exact fun _ _ _ h => h) (Or.inl ⟨by rfl, ?_⟩) (by assumption) ?_
  rotate_left 1
  · (intro wS hSw; (try dsimp only at hSw); go_simp; try (with_reducible rfl))
  try simp only [Act.put, List.setIfInBounds_toArray, List.set_cons_zero, List.set_cons_succ]
  refine wpAnyH_take (i := 7) (v := ?_) (by simp only [List.getElem?_toArray, List.getElem?_cons_succ, List.getElem?_cons_zero]; rfl) (by kernel_rfl) (by kernel_rfl) (by kernel_rfl) (by exact fun _ _ _ h => h) (Or.inl ⟨by rfl, ?_⟩) (by assumption) ?_
  rotate_left 1
  · (intro wS hSw; (try dsimp only at hSw); go_simp; try (with_reducible rfl))
  try simp only [Act.put, List.setIfInBounds_toArray, List.set_cons_zero, List.set_cons_succ]
  clear hHeld
  refine wpAnyH_ready (rs := [8]) (by kernel_rfl) (by simp) ?_
  refine AllReadyH.cons (i := 8) (by simp only [List.getElem?_toArray, List.getElem?_cons_succ, List.getElem?_cons_zero]; rfl) (fun K hK => ?_) AllReadyH.nil
  go_simp
  (go_at_call 14; (with_reducible refine (HSame.out _ HS.out).mono ?_); rintro e w2 ⟨rfl, hs2⟩; clear z0 z1 z2 z3 z4 z5 z6 y0 y1 y2 y3 y4 y5 y6; obtain ⟨⟨z0, z1, z2, z3, z4, z5, z6⟩, ⟨y0, y1, y2, y3, y4, y5, y6⟩⟩ := HCL.out w2 hs2.1; (try clear HS); have HS : Hid (Below V.heap.size V w2) := hs2.1; clear hs2)
  try (go_wp2_with fail)
  refine hK.out _ _ ?_ (fun hHeld => ?_)
  · ((try dsimp only); go_keep)
  clear hK K
  try simp only [Act.put, List.setIfInBounds_toArray, List.set_cons_zero, List.set_cons_succ]
  refine wpAnyH_take (i := 9) (v := ?_) (by simp only [List.getElem?_toArray, List.getElem?_cons_succ, List.getElem?_cons_zero]; rfl) (by kernel_rfl) (by kernel_rfl) (by kernel_rfl) (by exact fun _ _ _ h => h) (Or.inl ⟨by rfl, ?_⟩) (by assumption) ?_
  rotate_left 1
  · (intro wS hSw; (try dsimp only at hSw); go_simp; try (with_reducible rfl))
  try simp only [Act.put, List.setIfInBounds_toArray, List.set_cons_zero, List.set_cons_succ]
  refine wpAnyH_take (i := 10) (v := ?_) (by simp only [List.getElem?_toArray, List.getElem?_cons_succ, List.getElem?_cons_zero]; rfl) (by kernel_rfl) (by kernel_rfl) (by kernel_rfl) (by exact fun _ _ _ h => h) (Or.inl ⟨by rfl, ?_⟩) (by assumption) ?_
  rotate_left 1
  · (intro wS hSw; (try dsimp only at hSw); go_simp; try (with_reducible rfl))
  try simp only [Act.put, List.setIfInBounds_toArray, List.set_cons_zero, List.set_cons_succ]
  clear hHeld
  refine wpAnyH_ready (rs := [11]) (by kernel_rfl) (by simp) ?_
  refine AllReadyH.cons (i := 11) (by simp only [List.getElem?_toArray, List.getElem?_cons_succ, List.getElem?_cons_zero]; rfl) (fun K hK => ?_) AllReadyH.nil
  go_simp
  (go_at_call 10; (with_reducible refine (HSu.out _ HS.out).mono ?_); rintro e w2 ⟨rfl, hs2⟩; clear z0 z1 z2 z3 z4 z5 z6 y0 y1 y2 y3 y4 y5 y6; obtain ⟨⟨z0, z1, z2, z3, z4, z5, z6⟩, ⟨y0, y1, y2, y3, y4, y5, y6⟩⟩ := HCL.out w2 hs2.1; (try clear HS); have HS : Hid (Below V.heap.size V w2) := hs2.1; clear hs2)
  try (go_wp2_with fail)
  refine hK.out _ _ ?_ (fun hHeld => ?_)
  · ((try dsimp only); go_keep)
  clear hK K
  try simp only [Act.put, List.setIfInBounds_toArray, List.set_cons_zero, List.set_cons_succ]
  refine wpAnyH_take (i := 12) (v := ?_) (by simp only [List.getElem?_toArray, List.getElem?_cons_succ, List.getElem?_cons_zero]; rfl) (by kernel_rfl) (by kernel_rfl) (by kernel_rfl) (by exact fun _ _ _ h => h) (Or.inl ⟨by rfl, ?_⟩) (by assumption) ?_
  rotate_left 1
  · (intro wS hSw; (try dsimp only at hSw); go_simp; try (with_reducible rfl))
  try simp only [Act.put, List.setIfInBounds_toArray, List.set_cons_zero, List.set_cons_succ]
  refine wpAnyH_take (i := 13) (v := ?_) (by simp only [List.getElem?_toArray, List.getElem?_cons_succ, List.getElem?_cons_zero]; rfl) (by kernel_rfl) (by kernel_rfl) (by kernel_rfl) (by exact fun _ _ _ h => h) (Or.inl ⟨by rfl, ?_⟩) (by assumption) ?_
  rotate_left 1
  · (intro wS hSw; (try dsimp only at hSw); go_simp; try (with_reducible rfl))
  try simp only [Act.put, List.setIfInBounds_toArray, List.set_cons_zero, List.set_cons_succ]
  refine wpAnyH_done (by kernel_rfl) ?_ _
  go_wp2
  go_ret
  exact ⟨rfl, bel HBW.out HS.out⟩

end Go.Proofs.Ytpidjmgifglmiaa
