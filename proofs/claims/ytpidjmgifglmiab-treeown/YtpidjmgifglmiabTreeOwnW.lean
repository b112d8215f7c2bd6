import Derived.Test.YtpidjmgifglmiabTreeSure
import Derived.Test.YtpidjmgifglmiabTreeSpoil
import Derived.Test.YtpidjmgifglmiabTreeTwin
import Derived.Test.YtpidjmgifglmiabTreeRefStrip
import Derived.Test.YtpidjmgifglmiabTreeRefNames
import Derived.Test.YtpidjmgifglmiabTreeRefEq
import Derived.Test.YtpidjmgifglmiabTreeRefFind
/- The walk of TreeOwn. -/
namespace Go.Proofs.Ytpidjmgifglmiab
open Go.RowKit
set_option linter.unusedVariables false
set_option linter.unusedSimpArgs false

theorem add_at (g i : Nat) : (⟨g, 0, none⟩ : Addr).add i = ⟨g, i, none⟩ := by unfold Addr.add; split <;> simp_all
theorem OwnS.offb {w w' : World} {B A : Nat} {v : Value} {l : List ByteArray} (h : OwnS w B v l) (k : Off A w w') (hA : A < B) : OwnS w' B v l := by
  refine ⟨h.1, ?_⟩
  rcases h.2 with hv | ⟨g, cap, cur, hv, hB, hg, hr⟩
  · exact .inl hv
  · exact .inr ⟨g, cap, cur, hv, hB, by rw [k.2.2.2.2 g (by omega)]; exact hg, hr⟩
theorem OwnS.other {w w' : World} {B : Nat} {v : Value} {l : List ByteArray} (h : OwnS w B v l) (k : ∀ g, v.ownBlock = some g → w'.heap[g]? = w.heap[g]?) : OwnS w' B v l := by
  refine ⟨h.1, ?_⟩
  rcases h.2 with hv | ⟨g, cap, cur, hv, hB, hg, hr⟩
  · exact .inl hv
  · exact .inr ⟨g, cap, cur, hv, hB, by rw [k g (by rw [hv]; rfl)]; exact hg, hr⟩
/-- A text of a row of one's own written over. -/
theorem OwnS.put {w : World} {B g n cap i : Nat} {ls : List ByteArray} (h : OwnS w B (.slice (some ⟨g, 0, none⟩) n cap) ls) (hn : ls.length = n) (hi : i < n) (s : ByteArray) : OwnS (w.setCell ⟨g, i, none⟩ (.string s)) B (.slice (some ⟨g, 0, none⟩) n cap) (ls.set i s) := by
  obtain ⟨h1, h2⟩ := h
  refine ⟨by simp [strs], ?_⟩
  rcases h2 with ⟨e, -⟩ | ⟨g2, cap2, cur, e, hB, hg, k1, k2, k3, k4⟩
  · cases e
  · simp only [Value.slice.injEq, Option.some.injEq, Addr.mk.injEq] at e
    obtain ⟨⟨rfl, -⟩, e2, rfl⟩ := e
    refine .inr ⟨g, cap, cur.setIfInBounds i (.string s), by rw [List.length_set, hn], hB, heap_setAt hg i _, by rw [List.length_set]; exact k1, k2, by simp; omega, ?_⟩
    rw [Array.toList_setIfInBounds, List.take_set, List.length_set, k4]
    unfold strs
    rw [List.map_set]

set_option maxRecDepth 100000 in
set_option maxHeartbeats 8000000 in
theorem walk_TreeOwn (t : Nd) (p : Option Addr) (c : Nat) (hok : ok1 t) (w : World) (hk : Kids w anyH (.slice p t.args.length c) t.args) :
    Calls Try.prog 3 #[nv t (.slice p t.args.length c)] w fun e w' => e = .returned (.bool true) ∧ Below w.heap.size w w' := by
  have hb0 := bel_alloc w (.cells #[.int .i64 t.kind, .string t.name, .int .u32 t.num, .int .i64 t.int_, .string t.key, .slice p t.args.length c, .int .i64 t.at_] 26)
  have hx0 := box_heap w (.cells #[.int .i64 t.kind, .string t.name, .int .u32 t.num, .int .i64 t.int_, .string t.key, .slice p t.args.length c, .int .i64 t.at_] 26)
  have HG : Hid (∀ v, Below w.heap.size w v → Calls Try.prog 4 #[.agg #[.int .i64 t.kind, .string t.name, .int .u32 t.num, .int .i64 t.int_, .string t.key, .slice p t.args.length c, .int .i64 t.at_]] v fun e v' => e = .returned (.bool (decide (9000 < cnt t))) ∧ Below v.heap.size v v') := fun v hv => big_any t p c v (hk.below hv)
  have HW0 : Hid (Below w.heap.size w (w.alloc (.cells #[.int .i64 t.kind, .string t.name, .int .u32 t.num, .int .i64 t.int_, .string t.key, .slice p t.args.length c, .int .i64 t.at_] 26))) := hb0
  unfold nv
  by_cases hbig : 9000 < cnt t
  · have e : decide (9000 < cnt t) = true := by simpa using hbig
    rw [e] at HG
    clear e hbig hk hok hx0 hb0
    go_enter Try.func3, Try.ntmps3
    go_wp2_with (first
      | (go_at_call 4; (with_reducible refine (HG.out _ HW0.out).mono ?_); rintro e w1 ⟨rfl, hb1⟩)
      | (go_at_call 5; (with_reducible refine (sure_any _).mono ?_); rintro e w2 ⟨rfl, hb2⟩))
    go_ret
    exact ⟨rfl, bel HW0.out (bel hb1 hb2)⟩
  have e : decide (9000 < cnt t) = false := by simpa using hbig
  rw [e] at HG
  have hc : cnt t ≤ 9000 := by omega
  have HX : Hid (∀ v, Below (w.alloc (.cells #[.int .i64 t.kind, .string t.name, .int .u32 t.num, .int .i64 t.int_, .string t.key, .slice p t.args.length c, .int .i64 t.at_] 26)).heap.size (w.alloc (.cells #[.int .i64 t.kind, .string t.name, .int .u32 t.num, .int .i64 t.int_, .string t.key, .slice p t.args.length c, .int .i64 t.at_] 26)) v → v.heap[w.heap.size]? = some (.cells #[.int .i64 t.kind, .string t.name, .int .u32 t.num, .int .i64 t.int_, .string t.key, .slice p t.args.length c, .int .i64 t.at_] 26) ∧ Kids v anyH (.slice p t.args.length c) t.args) := fun v hv => ⟨by rw [hv.block _ (hlt hx0)]; exact hx0, hk.below (bel hb0 hv)⟩
  have HOK : Hid (ok1 t ∧ cnt t ≤ 9000) := ⟨hok, hc⟩
  have HTW : Hid (∀ v, Below (w.alloc (.cells #[.int .i64 t.kind, .string t.name, .int .u32 t.num, .int .i64 t.int_, .string t.key, .slice p t.args.length c, .int .i64 t.at_] 26)).heap.size (w.alloc (.cells #[.int .i64 t.kind, .string t.name, .int .u32 t.num, .int .i64 t.int_, .string t.key, .slice p t.args.length c, .int .i64 t.at_] 26)) v → Calls Try.prog 6 #[.agg #[.int .i64 t.kind, .string t.name, .int .u32 t.num, .int .i64 t.int_, .string t.key, .slice p t.args.length c, .int .i64 t.at_]] v fun e v' => ∃ q m d, e = .returned (.agg #[.int .i64 t.kind, .string t.name, .int .u32 t.num, .int .i64 t.int_, .string t.key, .slice q m d, .int .i64 t.at_]) ∧ Kids v' anyH (.slice q m d) t.args ∧ Below v.heap.size v v') := fun v hv => (twin_to (dep t) t p c v (Nat.le_refl _) hc (hk.below (bel hb0 hv))).mono fun e v' ⟨q, m, d, he, hkk, hb⟩ => ⟨q, m, d, he, hkk.weak (fun _ _ _ _ => trivial), hb⟩
  have HCL0 : Hid (∀ v, Below (w.alloc (.cells #[.int .i64 t.kind, .string t.name, .int .u32 t.num, .int .i64 t.int_, .string t.key, .slice p t.args.length c, .int .i64 t.at_] 26)).heap.size (w.alloc (.cells #[.int .i64 t.kind, .string t.name, .int .u32 t.num, .int .i64 t.int_, .string t.key, .slice p t.args.length c, .int .i64 t.at_] 26)) v → v.cell? ⟨w.heap.size, 0, none⟩ = some (.int .i64 t.kind) ∧ v.cell? ⟨w.heap.size, 1, none⟩ = some (.string t.name) ∧ v.cell? ⟨w.heap.size, 2, none⟩ = some (.int .u32 t.num) ∧ v.cell? ⟨w.heap.size, 3, none⟩ = some (.int .i64 t.int_) ∧ v.cell? ⟨w.heap.size, 4, none⟩ = some (.string t.key) ∧ v.cell? ⟨w.heap.size, 5, none⟩ = some (.slice p t.args.length c) ∧ v.cell? ⟨w.heap.size, 6, none⟩ = some (.int .i64 t.at_)) := fun v hv => by
    have hx : v.heap[w.heap.size]? = some (.cells #[.int .i64 t.kind, .string t.name, .int .u32 t.num, .int .i64 t.int_, .string t.key, .slice p t.args.length c, .int .i64 t.at_] 26) := by rw [hv.block _ (hlt hx0)]; exact hx0
    exact ⟨cell_heap hx 0, cell_heap hx 1, cell_heap hx 2, cell_heap hx 3, cell_heap hx 4, cell_heap hx 5, cell_heap hx 6⟩
  clear e hbig hk hok hx0 hb0 hc
  go_enter Try.func3, Try.ntmps3
  go_upto_region 4 with (first
    | (go_at_call 4; (with_reducible refine (HG.out _ HW0.out).mono ?_); rintro e w1 ⟨rfl, hb1⟩; obtain ⟨z0, z1, z2, z3, z4, z5, z6⟩ := HCL0.out w1 hb1)
    | (go_at_call 6; (with_reducible refine (HTW.out _ hb1).mono ?_); rintro e w2 ⟨q, m, d, rfl, hk2, hb2⟩))
  have hbV := bel_alloc w2 (.cells #[.int .i64 t.kind, .string t.name, .int .u32 t.num, .int .i64 t.int_, .string t.key, .slice q m d, .int .i64 t.at_] 26)
  have hxm := box_heap w2 (.cells #[.int .i64 t.kind, .string t.name, .int .u32 t.num, .int .i64 t.int_, .string t.key, .slice q m d, .int .i64 t.at_] 26)
  obtain ⟨hx1, hk1⟩ := HX.out _ (bel hb1 (bel hb2 hbV))
  have hkm := hk2.below hbV
  have hbw : Below w.heap.size w (w2.alloc (.cells #[.int .i64 t.kind, .string t.name, .int .u32 t.num, .int .i64 t.int_, .string t.key, .slice q m d, .int .i64 t.at_] 26)) := bel HW0.out (bel hb1 (bel hb2 hbV))
  obtain ⟨hok, hc⟩ := HOK.out
  clear HX HG HW0 HOK HTW HCL0 hb1 hb2 hk2 hbV z0 z1 z2 z3 z4 z5 z6
  obtain ⟨V, hV⟩ : ∃ V, w2.alloc (.cells #[.int .i64 t.kind, .string t.name, .int .u32 t.num, .int .i64 t.int_, .string t.key, .slice q m d, .int .i64 t.at_] 26) = V := ⟨_, rfl⟩
  obtain ⟨G, hG⟩ : ∃ G, w2.heap.size = G := ⟨_, rfl⟩
  rw [hV, hG] at hxm
  rw [hV] at hx1 hk1 hkm hbw
  rw [hV, hG]
  clear hV hG
  obtain ⟨_, _, em, -⟩ := id hkm
  simp only [Value.slice.injEq] at em
  obtain ⟨-, rfl, -⟩ := em
  have hGV := hlt hxm
  have hlen9 : t.args.length ≤ 9000 := by have h1 := cntL_len t.args; unfold cnt at hc; omega
  have HCL : Hid (∀ v, Below V.heap.size V v → (v.cell? ⟨w.heap.size, 0, none⟩ = some (.int .i64 t.kind) ∧ v.cell? ⟨w.heap.size, 1, none⟩ = some (.string t.name) ∧ v.cell? ⟨w.heap.size, 2, none⟩ = some (.int .u32 t.num) ∧ v.cell? ⟨w.heap.size, 3, none⟩ = some (.int .i64 t.int_) ∧ v.cell? ⟨w.heap.size, 4, none⟩ = some (.string t.key) ∧ v.cell? ⟨w.heap.size, 5, none⟩ = some (.slice p t.args.length c) ∧ v.cell? ⟨w.heap.size, 6, none⟩ = some (.int .i64 t.at_)) ∧ (v.cell? ⟨G, 0, none⟩ = some (.int .i64 t.kind) ∧ v.cell? ⟨G, 1, none⟩ = some (.string t.name) ∧ v.cell? ⟨G, 2, none⟩ = some (.int .u32 t.num) ∧ v.cell? ⟨G, 3, none⟩ = some (.int .i64 t.int_) ∧ v.cell? ⟨G, 4, none⟩ = some (.string t.key) ∧ v.cell? ⟨G, 5, none⟩ = some (.slice q t.args.length d) ∧ v.cell? ⟨G, 6, none⟩ = some (.int .i64 t.at_))) := fun v hv => by
    have hx : v.heap[w.heap.size]? = some (.cells #[.int .i64 t.kind, .string t.name, .int .u32 t.num, .int .i64 t.int_, .string t.key, .slice p t.args.length c, .int .i64 t.at_] 26) := by rw [hv.block _ (hlt hx1)]; exact hx1
    have hy : v.heap[G]? = some (.cells #[.int .i64 t.kind, .string t.name, .int .u32 t.num, .int .i64 t.int_, .string t.key, .slice q t.args.length d, .int .i64 t.at_] 26) := by rw [hv.block _ (hlt hxm)]; exact hxm
    exact ⟨⟨cell_heap hx 0, cell_heap hx 1, cell_heap hx 2, cell_heap hx 3, cell_heap hx 4, cell_heap hx 5, cell_heap hx 6⟩, cell_heap hy 0, cell_heap hy 1, cell_heap hy 2, cell_heap hy 3, cell_heap hy 4, cell_heap hy 5, cell_heap hy 6⟩
  have HStr : Hid (∀ (v : World), Below V.heap.size V v → Calls Try.prog 7 #[.agg #[.int .i64 t.kind, .string t.name, .int .u32 t.num, .int .i64 t.int_, .string t.key, .slice q t.args.length d, .int .i64 t.at_]] v fun e v' => ∃ q' d' lo hi, e = .returned (.agg #[.int .i64 t.kind, .string t.name, .int .u32 t.num, .int .i64 t.int_, .string t.key, .slice q' t.args.length d', .int .i64 0]) ∧ Kids v' anyH (.slice q' t.args.length d') (stripL t.args) ∧ Sp v' (.slice q' t.args.length d') t.args lo hi ∧ v.heap.size ≤ lo ∧ hi ≤ v'.heap.size ∧ lo ≤ hi ∧ (Below V.heap.size V v' ∧ Below v.heap.size v v')) := fun v hv => (strip_sep t _ v hc hok (hkm.below hv)).mono fun e v' ⟨q', d', he, hkk, hb, hsp⟩ => ⟨q', d', v.heap.size, v'.heap.size, he, hkk.weak (fun _ _ _ _ => trivial), hsp, Nat.le_refl _, Nat.le_refl _, hb.size, bel hv hb, hb⟩
  have HNm : Hid (∀ (v : World), Below V.heap.size V v → Calls Try.prog 8 #[.agg #[.int .i64 t.kind, .string t.name, .int .u32 t.num, .int .i64 t.int_, .string t.key, .slice q t.args.length d, .int .i64 t.at_]] v fun e v' => ∃ x B, e = .returned (x) ∧ OwnS v' B x (names t) ∧ v.heap.size ≤ B ∧ (Below V.heap.size V v' ∧ Below v.heap.size v v')) := fun v hv => (names_any t _ v hc hok (hkm.below hv)).mono fun e v' ⟨x, he, ho, _, hb⟩ => ⟨x, v.heap.size, he, ho, Nat.le_refl _, bel hv hb, hb⟩
  have HRStr : Hid (∀ (v : World), Below V.heap.size V v → Calls Try.prog 11 #[.agg #[.int .i64 t.kind, .string t.name, .int .u32 t.num, .int .i64 t.int_, .string t.key, .slice p t.args.length c, .int .i64 t.at_]] v fun e v' => ∃ q' m' d', e = .returned (.agg #[.int .i64 t.kind, .string t.name, .int .u32 t.num, .int .i64 t.int_, .string t.key, .slice q' m' d', .int .i64 0]) ∧ Kids v' anyH (.slice q' m' d') (stripL t.args) ∧ (Below V.heap.size V v' ∧ Below v.heap.size v v')) := fun v hv => (rstrip_to (dep t) t p c v (Nat.le_refl _) hc (hk1.below hv)).mono fun e v' ⟨q', m', d', he, hkk, hb⟩ => ⟨q', m', d', he, hkk.weak (fun _ _ _ _ => trivial), bel hv hb, hb⟩
  have HRNm : Hid (∀ (v : World), Below V.heap.size V v → Calls Try.prog 13 #[.agg #[.int .i64 t.kind, .string t.name, .int .u32 t.num, .int .i64 t.int_, .string t.key, .slice p t.args.length c, .int .i64 t.at_]] v fun e v' => ∃ x, e = .returned (x) ∧ Txt v' x (names t) ∧ (Below V.heap.size V v' ∧ Below v.heap.size v v')) := fun v hv => (rnames_to (dep t) t p c v (Nat.le_refl _) hc (hk1.below hv)).mono fun e v' ⟨x, he, ho, _, hb⟩ => ⟨x, he, rowS_cell ho, bel hv hb, hb⟩
  have HSm1 : Hid (∀ (v : World), Below V.heap.size V v → Calls Try.prog 10 #[.agg #[.int .i64 t.kind, .string t.name, .int .u32 t.num, .int .i64 t.int_, .string t.key, .slice q t.args.length d, .int .i64 t.at_], .agg #[.int .i64 t.kind, .string t.name, .int .u32 t.num, .int .i64 t.int_, .string t.key, .slice p t.args.length c, .int .i64 t.at_]] v fun e v' => e = .returned (.bool true) ∧ (Below V.heap.size V v' ∧ Below v.heap.size v v')) := fun v hv => (same_to (dep t) t q p d c v (Nat.le_refl _) hc (hkm.below hv) (hk1.below hv)).mono fun e v' ⟨he, hb⟩ => ⟨he, bel hv hb, hb⟩
  have HSm2 : Hid (∀ (v : World) (qa : Option Addr) (m1 da : Nat) (qb : Option Addr) (m2 db : Nat), Below V.heap.size V v → Kids v anyH (.slice qa m1 da) (stripL t.args) → Kids v anyH (.slice qb m2 db) (stripL t.args) → Calls Try.prog 10 #[.agg #[.int .i64 t.kind, .string t.name, .int .u32 t.num, .int .i64 t.int_, .string t.key, .slice qa m1 da, .int .i64 0], .agg #[.int .i64 t.kind, .string t.name, .int .u32 t.num, .int .i64 t.int_, .string t.key, .slice qb m2 db, .int .i64 0]] v fun e v' => e = .returned (.bool true) ∧ (Below V.heap.size V v' ∧ Below v.heap.size v v')) := fun v qa m1 da qb m2 db hv ha hb => by
    obtain ⟨_, _, e1, -⟩ := id ha
    obtain ⟨_, _, e2, -⟩ := id hb
    simp only [Value.slice.injEq] at e1 e2
    obtain ⟨-, rfl, -⟩ := e1
    obtain ⟨-, rfl, -⟩ := e2
    have h9 : cnt (strip t) ≤ 9000 := by unfold cnt strip; simp only; rw [stripL_cnt]; unfold cnt at hc; exact hc
    exact (same_to (dep (strip t)) (strip t) qa qb da db v (Nat.le_refl _) h9 ha hb).mono fun e v' ⟨he, hb'⟩ => ⟨he, bel hv hb', hb'⟩
  have HTx : Hid (∀ (v : World) (x y : Value), Below V.heap.size V v → Txt v x (names t) → Txt v y (names t) → Calls Try.prog 12 #[x, y] v fun e v' => e = .returned (.bool true) ∧ (Below V.heap.size V v' ∧ Below v.heap.size v v')) := fun v x y hv ha hb => (sameTexts_any x y (names t) (by have := names_le t; omega) v ha hb).mono fun e v' ⟨he, hb'⟩ => ⟨he, bel hv hb', hb'⟩
  have HSu : Hid (∀ (v : World), Below V.heap.size V v → Calls Try.prog 5 #[] v fun e v' => e = .returned (.bool true) ∧ (Below V.heap.size V v' ∧ Below v.heap.size v v')) := fun v hv => (sure_any v).mono fun e v' ⟨he, hb⟩ => ⟨he, bel hv hb, hb⟩
  have HBW : Hid (Below w.heap.size w V) := hbw
  have HOK : Hid (ok1 t ∧ cnt t ≤ 9000) := ⟨hok, hc⟩
  obtain ⟨-, ⟨y0, y1, y2, y3, y4, y5, y6⟩⟩ := HCL.out V (bel0 V)
  clear hk1 hkm hx1 hxm hok hc hbw
  have hGV1 : ¬ (V.heap.size = G) := by omega
  have hGV2 : ¬ (G = V.heap.size) := by omega
  refine wp_region_held_drew (S := (fun w' => w'.cell? ⟨G, 0, none⟩ = some (.int .i64 t.kind) ∧ w'.cell? ⟨G, 1, none⟩ = some (.string t.name) ∧ w'.cell? ⟨G, 2, none⟩ = some (.int .u32 t.num) ∧ w'.cell? ⟨G, 3, none⟩ = some (.int .i64 t.int_) ∧ w'.cell? ⟨G, 4, none⟩ = some (.string t.key) ∧ w'.cell? ⟨G, 5, none⟩ = some (.slice q t.args.length d) ∧ w'.cell? ⟨G, 6, none⟩ = some (.int .i64 t.at_))) (by kernel_rfl) ?_ (fun hHeld => ?_)
  · ((try dsimp only); go_keep)
  refine wpAnyH_take (i := 0) (v := ?_) (by simp only [List.getElem?_toArray, List.getElem?_cons_succ, List.getElem?_cons_zero]; rfl) (by kernel_rfl) (by kernel_rfl) (by kernel_rfl) (by exact fun _ _ _ h => h) (Or.inl ⟨by rfl, ?_⟩) (by assumption) ?_
  rotate_left 1
  · (intro wS hSw; (try dsimp only at hSw); go_simp; try (with_reducible rfl))
  try simp only [Act.put, List.setIfInBounds_toArray, List.set_cons_zero, List.set_cons_succ]
  refine wpAnyH_take (i := 2) (v := ?_) (by simp only [List.getElem?_toArray, List.getElem?_cons_succ, List.getElem?_cons_zero]; rfl) (by kernel_rfl) (by kernel_rfl) (by kernel_rfl) (by exact fun _ _ _ h => h) (Or.inl ⟨by rfl, ?_⟩) (by assumption) ?_
  rotate_left 1
  · (intro wS hSw; (try dsimp only at hSw); go_simp; try (with_reducible rfl))
  try simp only [Act.put, List.setIfInBounds_toArray, List.set_cons_zero, List.set_cons_succ]
  clear hHeld
  refine wpAnyH_ready (rs := [1, 4]) (by kernel_rfl) (by simp) ?_
  refine AllReadyH.cons (i := 1) (by simp only [List.getElem?_toArray, List.getElem?_cons_succ, List.getElem?_cons_zero]; rfl) (fun K hK => ?_) ?_
  · go_simp
    (go_at_call 7; (with_reducible refine (HStr.out _ (bel_d V)).mono ?_); rintro e w5 ⟨qs, ds, lo, hi, rfl, hks, hsp, hlo, hhi, hlh, hs5⟩)
    have HSP : Hid (Sp w5 (.slice qs t.args.length ds) t.args lo hi ∧ hi ≤ w5.heap.size ∧ lo ≤ hi ∧ Below V.heap.size V w5) := ⟨hsp, hhi, hlh, hs5.1⟩
    have HLO : Hid (V.heap.size ≤ lo) := (by have := hlo; simp at this; exact this)
    clear y0 y1 y2 y3 y4 y5 y6; obtain ⟨-, ⟨y0, y1, y2, y3, y4, y5, y6⟩⟩ := HCL.out w5 hs5.1
    have hG5 : ¬ (w5.heap.size = G) := (by have := hs5.1.size; omega)
    have hG5' : ¬ (G = w5.heap.size) := fun e => hG5 e.symm
    clear hks hsp hlo hhi hlh hs5
    try (go_wp2_with fail)
    refine hK.out _ _ ?_ (fun hHeld => ?_)
    · ((try dsimp only); go_keep)
    clear hK K
    try simp only [Act.put, List.setIfInBounds_toArray, List.set_cons_zero, List.set_cons_succ]
    clear hHeld
    refine wpAnyH_ready (rs := [3, 4]) (by kernel_rfl) (by simp) ?_
    refine AllReadyH.cons (i := 3) (by simp only [List.getElem?_toArray, List.getElem?_cons_succ, List.getElem?_cons_zero]; rfl) (fun K hK => ?_) ?_
    · go_simp
      (go_at_call 8; (with_reducible refine (HNm.out _ HSP.out.2.2.2).mono ?_); rintro e w6 ⟨lv, B, rfl, hown, hB, hs6⟩)
      have HL6 : Hid (OwnS w6 B lv (names t) ∧ w5.heap.size ≤ B ∧ Below V.heap.size V w6 ∧ Below w5.heap.size w5 w6) := ⟨hown, (by first | exact hB | (have h9 := hB; simp at h9; omega)), hs6.1, hs6.2⟩
      clear y0 y1 y2 y3 y4 y5 y6; obtain ⟨-, ⟨y0, y1, y2, y3, y4, y5, y6⟩⟩ := HCL.out w6 hs6.1
      have hG6 : ¬ (w6.heap.size = G) := (by have := hs6.1.size; omega)
      have hG6' : ¬ (G = w6.heap.size) := fun e => hG6 e.symm
      clear hown hB hs6
      try (go_wp2_with fail)
      refine hK.out _ _ ?_ (fun hHeld => ?_)
      · ((try dsimp only); go_keep)
      clear hK K
      try simp only [Act.put, List.setIfInBounds_toArray, List.set_cons_zero, List.set_cons_succ]
      clear hHeld
      refine wpAnyH_ready (rs := [4]) (by kernel_rfl) (by simp) ?_
      refine AllReadyH.cons (i := 4) (by simp only [List.getElem?_toArray, List.getElem?_cons_succ, List.getElem?_cons_zero]; rfl) (fun K hK => ?_) AllReadyH.nil
      go_simp
      refine hK.out _ _ ?_ (fun hHeld => ?_)
      · ((try dsimp only); go_keep)
      clear hK K
      try simp only [Act.put, List.setIfInBounds_toArray, List.set_cons_zero, List.set_cons_succ]
      clear hHeld
      refine wpAnyH_ready (rs := [5]) (by kernel_rfl) (by simp) ?_
      refine AllReadyH.cons (i := 5) (by simp only [List.getElem?_toArray, List.getElem?_cons_succ, List.getElem?_cons_zero]; rfl) (fun K hK => ?_) AllReadyH.nil
      go_simp
      refine hK.out _ _ ?_ (fun hHeld => ?_)
      · ((try dsimp only); go_keep)
      clear hK K
      try simp only [Act.put, List.setIfInBounds_toArray, List.set_cons_zero, List.set_cons_succ]
      refine wpAnyH_take (i := 6) (v := ?_) (by simp only [List.getElem?_toArray, List.getElem?_cons_succ, List.getElem?_cons_zero]; rfl) (by kernel_rfl) (by kernel_rfl) (by kernel_rfl) (by exact fun _ _ _ h => h) (Or.inl ⟨by rfl, ?_⟩) (by assumption) ?_
      rotate_left 1
      · (intro wS hSw; (try dsimp only at hSw); go_simp; try (with_reducible rfl))
      try simp only [Act.put, List.setIfInBounds_toArray, List.set_cons_zero, List.set_cons_succ]
      refine wpAnyH_done (by kernel_rfl) ?_ _
      go_upto_region 5 with (fail)
      obtain ⟨S0, hS0⟩ : ∃ S0, S0 = V.heap.size := ⟨_, rfl⟩
      have HS0 : Hid (S0 = V.heap.size) := hS0
      obtain ⟨hsp, hhi, hlh, hb5⟩ := HSP.out
      obtain ⟨how, hB5, hb6, hb56⟩ := HL6.out
      have hlo := HLO.out
      have hs5 := hb5.size
      have hs6 := hb6.size
      have hs56 := hb56.size
      have hXA : (w6.alloc (.cells #[.int .i64 t.kind, .string t.name, .int .u32 t.num, .int .i64 t.int_, .string t.key, .slice qs t.args.length ds, .int .i64 0] 26)).heap[w6.heap.size]? = some (.cells #[.int .i64 t.kind, .string t.name, .int .u32 t.num, .int .i64 t.int_, .string t.key, .slice qs t.args.length ds, .int .i64 0] 26) := box_heap _ _
      have hXB : Below V.heap.size V (w6.alloc (.cells #[.int .i64 t.kind, .string t.name, .int .u32 t.num, .int .i64 t.int_, .string t.key, .slice qs t.args.length ds, .int .i64 0] 26)) := hb6.trans ((bel_alloc w6 _).mono hs6)
      have hXS : Sp (w6.alloc (.cells #[.int .i64 t.kind, .string t.name, .int .u32 t.num, .int .i64 t.int_, .string t.key, .slice qs t.args.length ds, .int .i64 0] 26)) (.slice qs t.args.length ds) t.args lo hi := Sp_keep hsp fun k k1 k2 => by rw [Below.heap_alloc w6 _ k (by omega)]; exact hb56.block k (by omega)
      have hXO : OwnS (w6.alloc (.cells #[.int .i64 t.kind, .string t.name, .int .u32 t.num, .int .i64 t.int_, .string t.key, .slice qs t.args.length ds, .int .i64 0] 26)) B lv (names t) := how.below (bel_alloc _ _)
      have hXs : (w6.alloc (.cells #[.int .i64 t.kind, .string t.name, .int .u32 t.num, .int .i64 t.int_, .string t.key, .slice qs t.args.length ds, .int .i64 0] 26)).heap.size = w6.heap.size + 1 := by simp
      have hlk : ∀ k, lv.ownBlock = some k → hi ≤ k ∧ k ≠ w6.heap.size ∧ k < (w6.alloc (.cells #[.int .i64 t.kind, .string t.name, .int .u32 t.num, .int .i64 t.int_, .string t.key, .slice qs t.args.length ds, .int .i64 0] 26)).heap.size ∧ S0 ≤ k := fun k hk => by have := how.lt k hk; rw [hXs]; omega
      have hAn : ¬ (lo ≤ w6.heap.size ∧ w6.heap.size < hi) := by omega
      have hXh : hi ≤ (w6.alloc (.cells #[.int .i64 t.kind, .string t.name, .int .u32 t.num, .int .i64 t.int_, .string t.key, .slice qs t.args.length ds, .int .i64 0] 26)).heap.size := by rw [hXs]; omega
      have hAV : S0 ≤ w6.heap.size := by omega
      have hloV : S0 ≤ lo := by omega
      clear hS0 hXs hsp how hb5 hb6 hb56
      obtain ⟨X, hX⟩ : ∃ X, (w6.alloc (.cells #[.int .i64 t.kind, .string t.name, .int .u32 t.num, .int .i64 t.int_, .string t.key, .slice qs t.args.length ds, .int .i64 0] 26)) = X := ⟨_, rfl⟩
      rw [hX] at hXA hXB hXS hXO hlk hXh
      rw [hX]
      obtain ⟨A, hA⟩ : ∃ A, w6.heap.size = A := ⟨_, rfl⟩
      rw [hA] at hXA hlk hAn hAV
      rw [hA]
      clear hX hA
      obtain ⟨hok, hc⟩ := HOK.out
      have HSpo : Hid (Calls Try.prog 9 #[.pointer (some ⟨A, 0, none⟩)] X fun e v' => (∃ r, e = .returned r) ∧ Chg X v' A 0 lo hi ∧ Left7 v' A 0 t.args.length lo hi X.heap.size) := spo_to (dep t) t A 0 lo hi (.slice qs t.args.length ds) X (Nat.le_refl _) hc ⟨_, hXA, (by show 0 + 7 ≤ 7; omega)⟩ hAn hlh hXh ⟨t.name, cell_heap hXA 1⟩ (cell_heap hXA 5) hXS
      have HXB : Hid (Below V.heap.size V X) := hXB
      have HXO : Hid (OwnS X B lv (names t)) := hXO
      have HLK : Hid (∀ k, lv.ownBlock = some k → hi ≤ k ∧ k ≠ A ∧ k < X.heap.size ∧ S0 ≤ k) := hlk
      have HNUM : Hid ((S0 ≤ A ∧ S0 ≤ lo) ∧ V.heap.size ≤ X.heap.size ∧ A < X.heap.size) := ⟨⟨hAV, hloV⟩, hXB.size, hlt hXA⟩
      clear hok hc hXA hXB hXS hXO hlk hAn hXh hAV hloV y0 y1 y2 y3 y4 y5 y6 HSP HL6 HLO
      go_upto_region 6 with (go_at_call 9; (with_reducible refine HSpo.out.mono ?_); rintro e w7 ⟨⟨rv, rfl⟩, hch, hleft⟩)
      have hS0 := HS0.out
      obtain ⟨⟨nA, nlo⟩, nX, nAX⟩ := HNUM.out
      have hb7 : Below V.heap.size V w7 := HXB.out.trans (hch.below (by omega) (by omega) nX)
      obtain ⟨g2, c2, hl1, hl2, hl3⟩ := hleft
      have hl1' : w7.cell? ⟨A, 5, none⟩ = some (.slice (some ⟨g2, 0, none⟩) (t.args.length + 1) c2) := hl1
      have hO7 : OwnS w7 B lv (names t) := HXO.out.other fun k hk => by
        have h1 := HLK.out k hk
        exact hch.block k h1.2.2.1 h1.2.1 (by omega)
      have hg2k : ∀ k, lv.ownBlock = some k → k ≠ g2 ∧ k ≠ A ∧ S0 ≤ k := fun k hk => by
        have h1 := HLK.out k hk
        omega
      obtain ⟨pl, cl, hlv, -⟩ := rowS_cell hO7
      obtain ⟨nn, hnn⟩ : ∃ nn, (names t).length = nn := ⟨_, rfl⟩
      rw [hnn] at hlv
      subst hlv
      have hn9 : nn ≤ 9000 := by have h1 := names_le t; have h2 := HOK.out.2; omega
      have H7 : Hid ((w7.cell? ⟨A, 5, none⟩ = some (.slice (some ⟨g2, 0, none⟩) (t.args.length + 1) c2) ∧ w7.cell? ⟨g2, t.args.length * 7 + 1, none⟩ = some (.string ⟨#[109, 111, 114, 101]⟩)) ∧ Below V.heap.size V w7 ∧ ∃ ls : List ByteArray, ls.length = nn ∧ OwnS w7 0 (.slice pl nn cl) ls) := ⟨⟨hl1', hl2⟩, hb7, names t, hnn, hO7.mono (Nat.zero_le _)⟩
      have HGK : Hid (∀ k, Value.ownBlock (.slice pl nn cl) = some k → k ≠ g2 ∧ k ≠ A ∧ S0 ≤ k) := hg2k
      obtain ⟨i0, hi0, hz0, hz1, hz2⟩ := info_parts info_string
      clear hch hl1 hl1' hl2 hl3 hb7 hO7 hg2k hnn hS0 nA nlo nX nAX HSpo HXB HXO HLK HNUM
      go_wp2
      go_loopw [6] (fun iv wr => ∃ i : Nat, i ≤ nn ∧ iv = .int .i64 i ∧ Hid ((wr.cell? ⟨A, 5, none⟩ = some (.slice (some ⟨g2, 0, none⟩) (t.args.length + 1) c2) ∧ wr.cell? ⟨g2, t.args.length * 7 + 1, none⟩ = some (.string ⟨#[109, 111, 114, 101]⟩)) ∧ Below V.heap.size V wr ∧ ∃ ls : List ByteArray, ls.length = nn ∧ OwnS wr 0 (.slice pl nn cl) ls)) (fun iv _ => nn - (intOf iv).toNat)
      case atStart => exact ⟨0, Nat.zero_le _, rfl, H7.out⟩
      case round =>
        obtain ⟨i, hi, rfl, hS⟩ := hrel
        clear H7
        obtain ⟨⟨hA5, hg2c⟩, hbv, ls, hls, hown⟩ := hS.out
        by_cases hlt0 : i < nn
        · rcases hown.2 with ⟨e, h0⟩ | ⟨g, cap, cur, e, hB, hg, k1, k2, k3, k4⟩
          · exfalso; simp only [Value.slice.injEq] at e; omega
          · simp only [Value.slice.injEq] at e
            obtain ⟨rfl, -, rfl⟩ := e
            have hgk := HGK.out g rfl
            obtain ⟨u, hu⟩ : ∃ u, cur[i]? = some u := ⟨_, Array.getElem?_eq_getElem (by omega)⟩
            obtain ⟨x0, x1⟩ := at_cell hg i hu
            have i1 : (0 : Int) ≤ (i : Int) := by omega
            have i2 : (i : Int) < (nn : Int) := by omega
            have hS0 := HS0.out
            have HN : Hid (((wr.setCell ⟨g, i, none⟩ (.string ⟨#[115, 112, 111, 105, 108, 116]⟩)).cell? ⟨A, 5, none⟩ = some (.slice (some ⟨g2, 0, none⟩) (t.args.length + 1) c2) ∧ (wr.setCell ⟨g, i, none⟩ (.string ⟨#[115, 112, 111, 105, 108, 116]⟩)).cell? ⟨g2, t.args.length * 7 + 1, none⟩ = some (.string ⟨#[109, 111, 114, 101]⟩)) ∧ Below V.heap.size V (wr.setCell ⟨g, i, none⟩ (.string ⟨#[115, 112, 111, 105, 108, 116]⟩)) ∧ ∃ ls : List ByteArray, ls.length = nn ∧ OwnS (wr.setCell ⟨g, i, none⟩ (.string ⟨#[115, 112, 111, 105, 108, 116]⟩)) 0 (.slice (some ⟨g, 0, none⟩) nn cl) ls) := by
              have ho := (Off.refl g wr).set i (.string ⟨#[115, 112, 111, 105, 108, 116]⟩)
              refine ⟨⟨?_, ?_⟩, ho.below hbv (by omega), ls.set i _, by rw [List.length_set]; exact hls, hown.put hls hlt0 _⟩
              · rw [World.cell?_of_block (w := wr) (a := ⟨A, 5, none⟩) (ho.2.2.2.2 A (by omega))]; exact hA5
              · rw [World.cell?_of_block (w := wr) (a := ⟨g2, t.args.length * 7 + 1, none⟩) (ho.2.2.2.2 g2 (by omega))]; exact hg2c
            clear hown hS hA5 hg2c hbv hB hg k1 k2 k3 k4 hgk hu hS0
            go_wp2
            go_roundw
            case rel => exact ⟨i + 1, by omega, by go_num, HN.out⟩
            case measure => simp [intOf]; omega
        · have : i = nn := by omega
          subst this
          have HOW : Hid (wr.ownsRow 0 9 1 (.slice pl i cl) i (strs ls)) := by
            have h1 := hown
            unfold OwnS at h1
            rw [hls] at h1
            exact h1
          have HLS : Hid (ls.length = i) := hls
          have HAC : Hid ((wr.cell? ⟨A, 5, none⟩ = some (.slice (some ⟨g2, 0, none⟩) (t.args.length + 1) c2) ∧ wr.cell? ⟨g2, t.args.length * 7 + 1, none⟩ = some (.string ⟨#[109, 111, 114, 101]⟩)) ∧ Below V.heap.size V wr) := ⟨⟨hA5, hg2c⟩, hbv⟩
          clear hown hls hA5 hg2c hbv hS
          go_upto_region 11 with (at_builtin; refine wpList_append_lies _ rfl _ _ 30 rfl 0 9 i0 _ 1 16 Try.underlying30 hi0 hz0 hz1 hz2 rfl (by decide) (.slice pl i cl) i (strs ls) rfl (World.ownsRow.alloc HOW.out _) ⟨wr.heap.size, 0, none⟩ 1 1 [.string ⟨#[109, 111, 114, 101]⟩] rfl rfl (World.news_of_block (cs := #[.string ⟨#[109, 111, 114, 101]⟩]) (t := 9) (fr := (0, 0)) (box_heap wr _)) (by simp [Value.oneCell']) (by decide) (by unfold maxLen; omega) (by omega) (Nat.zero_le _) (wr.heap.size + 1) (by simp) ?_; intro gl cap8 w8 hown8 hgrow hat hlt8; have HO8 : Hid (w8.ownsRow 0 9 1 (.slice (some ⟨gl, 0, none⟩) (i + 1) cap8) (i + 1) (strs ls ++ [.string ⟨#[109, 111, 114, 101]⟩])) := hown8; have HG8 : Hid ((wr.alloc (.cells #[.string ⟨#[109, 111, 114, 101]⟩] 9)).grownBy w8 (Value.ownBlock (.slice pl i cl))) := hgrow; clear hown8 hgrow hat hlt8)
          have hS0 := HS0.out
          obtain ⟨⟨hA5, hg2c⟩, hbv⟩ := HAC.out
          have hb8 : Below V.heap.size V w8 := Below.grown (hbv.trans ((bel_alloc wr _).mono hbv.size)) HG8.out (by have := hbv.size; simp; omega) (fun k hk => by have := (HGK.out k hk).2.2; omega)
          have hA8 : w8.cell? ⟨A, 5, none⟩ = some (.slice (some ⟨g2, 0, none⟩) (t.args.length + 1) c2) := by
            have h1 : A < wr.heap.size := mcell_lt hA5
            rw [World.cell?_of_block (w := wr.alloc (.cells #[.string ⟨#[109, 111, 114, 101]⟩] 9)) (a := ⟨A, 5, none⟩) (HG8.out.block A (by simp; omega) (fun e => (HGK.out A e.symm).2.1 rfl)), World.cell?_of_block (w := wr) (a := ⟨A, 5, none⟩) (Below.heap_alloc wr _ A h1)]
            exact hA5
          have hg8 : w8.cell? ⟨g2, t.args.length * 7 + 1, none⟩ = some (.string ⟨#[109, 111, 114, 101]⟩) := by
            have h1 : g2 < wr.heap.size := mcell_lt hg2c
            rw [World.cell?_of_block (w := wr.alloc (.cells #[.string ⟨#[109, 111, 114, 101]⟩] 9)) (a := ⟨g2, t.args.length * 7 + 1, none⟩) (HG8.out.block g2 (by simp; omega) (fun e => (HGK.out g2 e.symm).1 rfl)), World.cell?_of_block (w := wr) (a := ⟨g2, t.args.length * 7 + 1, none⟩) (Below.heap_alloc wr _ g2 h1)]
            exact hg2c
          have hl8 : w8.cell? ⟨gl, i, none⟩ = some (.string ⟨#[109, 111, 114, 101]⟩) := by
            have h1 := HO8.out.cells (g := gl) rfl i (.string ⟨#[109, 111, 114, 101]⟩) (by
              rw [List.getElem?_append_right (by simp [strs, HLS.out])]
              simp [strs, HLS.out])
            rw [add_at] at h1
            exact h1
          have HY : Hid (∀ v, Below w8.heap.size w8 v → (v.cell? ⟨w.heap.size, 0, none⟩ = some (.int .i64 t.kind) ∧ v.cell? ⟨w.heap.size, 1, none⟩ = some (.string t.name) ∧ v.cell? ⟨w.heap.size, 2, none⟩ = some (.int .u32 t.num) ∧ v.cell? ⟨w.heap.size, 3, none⟩ = some (.int .i64 t.int_) ∧ v.cell? ⟨w.heap.size, 4, none⟩ = some (.string t.key) ∧ v.cell? ⟨w.heap.size, 5, none⟩ = some (.slice p t.args.length c) ∧ v.cell? ⟨w.heap.size, 6, none⟩ = some (.int .i64 t.at_)) ∧ (v.cell? ⟨G, 0, none⟩ = some (.int .i64 t.kind) ∧ v.cell? ⟨G, 1, none⟩ = some (.string t.name) ∧ v.cell? ⟨G, 2, none⟩ = some (.int .u32 t.num) ∧ v.cell? ⟨G, 3, none⟩ = some (.int .i64 t.int_) ∧ v.cell? ⟨G, 4, none⟩ = some (.string t.key) ∧ v.cell? ⟨G, 5, none⟩ = some (.slice q t.args.length d) ∧ v.cell? ⟨G, 6, none⟩ = some (.int .i64 t.at_)) ∧ v.cell? ⟨A, 5, none⟩ = some (.slice (some ⟨g2, 0, none⟩) (t.args.length + 1) c2) ∧ v.cell? ⟨g2, t.args.length * 7 + 1, none⟩ = some (.string ⟨#[109, 111, 114, 101]⟩) ∧ v.cell? ⟨gl, i, none⟩ = some (.string ⟨#[109, 111, 114, 101]⟩)) := fun v hv => by
            obtain ⟨k1, k2⟩ := HCL.out v (hb8.trans (hv.mono hb8.size))
            exact ⟨k1, k2, (hv.cell (mcell_lt hA8)).trans hA8, (hv.cell (mcell_lt hg8)).trans hg8, (hv.cell (mcell_lt hl8)).trans hl8⟩
          have HV8 : Hid (∀ v, Below w8.heap.size w8 v → Below V.heap.size V v) := fun v hv => hb8.trans (hv.mono hb8.size)
          have i1 : (0 : Int) ≤ (i : Int) := by omega
          have i2 : (i : Int) < (i : Int) + 1 := by omega
          have i3 : IntKind.i64.wrap (i : Int) = (i : Int) := by rw [IntKind.wrap_i64]; omega
          have j1 : (0 : Int) ≤ (t.args.length : Int) := by omega
          have j2 : (t.args.length : Int) < (t.args.length : Int) + 1 := by omega
          have j3 : IntKind.i64.wrap (t.args.length : Int) = (t.args.length : Int) := by rw [IntKind.wrap_i64]; omega
          have HS : Hid (Below w8.heap.size w8 w8.drew) := bel_d _
          obtain ⟨⟨z0, z1, z2, z3, z4, z5, z6⟩, ⟨y0, y1, y2, y3, y4, y5, y6⟩, sA, sg, sl⟩ := HY.out w8 (bel0 w8)
          clear hS0 hA5 hg2c hbv hb8 hA8 hg8 hl8 HO8 HG8 HAC HOW HLS HGK
          refine wp_region_held_drew (S := (fun w' => w'.cell? ⟨w.heap.size, 0, none⟩ = some (.int .i64 t.kind) ∧ w'.cell? ⟨w.heap.size, 1, none⟩ = some (.string t.name) ∧ w'.cell? ⟨w.heap.size, 2, none⟩ = some (.int .u32 t.num) ∧ w'.cell? ⟨w.heap.size, 3, none⟩ = some (.int .i64 t.int_) ∧ w'.cell? ⟨w.heap.size, 4, none⟩ = some (.string t.key) ∧ w'.cell? ⟨w.heap.size, 5, none⟩ = some (.slice p t.args.length c) ∧ w'.cell? ⟨w.heap.size, 6, none⟩ = some (.int .i64 t.at_) ∧ w'.cell? ⟨G, 0, none⟩ = some (.int .i64 t.kind) ∧ w'.cell? ⟨G, 1, none⟩ = some (.string t.name) ∧ w'.cell? ⟨G, 2, none⟩ = some (.int .u32 t.num) ∧ w'.cell? ⟨G, 3, none⟩ = some (.int .i64 t.int_) ∧ w'.cell? ⟨G, 4, none⟩ = some (.string t.key) ∧ w'.cell? ⟨G, 5, none⟩ = some (.slice q t.args.length d) ∧ w'.cell? ⟨G, 6, none⟩ = some (.int .i64 t.at_) ∧ w'.cell? ⟨A, 5, none⟩ = some (.slice (some ⟨g2, 0, none⟩) (t.args.length + 1) c2) ∧ w'.cell? ⟨g2, t.args.length * 7 + 1, none⟩ = some (.string ⟨#[109, 111, 114, 101]⟩) ∧ w'.cell? ⟨gl, i, none⟩ = some (.string ⟨#[109, 111, 114, 101]⟩))) (by kernel_rfl) ?_ (fun hHeld => ?_)
          · ((try dsimp only); go_keep)
          refine wpAnyH_take (i := 0) (v := ?_) (by simp only [List.getElem?_toArray, List.getElem?_cons_succ, List.getElem?_cons_zero]; rfl) (by kernel_rfl) (by kernel_rfl) (by kernel_rfl) (by exact fun _ _ _ h => h) (Or.inl ⟨by rfl, ?_⟩) (by assumption) ?_
          rotate_left 1
          · (intro wS hSw; (try dsimp only at hSw); go_simp; try (with_reducible rfl))
          try simp only [Act.put, List.setIfInBounds_toArray, List.set_cons_zero, List.set_cons_succ]
          refine wpAnyH_take (i := 1) (v := ?_) (by simp only [List.getElem?_toArray, List.getElem?_cons_succ, List.getElem?_cons_zero]; rfl) (by kernel_rfl) (by kernel_rfl) (by kernel_rfl) (by exact fun _ _ _ h => h) (Or.inl ⟨by rfl, ?_⟩) (by assumption) ?_
          rotate_left 1
          · (intro wS hSw; (try dsimp only at hSw); go_simp; try (with_reducible rfl))
          try simp only [Act.put, List.setIfInBounds_toArray, List.set_cons_zero, List.set_cons_succ]
          clear hHeld
          refine wpAnyH_ready (rs := [2]) (by kernel_rfl) (by simp) ?_
          refine AllReadyH.cons (i := 2) (by simp only [List.getElem?_toArray, List.getElem?_cons_succ, List.getElem?_cons_zero]; rfl) (fun K hK => ?_) AllReadyH.nil
          go_simp
          (go_at_call 10; (with_reducible refine (HSm1.out _ (HV8.out _ HS.out)).mono ?_); rintro e v9 ⟨rfl, hs9⟩; have hb9 := bel HS.out hs9.2; clear z0 z1 z2 z3 z4 z5 z6 y0 y1 y2 y3 y4 y5 y6 sA sg sl; obtain ⟨⟨z0, z1, z2, z3, z4, z5, z6⟩, ⟨y0, y1, y2, y3, y4, y5, y6⟩, sA, sg, sl⟩ := HY.out v9 hb9; (try clear HS); have HS : Hid (Below w8.heap.size w8 v9) := hb9; clear hs9 hb9)
          try (go_wp2_with fail)
          refine hK.out _ _ ?_ (fun hHeld => ?_)
          · ((try dsimp only); go_keep)
          clear hK K
          try simp only [Act.put, List.setIfInBounds_toArray, List.set_cons_zero, List.set_cons_succ]
          refine wpAnyH_take (i := 3) (v := ?_) (by simp only [List.getElem?_toArray, List.getElem?_cons_succ, List.getElem?_cons_zero]; rfl) (by kernel_rfl) (by kernel_rfl) (by kernel_rfl) (by exact fun _ _ _ h => h) (Or.inl ⟨by rfl, ?_⟩) (by assumption) ?_
          rotate_left 1
          · (intro wS hSw; (try dsimp only at hSw); go_simp; try (with_reducible rfl))
          try simp only [Act.put, List.setIfInBounds_toArray, List.set_cons_zero, List.set_cons_succ]
          refine wpAnyH_take (i := 4) (v := ?_) (by simp only [List.getElem?_toArray, List.getElem?_cons_succ, List.getElem?_cons_zero]; rfl) (by kernel_rfl) (by kernel_rfl) (by kernel_rfl) (by exact fun _ _ _ h => h) (Or.inl ⟨by rfl, ?_⟩) (by assumption) ?_
          rotate_left 1
          · (intro wS hSw; (try dsimp only at hSw); go_simp; try (with_reducible rfl))
          try simp only [Act.put, List.setIfInBounds_toArray, List.set_cons_zero, List.set_cons_succ]
          refine wpAnyH_take (i := 6) (v := ?_) (by simp only [List.getElem?_toArray, List.getElem?_cons_succ, List.getElem?_cons_zero]; rfl) (by kernel_rfl) (by kernel_rfl) (by kernel_rfl) (by exact fun _ _ _ h => h) (Or.inl ⟨by rfl, ?_⟩) (by assumption) ?_
          rotate_left 1
          · (intro wS hSw; (try dsimp only at hSw); go_simp; try (with_reducible rfl))
          try simp only [Act.put, List.setIfInBounds_toArray, List.set_cons_zero, List.set_cons_succ]
          clear hHeld
          refine wpAnyH_ready (rs := [5]) (by kernel_rfl) (by simp) ?_
          refine AllReadyH.cons (i := 5) (by simp only [List.getElem?_toArray, List.getElem?_cons_succ, List.getElem?_cons_zero]; rfl) (fun K hK => ?_) AllReadyH.nil
          go_simp
          (go_at_call 7; (with_reducible refine (HStr.out _ (HV8.out _ HS.out)).mono ?_); rintro e v9 ⟨q1, d1, lo1, hi1, rfl, hk9, -, -, -, -, hs9⟩; have hb9 := bel HS.out hs9.2; clear z0 z1 z2 z3 z4 z5 z6 y0 y1 y2 y3 y4 y5 y6 sA sg sl; obtain ⟨⟨z0, z1, z2, z3, z4, z5, z6⟩, ⟨y0, y1, y2, y3, y4, y5, y6⟩, sA, sg, sl⟩ := HY.out v9 hb9; (try clear HS); have HS : Hid (Below w8.heap.size w8 v9) := hb9; have HK1 : Hid (Kids v9 anyH (.slice q1 t.args.length d1) (stripL t.args)) := hk9; clear hk9; clear hs9 hb9)
          try (go_wp2_with fail)
          refine hK.out _ _ ?_ (fun hHeld => ?_)
          · ((try dsimp only); go_keep)
          clear hK K
          try simp only [Act.put, List.setIfInBounds_toArray, List.set_cons_zero, List.set_cons_succ]
          clear hHeld
          refine wpAnyH_ready (rs := [7]) (by kernel_rfl) (by simp) ?_
          refine AllReadyH.cons (i := 7) (by simp only [List.getElem?_toArray, List.getElem?_cons_succ, List.getElem?_cons_zero]; rfl) (fun K hK => ?_) AllReadyH.nil
          go_simp
          (go_at_call 11; (with_reducible refine (HRStr.out _ (HV8.out _ HS.out)).mono ?_); rintro e v9 ⟨q2, m2, d2, rfl, hk9, hs9⟩; have hb9 := bel HS.out hs9.2; clear z0 z1 z2 z3 z4 z5 z6 y0 y1 y2 y3 y4 y5 y6 sA sg sl; obtain ⟨⟨z0, z1, z2, z3, z4, z5, z6⟩, ⟨y0, y1, y2, y3, y4, y5, y6⟩, sA, sg, sl⟩ := HY.out v9 hb9; (try clear HS); have HS : Hid (Below w8.heap.size w8 v9) := hb9; have HK2 : Hid (Kids v9 anyH (.slice q2 m2 d2) (stripL t.args)) := hk9; clear hk9; have HK3 : Hid (Kids v9 anyH (.slice q1 t.args.length d1) (stripL t.args)) := HK1.out.below hs9.2; clear HK1; clear hs9 hb9)
          try (go_wp2_with fail)
          refine hK.out _ _ ?_ (fun hHeld => ?_)
          · ((try dsimp only); go_keep)
          clear hK K
          try simp only [Act.put, List.setIfInBounds_toArray, List.set_cons_zero, List.set_cons_succ]
          clear hHeld
          refine wpAnyH_ready (rs := [8]) (by kernel_rfl) (by simp) ?_
          refine AllReadyH.cons (i := 8) (by simp only [List.getElem?_toArray, List.getElem?_cons_succ, List.getElem?_cons_zero]; rfl) (fun K hK => ?_) AllReadyH.nil
          go_simp
          (go_at_call 10; (with_reducible refine (HSm2.out _ _ _ _ _ _ _ (HV8.out _ HS.out) HK3.out HK2.out).mono ?_); rintro e v9 ⟨rfl, hs9⟩; have hb9 := bel HS.out hs9.2; clear z0 z1 z2 z3 z4 z5 z6 y0 y1 y2 y3 y4 y5 y6 sA sg sl; obtain ⟨⟨z0, z1, z2, z3, z4, z5, z6⟩, ⟨y0, y1, y2, y3, y4, y5, y6⟩, sA, sg, sl⟩ := HY.out v9 hb9; (try clear HS); have HS : Hid (Below w8.heap.size w8 v9) := hb9; clear hs9 hb9)
          try (go_wp2_with fail)
          refine hK.out _ _ ?_ (fun hHeld => ?_)
          · ((try dsimp only); go_keep)
          clear hK K
          try simp only [Act.put, List.setIfInBounds_toArray, List.set_cons_zero, List.set_cons_succ]
          refine wpAnyH_take (i := 9) (v := ?_) (by simp only [List.getElem?_toArray, List.getElem?_cons_succ, List.getElem?_cons_zero]; rfl) (by kernel_rfl) (by kernel_rfl) (by kernel_rfl) (by exact fun _ _ _ h => h) (Or.inl ⟨by rfl, ?_⟩) (by assumption) ?_
          rotate_left 1
          · (intro wS hSw; (try dsimp only at hSw); go_simp; try (with_reducible rfl))
          try simp only [Act.put, List.setIfInBounds_toArray, List.set_cons_zero, List.set_cons_succ]
          refine wpAnyH_take (i := 10) (v := ?_) (by simp only [List.getElem?_toArray, List.getElem?_cons_succ, List.getElem?_cons_zero]; rfl) (by kernel_rfl) (by kernel_rfl) (by kernel_rfl) (by exact fun _ _ _ h => h) (Or.inl ⟨by rfl, ?_⟩) (by assumption) ?_
          rotate_left 1
          · (intro wS hSw; (try dsimp only at hSw); go_simp; try (with_reducible rfl))
          try simp only [Act.put, List.setIfInBounds_toArray, List.set_cons_zero, List.set_cons_succ]
          refine wpAnyH_take (i := 11) (v := ?_) (by simp only [List.getElem?_toArray, List.getElem?_cons_succ, List.getElem?_cons_zero]; rfl) (by kernel_rfl) (by kernel_rfl) (by kernel_rfl) (by exact fun _ _ _ h => h) (Or.inl ⟨by rfl, ?_⟩) (by assumption) ?_
          rotate_left 1
          · (intro wS hSw; (try dsimp only at hSw); go_simp; try (with_reducible rfl))
          try simp only [Act.put, List.setIfInBounds_toArray, List.set_cons_zero, List.set_cons_succ]
          refine wpAnyH_take (i := 13) (v := ?_) (by simp only [List.getElem?_toArray, List.getElem?_cons_succ, List.getElem?_cons_zero]; rfl) (by kernel_rfl) (by kernel_rfl) (by kernel_rfl) (by exact fun _ _ _ h => h) (Or.inl ⟨by rfl, ?_⟩) (by assumption) ?_
          rotate_left 1
          · (intro wS hSw; (try dsimp only at hSw); go_simp; try (with_reducible rfl))
          try simp only [Act.put, List.setIfInBounds_toArray, List.set_cons_zero, List.set_cons_succ]
          clear hHeld
          refine wpAnyH_ready (rs := [12]) (by kernel_rfl) (by simp) ?_
          refine AllReadyH.cons (i := 12) (by simp only [List.getElem?_toArray, List.getElem?_cons_succ, List.getElem?_cons_zero]; rfl) (fun K hK => ?_) AllReadyH.nil
          go_simp
          (go_at_call 8; (with_reducible refine (HNm.out _ (HV8.out _ HS.out)).mono ?_); rintro e v9 ⟨y9, B9, rfl, hk9, -, hs9⟩; have hb9 := bel HS.out hs9.2; clear z0 z1 z2 z3 z4 z5 z6 y0 y1 y2 y3 y4 y5 y6 sA sg sl; obtain ⟨⟨z0, z1, z2, z3, z4, z5, z6⟩, ⟨y0, y1, y2, y3, y4, y5, y6⟩, sA, sg, sl⟩ := HY.out v9 hb9; (try clear HS); have HS : Hid (Below w8.heap.size w8 v9) := hb9; have HK1 : Hid (Txt v9 y9 (names t)) := rowS_cell hk9; clear hk9; clear hs9 hb9)
          try (go_wp2_with fail)
          refine hK.out _ _ ?_ (fun hHeld => ?_)
          · ((try dsimp only); go_keep)
          clear hK K
          try simp only [Act.put, List.setIfInBounds_toArray, List.set_cons_zero, List.set_cons_succ]
          clear hHeld
          refine wpAnyH_ready (rs := [14]) (by kernel_rfl) (by simp) ?_
          refine AllReadyH.cons (i := 14) (by simp only [List.getElem?_toArray, List.getElem?_cons_succ, List.getElem?_cons_zero]; rfl) (fun K hK => ?_) AllReadyH.nil
          go_simp
          (go_at_call 13; (with_reducible refine (HRNm.out _ (HV8.out _ HS.out)).mono ?_); rintro e v9 ⟨y8, rfl, hk9, hs9⟩; have hb9 := bel HS.out hs9.2; clear z0 z1 z2 z3 z4 z5 z6 y0 y1 y2 y3 y4 y5 y6 sA sg sl; obtain ⟨⟨z0, z1, z2, z3, z4, z5, z6⟩, ⟨y0, y1, y2, y3, y4, y5, y6⟩, sA, sg, sl⟩ := HY.out v9 hb9; (try clear HS); have HS : Hid (Below w8.heap.size w8 v9) := hb9; have HK2 : Hid (Txt v9 y8 (names t)) := hk9; clear hk9; have HK3 : Hid (Txt v9 y9 (names t)) := HK1.out.below hs9.2; clear HK1; clear hs9 hb9)
          try (go_wp2_with fail)
          refine hK.out _ _ ?_ (fun hHeld => ?_)
          · ((try dsimp only); go_keep)
          clear hK K
          try simp only [Act.put, List.setIfInBounds_toArray, List.set_cons_zero, List.set_cons_succ]
          clear hHeld
          refine wpAnyH_ready (rs := [15]) (by kernel_rfl) (by simp) ?_
          refine AllReadyH.cons (i := 15) (by simp only [List.getElem?_toArray, List.getElem?_cons_succ, List.getElem?_cons_zero]; rfl) (fun K hK => ?_) AllReadyH.nil
          go_simp
          (go_at_call 12; (with_reducible refine (HTx.out _ _ _ (HV8.out _ HS.out) HK3.out HK2.out).mono ?_); rintro e v9 ⟨rfl, hs9⟩; have hb9 := bel HS.out hs9.2; clear z0 z1 z2 z3 z4 z5 z6 y0 y1 y2 y3 y4 y5 y6 sA sg sl; obtain ⟨⟨z0, z1, z2, z3, z4, z5, z6⟩, ⟨y0, y1, y2, y3, y4, y5, y6⟩, sA, sg, sl⟩ := HY.out v9 hb9; (try clear HS); have HS : Hid (Below w8.heap.size w8 v9) := hb9; clear hs9 hb9)
          try (go_wp2_with fail)
          refine hK.out _ _ ?_ (fun hHeld => ?_)
          · ((try dsimp only); go_keep)
          clear hK K
          try simp only [Act.put, List.setIfInBounds_toArray, List.set_cons_zero, List.set_cons_succ]
          refine wpAnyH_take (i := 16) (v := ?_) (by simp only [List.getElem?_toArray, List.getElem?_cons_succ, List.getElem?_cons_zero]; rfl) (by kernel_rfl) (by kernel_rfl) (by kernel_rfl) (by exact fun _ _ _ h => h) (Or.inl ⟨by rfl, ?_⟩) (by assumption) ?_
          rotate_left 1
          · (intro wS hSw; (try dsimp only at hSw); go_simp; try (with_reducible rfl))
          try simp only [Act.put, List.setIfInBounds_toArray, List.set_cons_zero, List.set_cons_succ]
          refine wpAnyH_take (i := 17) (v := ?_) (by simp only [List.getElem?_toArray, List.getElem?_cons_succ, List.getElem?_cons_zero]; rfl) (by kernel_rfl) (by kernel_rfl) (by kernel_rfl) (by exact fun _ _ _ h => h) (Or.inl ⟨by rfl, ?_⟩) (by assumption) ?_
          rotate_left 1
          · (intro wS hSw; (try dsimp only at hSw); go_simp; try (with_reducible rfl))
          try simp only [Act.put, List.setIfInBounds_toArray, List.set_cons_zero, List.set_cons_succ]
          refine wpAnyH_take (i := 18) (v := ?_) (by simp only [List.getElem?_toArray, List.getElem?_cons_succ, List.getElem?_cons_zero]; rfl) (by kernel_rfl) (by kernel_rfl) (by kernel_rfl) (by exact fun _ _ _ h => h) (Or.inl ⟨by rfl, ?_⟩) (by assumption) ?_
          rotate_left 1
          · (intro wS hSw; (try dsimp only at hSw); go_simp; try (with_reducible rfl))
          try simp only [Act.put, List.setIfInBounds_toArray, List.set_cons_zero, List.set_cons_succ]
          refine wpAnyH_take (i := 19) (v := ?_) (by simp only [List.getElem?_toArray, List.getElem?_cons_succ, List.getElem?_cons_zero]; rfl) (by kernel_rfl) (by kernel_rfl) (by kernel_rfl) (by exact fun _ _ _ h => h) (Or.inl ⟨by rfl, ?_⟩) (by assumption) ?_
          rotate_left 1
          · (intro wS hSw; (try dsimp only at hSw); go_simp; try (with_reducible rfl))
          try simp only [Act.put, List.setIfInBounds_toArray, List.set_cons_zero, List.set_cons_succ]
          refine wpAnyH_take (i := 20) (v := ?_) (by simp only [List.getElem?_toArray, List.getElem?_cons_succ, List.getElem?_cons_zero]; rfl) (by kernel_rfl) (by kernel_rfl) (by kernel_rfl) (by exact fun _ _ _ h => h) (Or.inl ⟨by rfl, ?_⟩) (by assumption) ?_
          rotate_left 1
          · (intro wS hSw; (try dsimp only at hSw); go_simp; try (with_reducible rfl))
          try simp only [Act.put, List.setIfInBounds_toArray, List.set_cons_zero, List.set_cons_succ]
          refine wpAnyH_take (i := 21) (v := ?_) (by simp only [List.getElem?_toArray, List.getElem?_cons_succ, List.getElem?_cons_zero]; rfl) (by kernel_rfl) (by kernel_rfl) (by kernel_rfl) (by exact fun _ _ _ h => h) (Or.inl ⟨by rfl, ?_⟩) (by assumption) ?_
          rotate_left 1
          · (intro wS hSw; (try dsimp only at hSw); go_simp; try (with_reducible rfl))
          try simp only [Act.put, List.setIfInBounds_toArray, List.set_cons_zero, List.set_cons_succ]
          refine wpAnyH_take (i := 22) (v := ?_) (by simp only [List.getElem?_toArray, List.getElem?_cons_succ, List.getElem?_cons_zero]; rfl) (by kernel_rfl) (by kernel_rfl) (by kernel_rfl) (by exact fun _ _ _ h => h) (Or.inl ⟨by rfl, ?_⟩) (by assumption) ?_
          rotate_left 1
          · (intro wS hSw; (try dsimp only at hSw); go_simp; try (with_reducible rfl))
          try simp only [Act.put, List.setIfInBounds_toArray, List.set_cons_zero, List.set_cons_succ]
          refine wpAnyH_take (i := 23) (v := ?_) (by simp only [List.getElem?_toArray, List.getElem?_cons_succ, List.getElem?_cons_zero]; rfl) (by kernel_rfl) (by kernel_rfl) (by kernel_rfl) (by exact fun _ _ _ h => h) (Or.inl ⟨by rfl, ?_⟩) (by assumption) ?_
          rotate_left 1
          · (intro wS hSw; (try dsimp only at hSw); go_simp; try (with_reducible rfl))
          try simp only [Act.put, List.setIfInBounds_toArray, List.set_cons_zero, List.set_cons_succ]
          refine wpAnyH_take (i := 24) (v := ?_) (by simp only [List.getElem?_toArray, List.getElem?_cons_succ, List.getElem?_cons_zero]; rfl) (by kernel_rfl) (by kernel_rfl) (by kernel_rfl) (by exact fun _ _ _ h => h) (Or.inl ⟨by rfl, ?_⟩) (by assumption) ?_
          rotate_left 1
          · (intro wS hSw; (try dsimp only at hSw); go_simp; try (with_reducible rfl))
          try simp only [Act.put, List.setIfInBounds_toArray, List.set_cons_zero, List.set_cons_succ]
          refine wpAnyH_take (i := 25) (v := ?_) (by simp only [List.getElem?_toArray, List.getElem?_cons_succ, List.getElem?_cons_zero]; rfl) (by kernel_rfl) (by kernel_rfl) (by kernel_rfl) (by exact fun _ _ _ h => h) (Or.inl ⟨by rfl, ?_⟩) (by assumption) ?_
          rotate_left 1
          · (intro wS hSw; (try dsimp only at hSw); go_simp; try (with_reducible rfl))
          try simp only [Act.put, List.setIfInBounds_toArray, List.set_cons_zero, List.set_cons_succ]
          refine wpAnyH_take (i := 26) (v := ?_) (by simp only [List.getElem?_toArray, List.getElem?_cons_succ, List.getElem?_cons_zero]; rfl) (by kernel_rfl) (by kernel_rfl) (by kernel_rfl) (by exact fun _ _ _ h => h) (Or.inl ⟨by rfl, ?_⟩) (by assumption) ?_
          rotate_left 1
          · (intro wS hSw; (try dsimp only at hSw); go_simp; try (with_reducible rfl))
          try simp only [Act.put, List.setIfInBounds_toArray, List.set_cons_zero, List.set_cons_succ]
          refine wpAnyH_take (i := 27) (v := ?_) (by simp only [List.getElem?_toArray, List.getElem?_cons_succ, List.getElem?_cons_zero]; rfl) (by kernel_rfl) (by kernel_rfl) (by kernel_rfl) (by exact fun _ _ _ h => h) (Or.inl ⟨by rfl, ?_⟩) (by assumption) ?_
          rotate_left 1
          · (intro wS hSw; (try dsimp only at hSw); go_simp; try (with_reducible rfl))
          try simp only [Act.put, List.setIfInBounds_toArray, List.set_cons_zero, List.set_cons_succ]
          refine wpAnyH_take (i := 28) (v := ?_) (by simp only [List.getElem?_toArray, List.getElem?_cons_succ, List.getElem?_cons_zero]; rfl) (by kernel_rfl) (by kernel_rfl) (by kernel_rfl) (by exact fun _ _ _ h => h) (Or.inl ⟨by rfl, ?_⟩) (by assumption) ?_
          rotate_left 1
          · (intro wS hSw; (try dsimp only at hSw); go_simp; try (with_reducible rfl))
          try simp only [Act.put, List.setIfInBounds_toArray, List.set_cons_zero, List.set_cons_succ]
          refine wpAnyH_take (i := 29) (v := ?_) (by simp only [List.getElem?_toArray, List.getElem?_cons_succ, List.getElem?_cons_zero]; rfl) (by kernel_rfl) (by kernel_rfl) (by kernel_rfl) (by exact fun _ _ _ h => h) (Or.inl ⟨by rfl, ?_⟩) (by assumption) ?_
          rotate_left 1
          · (intro wS hSw; (try dsimp only at hSw); go_simp; try (with_reducible rfl))
          try simp only [Act.put, List.setIfInBounds_toArray, List.set_cons_zero, List.set_cons_succ]
          refine wpAnyH_take (i := 30) (v := ?_) (by simp only [List.getElem?_toArray, List.getElem?_cons_succ, List.getElem?_cons_zero]; rfl) (by kernel_rfl) (by kernel_rfl) (by kernel_rfl) (by exact fun _ _ _ h => h) (Or.inl ⟨by rfl, ?_⟩) (by assumption) ?_
          rotate_left 1
          · (intro wS hSw; (try dsimp only at hSw); go_simp; try (with_reducible rfl))
          try simp only [Act.put, List.setIfInBounds_toArray, List.set_cons_zero, List.set_cons_succ]
          refine wpAnyH_take (i := 31) (v := ?_) (by simp only [List.getElem?_toArray, List.getElem?_cons_succ, List.getElem?_cons_zero]; rfl) (by kernel_rfl) (by kernel_rfl) (by kernel_rfl) (by exact fun _ _ _ h => h) (Or.inl ⟨by rfl, ?_⟩) (by assumption) ?_
          rotate_left 1
          · (intro wS hSw; (try dsimp only at hSw); go_simp; try (with_reducible rfl))
          try simp only [Act.put, List.setIfInBounds_toArray, List.set_cons_zero, List.set_cons_succ]
          refine wpAnyH_take (i := 32) (v := ?_) (by simp only [List.getElem?_toArray, List.getElem?_cons_succ, List.getElem?_cons_zero]; rfl) (by kernel_rfl) (by kernel_rfl) (by kernel_rfl) (by exact fun _ _ _ h => h) (Or.inl ⟨by rfl, ?_⟩) (by assumption) ?_
          rotate_left 1
          · (intro wS hSw; (try dsimp only at hSw); go_simp; try (with_reducible rfl))
          try simp only [Act.put, List.setIfInBounds_toArray, List.set_cons_zero, List.set_cons_succ]
          refine wpAnyH_take (i := 33) (v := ?_) (by simp only [List.getElem?_toArray, List.getElem?_cons_succ, List.getElem?_cons_zero]; rfl) (by kernel_rfl) (by kernel_rfl) (by kernel_rfl) (by exact fun _ _ _ h => h) (Or.inl ⟨by rfl, ?_⟩) (by assumption) ?_
          rotate_left 1
          · (intro wS hSw; (try dsimp only at hSw); go_simp; try (with_reducible rfl))
          try simp only [Act.put, List.setIfInBounds_toArray, List.set_cons_zero, List.set_cons_succ]
          refine wpAnyH_take (i := 34) (v := ?_) (by simp only [List.getElem?_toArray, List.getElem?_cons_succ, List.getElem?_cons_zero]; rfl) (by kernel_rfl) (by kernel_rfl) (by kernel_rfl) (by exact fun _ _ _ h => h) (Or.inl ⟨by rfl, ?_⟩) (by assumption) ?_
          rotate_left 1
          · (intro wS hSw; (try dsimp only at hSw); go_simp; try (with_reducible rfl))
          try simp only [Act.put, List.setIfInBounds_toArray, List.set_cons_zero, List.set_cons_succ]
          refine wpAnyH_take (i := 35) (v := ?_) (by simp only [List.getElem?_toArray, List.getElem?_cons_succ, List.getElem?_cons_zero]; rfl) (by kernel_rfl) (by kernel_rfl) (by kernel_rfl) (by exact fun _ _ _ h => h) (Or.inl ⟨by rfl, ?_⟩) (by assumption) ?_
          rotate_left 1
          · (intro wS hSw; (try dsimp only at hSw); go_simp; try (with_reducible rfl))
          try simp only [Act.put, List.setIfInBounds_toArray, List.set_cons_zero, List.set_cons_succ]
          refine wpAnyH_take (i := 36) (v := ?_) (by simp only [List.getElem?_toArray, List.getElem?_cons_succ, List.getElem?_cons_zero]; rfl) (by kernel_rfl) (by kernel_rfl) (by kernel_rfl) (by exact fun _ _ _ h => h) (Or.inl ⟨by rfl, ?_⟩) (by assumption) ?_
          rotate_left 1
          · (intro wS hSw; (try dsimp only at hSw); go_simp; try (with_reducible rfl))
          try simp only [Act.put, List.setIfInBounds_toArray, List.set_cons_zero, List.set_cons_succ]
          refine wpAnyH_take (i := 37) (v := ?_) (by simp only [List.getElem?_toArray, List.getElem?_cons_succ, List.getElem?_cons_zero]; rfl) (by kernel_rfl) (by kernel_rfl) (by kernel_rfl) (by exact fun _ _ _ h => h) (Or.inl ⟨by rfl, ?_⟩) (by assumption) ?_
          rotate_left 1
          · (intro wS hSw; (try dsimp only at hSw); go_simp; try (with_reducible rfl))
          try simp only [Act.put, List.setIfInBounds_toArray, List.set_cons_zero, List.set_cons_succ]
          refine wpAnyH_take (i := 38) (v := ?_) (by simp only [List.getElem?_toArray, List.getElem?_cons_succ, List.getElem?_cons_zero]; rfl) (by kernel_rfl) (by kernel_rfl) (by kernel_rfl) (by exact fun _ _ _ h => h) (Or.inl ⟨by rfl, ?_⟩) (by assumption) ?_
          rotate_left 1
          · (intro wS hSw; (try dsimp only at hSw); go_simp; try (with_reducible rfl))
          try simp only [Act.put, List.setIfInBounds_toArray, List.set_cons_zero, List.set_cons_succ]
          clear hHeld
          refine wpAnyH_ready (rs := [39]) (by kernel_rfl) (by simp) ?_
          refine AllReadyH.cons (i := 39) (by simp only [List.getElem?_toArray, List.getElem?_cons_succ, List.getElem?_cons_zero]; rfl) (fun K hK => ?_) AllReadyH.nil
          go_simp
          (go_at_call 5; (with_reducible refine (HSu.out _ (HV8.out _ HS.out)).mono ?_); rintro e v9 ⟨rfl, hs9⟩; have hb9 := bel HS.out hs9.2; clear z0 z1 z2 z3 z4 z5 z6 y0 y1 y2 y3 y4 y5 y6 sA sg sl; obtain ⟨⟨z0, z1, z2, z3, z4, z5, z6⟩, ⟨y0, y1, y2, y3, y4, y5, y6⟩, sA, sg, sl⟩ := HY.out v9 hb9; (try clear HS); have HS : Hid (Below w8.heap.size w8 v9) := hb9; clear hs9 hb9)
          try (go_wp2_with fail)
          refine hK.out _ _ ?_ (fun hHeld => ?_)
          · ((try dsimp only); go_keep)
          clear hK K
          try simp only [Act.put, List.setIfInBounds_toArray, List.set_cons_zero, List.set_cons_succ]
          refine wpAnyH_take (i := 40) (v := ?_) (by simp only [List.getElem?_toArray, List.getElem?_cons_succ, List.getElem?_cons_zero]; rfl) (by kernel_rfl) (by kernel_rfl) (by kernel_rfl) (by exact fun _ _ _ h => h) (Or.inl ⟨by rfl, ?_⟩) (by assumption) ?_
          rotate_left 1
          · (intro wS hSw; (try dsimp only at hSw); go_simp; try (with_reducible rfl))
          try simp only [Act.put, List.setIfInBounds_toArray, List.set_cons_zero, List.set_cons_succ]
          refine wpAnyH_take (i := 41) (v := ?_) (by simp only [List.getElem?_toArray, List.getElem?_cons_succ, List.getElem?_cons_zero]; rfl) (by kernel_rfl) (by kernel_rfl) (by kernel_rfl) (by exact fun _ _ _ h => h) (Or.inl ⟨by rfl, ?_⟩) (by assumption) ?_
          rotate_left 1
          · (intro wS hSw; (try dsimp only at hSw); go_simp; try (with_reducible rfl))
          try simp only [Act.put, List.setIfInBounds_toArray, List.set_cons_zero, List.set_cons_succ]
          refine wpAnyH_done (by kernel_rfl) ?_ _
          skip
          go_wp2
          go_ret
          exact ⟨rfl, HBW.out.trans ((HV8.out _ HS.out).mono HBW.out.size)⟩
    refine AllReadyH.cons (i := 4) (by simp only [List.getElem?_toArray, List.getElem?_cons_succ, List.getElem?_cons_zero]; rfl) (fun K hK => ?_) AllReadyH.nil
    go_simp
    refine hK.out _ _ ?_ (fun hHeld => ?_)
    · ((try dsimp only); go_keep)
    clear hK K
    try simp only [Act.put, List.setIfInBounds_toArray, List.set_cons_zero, List.set_cons_succ]
    clear hHeld
    refine wpAnyH_ready (rs := [3]) (by kernel_rfl) (by simp) ?_
    refine AllReadyH.cons (i := 3) (by simp only [List.getElem?_toArray, List.getElem?_cons_succ, List.getElem?_cons_zero]; rfl) (fun K hK => ?_) AllReadyH.nil
    go_simp
    (go_at_call 8; (with_reducible refine (HNm.out _ (bel HSP.out.2.2.2 (bel_alloc w5 (.cells #[.int .i64 0, .string ⟨#[]⟩, .int .u32 0, .int .i64 0, .string ⟨#[]⟩, .slice none 0 0, .int .i64 0] 26)))).mono ?_); rintro e w6 ⟨lv, B, rfl, hown, hB, hs6⟩)
    have HL6 : Hid (OwnS w6 B lv (names t) ∧ w5.heap.size ≤ B ∧ Below V.heap.size V w6 ∧ Below w5.heap.size w5 w6) := ⟨hown, (by first | exact hB | (have h9 := hB; simp at h9; omega)), hs6.1, bel (bel_alloc w5 _) hs6.2⟩
    have hA6 : w6.heap[w5.heap.size]? = some (.cells #[.int .i64 0, .string ⟨#[]⟩, .int .u32 0, .int .i64 0, .string ⟨#[]⟩, .slice none 0 0, .int .i64 0] 26) := (by rw [hs6.2.block w5.heap.size (by simp)]; exact box_heap w5 _)
    have HB6 : Hid (w5.heap.size + 1 ≤ B) := (by have := hB; simp at this; exact this)
    obtain ⟨⟨r0, r1, r2, r3, r4, r5, r6⟩, f0, f1, f2, f3, f4, f5, f6⟩ := seven hA6
    have HA6 : Hid (w6.heap[w5.heap.size]? = some (.cells #[.int .i64 0, .string ⟨#[]⟩, .int .u32 0, .int .i64 0, .string ⟨#[]⟩, .slice none 0 0, .int .i64 0] 26)) := hA6
    clear hA6
    clear y0 y1 y2 y3 y4 y5 y6; obtain ⟨-, ⟨y0, y1, y2, y3, y4, y5, y6⟩⟩ := HCL.out w6 hs6.1
    have hG6 : ¬ (w6.heap.size = G) := (by have := hs6.1.size; omega)
    have hG6' : ¬ (G = w6.heap.size) := fun e => hG6 e.symm
    clear hown hB hs6
    try (go_wp2_with fail)
    refine hK.out _ _ ?_ (fun hHeld => ?_)
    · ((try dsimp only); go_keep)
    clear hK K
    try simp only [Act.put, List.setIfInBounds_toArray, List.set_cons_zero, List.set_cons_succ]
    clear hHeld
    refine wpAnyH_ready (rs := [5]) (by kernel_rfl) (by simp) ?_
    refine AllReadyH.cons (i := 5) (by simp only [List.getElem?_toArray, List.getElem?_cons_succ, List.getElem?_cons_zero]; rfl) (fun K hK => ?_) AllReadyH.nil
    go_simp
    refine hK.out _ _ ?_ (fun hHeld => ?_)
    · ((try dsimp only); go_keep)
    clear hK K
    try simp only [Act.put, List.setIfInBounds_toArray, List.set_cons_zero, List.set_cons_succ]
    refine wpAnyH_take (i := 6) (v := ?_) (by simp only [List.getElem?_toArray, List.getElem?_cons_succ, List.getElem?_cons_zero]; rfl) (by kernel_rfl) (by kernel_rfl) (by kernel_rfl) (by exact fun _ _ _ h => h) (Or.inl ⟨by rfl, ?_⟩) (by assumption) ?_
    rotate_left 1
    · (intro wS hSw; (try dsimp only at hSw); go_simp; try (with_reducible rfl))
    try simp only [Act.put, List.setIfInBounds_toArray, List.set_cons_zero, List.set_cons_succ]
    refine wpAnyH_done (by kernel_rfl) ?_ _
    go_upto_region 5 with (fail)
    obtain ⟨S0, hS0⟩ : ∃ S0, S0 = V.heap.size := ⟨_, rfl⟩
    have HS0 : Hid (S0 = V.heap.size) := hS0
    obtain ⟨hsp, hhi, hlh, hb5⟩ := HSP.out
    obtain ⟨how, hB5, hb6, hb56⟩ := HL6.out
    have hlo := HLO.out
    have hs5 := hb5.size
    have hs6 := hb6.size
    have hs56 := hb56.size
    have hB6 := HB6.out
    have hoff : Off w5.heap.size w6 (((((((w6.setCell ⟨w5.heap.size, 0, none⟩ (.int .i64 t.kind)).setCell ⟨w5.heap.size, 1, none⟩ (.string t.name)).setCell ⟨w5.heap.size, 2, none⟩ (.int .u32 t.num)).setCell ⟨w5.heap.size, 3, none⟩ (.int .i64 t.int_)).setCell ⟨w5.heap.size, 4, none⟩ (.string t.key)).setCell ⟨w5.heap.size, 5, none⟩ (.slice qs t.args.length ds)).setCell ⟨w5.heap.size, 6, none⟩ (.int .i64 0)) := (((((((Off.refl (w5.heap.size) w6).set 0 (.int .i64 t.kind)).set 1 (.string t.name)).set 2 (.int .u32 t.num)).set 3 (.int .i64 t.int_)).set 4 (.string t.key)).set 5 (.slice qs t.args.length ds)).set 6 (.int .i64 0)
    have hXA : (((((((w6.setCell ⟨w5.heap.size, 0, none⟩ (.int .i64 t.kind)).setCell ⟨w5.heap.size, 1, none⟩ (.string t.name)).setCell ⟨w5.heap.size, 2, none⟩ (.int .u32 t.num)).setCell ⟨w5.heap.size, 3, none⟩ (.int .i64 t.int_)).setCell ⟨w5.heap.size, 4, none⟩ (.string t.key)).setCell ⟨w5.heap.size, 5, none⟩ (.slice qs t.args.length ds)).setCell ⟨w5.heap.size, 6, none⟩ (.int .i64 0)).heap[w5.heap.size]? = some (.cells #[.int .i64 t.kind, .string t.name, .int .u32 t.num, .int .i64 t.int_, .string t.key, .slice qs t.args.length ds, .int .i64 0] 26) := put_all HA6.out _ _ _ _ _ _ _
    have hXB : Below V.heap.size V (((((((w6.setCell ⟨w5.heap.size, 0, none⟩ (.int .i64 t.kind)).setCell ⟨w5.heap.size, 1, none⟩ (.string t.name)).setCell ⟨w5.heap.size, 2, none⟩ (.int .u32 t.num)).setCell ⟨w5.heap.size, 3, none⟩ (.int .i64 t.int_)).setCell ⟨w5.heap.size, 4, none⟩ (.string t.key)).setCell ⟨w5.heap.size, 5, none⟩ (.slice qs t.args.length ds)).setCell ⟨w5.heap.size, 6, none⟩ (.int .i64 0)) := hoff.below hb6 (by omega)
    have hXS : Sp (((((((w6.setCell ⟨w5.heap.size, 0, none⟩ (.int .i64 t.kind)).setCell ⟨w5.heap.size, 1, none⟩ (.string t.name)).setCell ⟨w5.heap.size, 2, none⟩ (.int .u32 t.num)).setCell ⟨w5.heap.size, 3, none⟩ (.int .i64 t.int_)).setCell ⟨w5.heap.size, 4, none⟩ (.string t.key)).setCell ⟨w5.heap.size, 5, none⟩ (.slice qs t.args.length ds)).setCell ⟨w5.heap.size, 6, none⟩ (.int .i64 0)) (.slice qs t.args.length ds) t.args lo hi := Sp_keep hsp fun k k1 k2 => by rw [hoff.2.2.2.2 k (by omega)]; exact hb56.block k (by omega)
    have hXO : OwnS (((((((w6.setCell ⟨w5.heap.size, 0, none⟩ (.int .i64 t.kind)).setCell ⟨w5.heap.size, 1, none⟩ (.string t.name)).setCell ⟨w5.heap.size, 2, none⟩ (.int .u32 t.num)).setCell ⟨w5.heap.size, 3, none⟩ (.int .i64 t.int_)).setCell ⟨w5.heap.size, 4, none⟩ (.string t.key)).setCell ⟨w5.heap.size, 5, none⟩ (.slice qs t.args.length ds)).setCell ⟨w5.heap.size, 6, none⟩ (.int .i64 0)) B lv (names t) := how.offb hoff (by omega)
    have hXs : (((((((w6.setCell ⟨w5.heap.size, 0, none⟩ (.int .i64 t.kind)).setCell ⟨w5.heap.size, 1, none⟩ (.string t.name)).setCell ⟨w5.heap.size, 2, none⟩ (.int .u32 t.num)).setCell ⟨w5.heap.size, 3, none⟩ (.int .i64 t.int_)).setCell ⟨w5.heap.size, 4, none⟩ (.string t.key)).setCell ⟨w5.heap.size, 5, none⟩ (.slice qs t.args.length ds)).setCell ⟨w5.heap.size, 6, none⟩ (.int .i64 0)).heap.size = w6.heap.size := hoff.2.2.2.1
    have hlk : ∀ k, lv.ownBlock = some k → hi ≤ k ∧ k ≠ w5.heap.size ∧ k < (((((((w6.setCell ⟨w5.heap.size, 0, none⟩ (.int .i64 t.kind)).setCell ⟨w5.heap.size, 1, none⟩ (.string t.name)).setCell ⟨w5.heap.size, 2, none⟩ (.int .u32 t.num)).setCell ⟨w5.heap.size, 3, none⟩ (.int .i64 t.int_)).setCell ⟨w5.heap.size, 4, none⟩ (.string t.key)).setCell ⟨w5.heap.size, 5, none⟩ (.slice qs t.args.length ds)).setCell ⟨w5.heap.size, 6, none⟩ (.int .i64 0)).heap.size ∧ S0 ≤ k := fun k hk => by have := how.lt k hk; rw [hXs]; omega
    have hAn : ¬ (lo ≤ w5.heap.size ∧ w5.heap.size < hi) := by omega
    clear hoff
    have hXh : hi ≤ (((((((w6.setCell ⟨w5.heap.size, 0, none⟩ (.int .i64 t.kind)).setCell ⟨w5.heap.size, 1, none⟩ (.string t.name)).setCell ⟨w5.heap.size, 2, none⟩ (.int .u32 t.num)).setCell ⟨w5.heap.size, 3, none⟩ (.int .i64 t.int_)).setCell ⟨w5.heap.size, 4, none⟩ (.string t.key)).setCell ⟨w5.heap.size, 5, none⟩ (.slice qs t.args.length ds)).setCell ⟨w5.heap.size, 6, none⟩ (.int .i64 0)).heap.size := by rw [hXs]; omega
    have hAV : S0 ≤ w5.heap.size := by omega
    have hloV : S0 ≤ lo := by omega
    clear hS0 hXs hsp how hb5 hb6 hb56
    obtain ⟨X, hX⟩ : ∃ X, (((((((w6.setCell ⟨w5.heap.size, 0, none⟩ (.int .i64 t.kind)).setCell ⟨w5.heap.size, 1, none⟩ (.string t.name)).setCell ⟨w5.heap.size, 2, none⟩ (.int .u32 t.num)).setCell ⟨w5.heap.size, 3, none⟩ (.int .i64 t.int_)).setCell ⟨w5.heap.size, 4, none⟩ (.string t.key)).setCell ⟨w5.heap.size, 5, none⟩ (.slice qs t.args.length ds)).setCell ⟨w5.heap.size, 6, none⟩ (.int .i64 0)) = X := ⟨_, rfl⟩
    rw [hX] at hXA hXB hXS hXO hlk hXh
    rw [hX]
    obtain ⟨A, hA⟩ : ∃ A, w5.heap.size = A := ⟨_, rfl⟩
    rw [hA] at hXA hlk hAn hAV
    rw [hA]
    clear hX hA
    obtain ⟨hok, hc⟩ := HOK.out
    have HSpo : Hid (Calls Try.prog 9 #[.pointer (some ⟨A, 0, none⟩)] X fun e v' => (∃ r, e = .returned r) ∧ Chg X v' A 0 lo hi ∧ Left7 v' A 0 t.args.length lo hi X.heap.size) := spo_to (dep t) t A 0 lo hi (.slice qs t.args.length ds) X (Nat.le_refl _) hc ⟨_, hXA, (by show 0 + 7 ≤ 7; omega)⟩ hAn hlh hXh ⟨t.name, cell_heap hXA 1⟩ (cell_heap hXA 5) hXS
    have HXB : Hid (Below V.heap.size V X) := hXB
    have HXO : Hid (OwnS X B lv (names t)) := hXO
    have HLK : Hid (∀ k, lv.ownBlock = some k → hi ≤ k ∧ k ≠ A ∧ k < X.heap.size ∧ S0 ≤ k) := hlk
    have HNUM : Hid ((S0 ≤ A ∧ S0 ≤ lo) ∧ V.heap.size ≤ X.heap.size ∧ A < X.heap.size) := ⟨⟨hAV, hloV⟩, hXB.size, hlt hXA⟩
    clear hok hc hXA hXB hXS hXO hlk hAn hXh hAV hloV y0 y1 y2 y3 y4 y5 y6 HSP HL6 HLO
    go_upto_region 6 with (go_at_call 9; (with_reducible refine HSpo.out.mono ?_); rintro e w7 ⟨⟨rv, rfl⟩, hch, hleft⟩)
    have hS0 := HS0.out
    obtain ⟨⟨nA, nlo⟩, nX, nAX⟩ := HNUM.out
    have hb7 : Below V.heap.size V w7 := HXB.out.trans (hch.below (by omega) (by omega) nX)
    obtain ⟨g2, c2, hl1, hl2, hl3⟩ := hleft
    have hl1' : w7.cell? ⟨A, 5, none⟩ = some (.slice (some ⟨g2, 0, none⟩) (t.args.length + 1) c2) := hl1
    have hO7 : OwnS w7 B lv (names t) := HXO.out.other fun k hk => by
      have h1 := HLK.out k hk
      exact hch.block k h1.2.2.1 h1.2.1 (by omega)
    have hg2k : ∀ k, lv.ownBlock = some k → k ≠ g2 ∧ k ≠ A ∧ S0 ≤ k := fun k hk => by
      have h1 := HLK.out k hk
      omega
    obtain ⟨pl, cl, hlv, -⟩ := rowS_cell hO7
    obtain ⟨nn, hnn⟩ : ∃ nn, (names t).length = nn := ⟨_, rfl⟩
    rw [hnn] at hlv
    subst hlv
    have hn9 : nn ≤ 9000 := by have h1 := names_le t; have h2 := HOK.out.2; omega
    have H7 : Hid ((w7.cell? ⟨A, 5, none⟩ = some (.slice (some ⟨g2, 0, none⟩) (t.args.length + 1) c2) ∧ w7.cell? ⟨g2, t.args.length * 7 + 1, none⟩ = some (.string ⟨#[109, 111, 114, 101]⟩)) ∧ Below V.heap.size V w7 ∧ ∃ ls : List ByteArray, ls.length = nn ∧ OwnS w7 0 (.slice pl nn cl) ls) := ⟨⟨hl1', hl2⟩, hb7, names t, hnn, hO7.mono (Nat.zero_le _)⟩
    have HGK : Hid (∀ k, Value.ownBlock (.slice pl nn cl) = some k → k ≠ g2 ∧ k ≠ A ∧ S0 ≤ k) := hg2k
    obtain ⟨i0, hi0, hz0, hz1, hz2⟩ := info_parts info_string
    clear hch hl1 hl1' hl2 hl3 hb7 hO7 hg2k hnn hS0 nA nlo nX nAX HSpo HXB HXO HLK HNUM
    go_wp2
    go_loopw [6] (fun iv wr => ∃ i : Nat, i ≤ nn ∧ iv = .int .i64 i ∧ Hid ((wr.cell? ⟨A, 5, none⟩ = some (.slice (some ⟨g2, 0, none⟩) (t.args.length + 1) c2) ∧ wr.cell? ⟨g2, t.args.length * 7 + 1, none⟩ = some (.string ⟨#[109, 111, 114, 101]⟩)) ∧ Below V.heap.size V wr ∧ ∃ ls : List ByteArray, ls.length = nn ∧ OwnS wr 0 (.slice pl nn cl) ls)) (fun iv _ => nn - (intOf iv).toNat)
    case atStart => exact ⟨0, Nat.zero_le _, rfl, H7.out⟩
    case round =>
      obtain ⟨i, hi, rfl, hS⟩ := hrel
      clear H7
      obtain ⟨⟨hA5, hg2c⟩, hbv, ls, hls, hown⟩ := hS.out
      by_cases hlt0 : i < nn
      · rcases hown.2 with ⟨e, h0⟩ | ⟨g, cap, cur, e, hB, hg, k1, k2, k3, k4⟩
        · exfalso; simp only [Value.slice.injEq] at e; omega
        · simp only [Value.slice.injEq] at e
          obtain ⟨rfl, -, rfl⟩ := e
          have hgk := HGK.out g rfl
          obtain ⟨u, hu⟩ : ∃ u, cur[i]? = some u := ⟨_, Array.getElem?_eq_getElem (by omega)⟩
          obtain ⟨x0, x1⟩ := at_cell hg i hu
          have i1 : (0 : Int) ≤ (i : Int) := by omega
          have i2 : (i : Int) < (nn : Int) := by omega
          have hS0 := HS0.out
          have HN : Hid (((wr.setCell ⟨g, i, none⟩ (.string ⟨#[115, 112, 111, 105, 108, 116]⟩)).cell? ⟨A, 5, none⟩ = some (.slice (some ⟨g2, 0, none⟩) (t.args.length + 1) c2) ∧ (wr.setCell ⟨g, i, none⟩ (.string ⟨#[115, 112, 111, 105, 108, 116]⟩)).cell? ⟨g2, t.args.length * 7 + 1, none⟩ = some (.string ⟨#[109, 111, 114, 101]⟩)) ∧ Below V.heap.size V (wr.setCell ⟨g, i, none⟩ (.string ⟨#[115, 112, 111, 105, 108, 116]⟩)) ∧ ∃ ls : List ByteArray, ls.length = nn ∧ OwnS (wr.setCell ⟨g, i, none⟩ (.string ⟨#[115, 112, 111, 105, 108, 116]⟩)) 0 (.slice (some ⟨g, 0, none⟩) nn cl) ls) := by
            have ho := (Off.refl g wr).set i (.string ⟨#[115, 112, 111, 105, 108, 116]⟩)
            refine ⟨⟨?_, ?_⟩, ho.below hbv (by omega), ls.set i _, by rw [List.length_set]; exact hls, hown.put hls hlt0 _⟩
            · rw [World.cell?_of_block (w := wr) (a := ⟨A, 5, none⟩) (ho.2.2.2.2 A (by omega))]; exact hA5
            · rw [World.cell?_of_block (w := wr) (a := ⟨g2, t.args.length * 7 + 1, none⟩) (ho.2.2.2.2 g2 (by omega))]; exact hg2c
          clear hown hS hA5 hg2c hbv hB hg k1 k2 k3 k4 hgk hu hS0
          go_wp2
          go_roundw
          case rel => exact ⟨i + 1, by omega, by go_num, HN.out⟩
          case measure => simp [intOf]; omega
      · have : i = nn := by omega
        subst this
        have HOW : Hid (wr.ownsRow 0 9 1 (.slice pl i cl) i (strs ls)) := by
          have h1 := hown
          unfold OwnS at h1
          rw [hls] at h1
          exact h1
        have HLS : Hid (ls.length = i) := hls
        have HAC : Hid ((wr.cell? ⟨A, 5, none⟩ = some (.slice (some ⟨g2, 0, none⟩) (t.args.length + 1) c2) ∧ wr.cell? ⟨g2, t.args.length * 7 + 1, none⟩ = some (.string ⟨#[109, 111, 114, 101]⟩)) ∧ Below V.heap.size V wr) := ⟨⟨hA5, hg2c⟩, hbv⟩
        clear hown hls hA5 hg2c hbv hS
        go_upto_region 11 with (at_builtin; refine wpList_append_lies _ rfl _ _ 30 rfl 0 9 i0 _ 1 16 Try.underlying30 hi0 hz0 hz1 hz2 rfl (by decide) (.slice pl i cl) i (strs ls) rfl (World.ownsRow.alloc HOW.out _) ⟨wr.heap.size, 0, none⟩ 1 1 [.string ⟨#[109, 111, 114, 101]⟩] rfl rfl (World.news_of_block (cs := #[.string ⟨#[109, 111, 114, 101]⟩]) (t := 9) (fr := (0, 0)) (box_heap wr _)) (by simp [Value.oneCell']) (by decide) (by unfold maxLen; omega) (by omega) (Nat.zero_le _) (wr.heap.size + 1) (by simp) ?_; intro gl cap8 w8 hown8 hgrow hat hlt8; have HO8 : Hid (w8.ownsRow 0 9 1 (.slice (some ⟨gl, 0, none⟩) (i + 1) cap8) (i + 1) (strs ls ++ [.string ⟨#[109, 111, 114, 101]⟩])) := hown8; have HG8 : Hid ((wr.alloc (.cells #[.string ⟨#[109, 111, 114, 101]⟩] 9)).grownBy w8 (Value.ownBlock (.slice pl i cl))) := hgrow; clear hown8 hgrow hat hlt8)
        have hS0 := HS0.out
        obtain ⟨⟨hA5, hg2c⟩, hbv⟩ := HAC.out
        have hb8 : Below V.heap.size V w8 := Below.grown (hbv.trans ((bel_alloc wr _).mono hbv.size)) HG8.out (by have := hbv.size; simp; omega) (fun k hk => by have := (HGK.out k hk).2.2; omega)
        have hA8 : w8.cell? ⟨A, 5, none⟩ = some (.slice (some ⟨g2, 0, none⟩) (t.args.length + 1) c2) := by
          have h1 : A < wr.heap.size := mcell_lt hA5
          rw [World.cell?_of_block (w := wr.alloc (.cells #[.string ⟨#[109, 111, 114, 101]⟩] 9)) (a := ⟨A, 5, none⟩) (HG8.out.block A (by simp; omega) (fun e => (HGK.out A e.symm).2.1 rfl)), World.cell?_of_block (w := wr) (a := ⟨A, 5, none⟩) (Below.heap_alloc wr _ A h1)]
          exact hA5
        have hg8 : w8.cell? ⟨g2, t.args.length * 7 + 1, none⟩ = some (.string ⟨#[109, 111, 114, 101]⟩) := by
          have h1 : g2 < wr.heap.size := mcell_lt hg2c
          rw [World.cell?_of_block (w := wr.alloc (.cells #[.string ⟨#[109, 111, 114, 101]⟩] 9)) (a := ⟨g2, t.args.length * 7 + 1, none⟩) (HG8.out.block g2 (by simp; omega) (fun e => (HGK.out g2 e.symm).1 rfl)), World.cell?_of_block (w := wr) (a := ⟨g2, t.args.length * 7 + 1, none⟩) (Below.heap_alloc wr _ g2 h1)]
          exact hg2c
        have hl8 : w8.cell? ⟨gl, i, none⟩ = some (.string ⟨#[109, 111, 114, 101]⟩) := by
          have h1 := HO8.out.cells (g := gl) rfl i (.string ⟨#[109, 111, 114, 101]⟩) (by
            rw [List.getElem?_append_right (by simp [strs, HLS.out])]
            simp [strs, HLS.out])
          rw [add_at] at h1
          exact h1
        have HY : Hid (∀ v, Below w8.heap.size w8 v → (v.cell? ⟨w.heap.size, 0, none⟩ = some (.int .i64 t.kind) ∧ v.cell? ⟨w.heap.size, 1, none⟩ = some (.string t.name) ∧ v.cell? ⟨w.heap.size, 2, none⟩ = some (.int .u32 t.num) ∧ v.cell? ⟨w.heap.size, 3, none⟩ = some (.int .i64 t.int_) ∧ v.cell? ⟨w.heap.size, 4, none⟩ = some (.string t.key) ∧ v.cell? ⟨w.heap.size, 5, none⟩ = some (.slice p t.args.length c) ∧ v.cell? ⟨w.heap.size, 6, none⟩ = some (.int .i64 t.at_)) ∧ (v.cell? ⟨G, 0, none⟩ = some (.int .i64 t.kind) ∧ v.cell? ⟨G, 1, none⟩ = some (.string t.name) ∧ v.cell? ⟨G, 2, none⟩ = some (.int .u32 t.num) ∧ v.cell? ⟨G, 3, none⟩ = some (.int .i64 t.int_) ∧ v.cell? ⟨G, 4, none⟩ = some (.string t.key) ∧ v.cell? ⟨G, 5, none⟩ = some (.slice q t.args.length d) ∧ v.cell? ⟨G, 6, none⟩ = some (.int .i64 t.at_)) ∧ v.cell? ⟨A, 5, none⟩ = some (.slice (some ⟨g2, 0, none⟩) (t.args.length + 1) c2) ∧ v.cell? ⟨g2, t.args.length * 7 + 1, none⟩ = some (.string ⟨#[109, 111, 114, 101]⟩) ∧ v.cell? ⟨gl, i, none⟩ = some (.string ⟨#[109, 111, 114, 101]⟩)) := fun v hv => by
          obtain ⟨k1, k2⟩ := HCL.out v (hb8.trans (hv.mono hb8.size))
          exact ⟨k1, k2, (hv.cell (mcell_lt hA8)).trans hA8, (hv.cell (mcell_lt hg8)).trans hg8, (hv.cell (mcell_lt hl8)).trans hl8⟩
        have HV8 : Hid (∀ v, Below w8.heap.size w8 v → Below V.heap.size V v) := fun v hv => hb8.trans (hv.mono hb8.size)
        have i1 : (0 : Int) ≤ (i : Int) := by omega
        have i2 : (i : Int) < (i : Int) + 1 := by omega
        have i3 : IntKind.i64.wrap (i : Int) = (i : Int) := by rw [IntKind.wrap_i64]; omega
        have j1 : (0 : Int) ≤ (t.args.length : Int) := by omega
        have j2 : (t.args.length : Int) < (t.args.length : Int) + 1 := by omega
        have j3 : IntKind.i64.wrap (t.args.length : Int) = (t.args.length : Int) := by rw [IntKind.wrap_i64]; omega
        have HS : Hid (Below w8.heap.size w8 w8.drew) := bel_d _
        obtain ⟨⟨z0, z1, z2, z3, z4, z5, z6⟩, ⟨y0, y1, y2, y3, y4, y5, y6⟩, sA, sg, sl⟩ := HY.out w8 (bel0 w8)
        clear hS0 hA5 hg2c hbv hb8 hA8 hg8 hl8 HO8 HG8 HAC HOW HLS HGK
        refine wp_region_held_drew (S := (fun w' => w'.cell? ⟨w.heap.size, 0, none⟩ = some (.int .i64 t.kind) ∧ w'.cell? ⟨w.heap.size, 1, none⟩ = some (.string t.name) ∧ w'.cell? ⟨w.heap.size, 2, none⟩ = some (.int .u32 t.num) ∧ w'.cell? ⟨w.heap.size, 3, none⟩ = some (.int .i64 t.int_) ∧ w'.cell? ⟨w.heap.size, 4, none⟩ = some (.string t.key) ∧ w'.cell? ⟨w.heap.size, 5, none⟩ = some (.slice p t.args.length c) ∧ w'.cell? ⟨w.heap.size, 6, none⟩ = some (.int .i64 t.at_) ∧ w'.cell? ⟨G, 0, none⟩ = some (.int .i64 t.kind) ∧ w'.cell? ⟨G, 1, none⟩ = some (.string t.name) ∧ w'.cell? ⟨G, 2, none⟩ = some (.int .u32 t.num) ∧ w'.cell? ⟨G, 3, none⟩ = some (.int .i64 t.int_) ∧ w'.cell? ⟨G, 4, none⟩ = some (.string t.key) ∧ w'.cell? ⟨G, 5, none⟩ = some (.slice q t.args.length d) ∧ w'.cell? ⟨G, 6, none⟩ = some (.int .i64 t.at_) ∧ w'.cell? ⟨A, 5, none⟩ = some (.slice (some ⟨g2, 0, none⟩) (t.args.length + 1) c2) ∧ w'.cell? ⟨g2, t.args.length * 7 + 1, none⟩ = some (.string ⟨#[109, 111, 114, 101]⟩) ∧ w'.cell? ⟨gl, i, none⟩ = some (.string ⟨#[109, 111, 114, 101]⟩))) (by kernel_rfl) ?_ (fun hHeld => ?_)
        · ((try dsimp only); go_keep)
        refine wpAnyH_take (i := 0) (v := ?_) (by simp only [List.getElem?_toArray, List.getElem?_cons_succ, List.getElem?_cons_zero]; rfl) (by kernel_rfl) (by kernel_rfl) (by kernel_rfl) (by exact fun _ _ _ h => h) (Or.inl ⟨by rfl, ?_⟩) (by assumption) ?_
        rotate_left 1
        · (intro wS hSw; (try dsimp only at hSw); go_simp; try (with_reducible rfl))
        try simp only [Act.put, List.setIfInBounds_toArray, List.set_cons_zero, List.set_cons_succ]
        refine wpAnyH_take (i := 1) (v := ?_) (by simp only [List.getElem?_toArray, List.getElem?_cons_succ, List.getElem?_cons_zero]; rfl) (by kernel_rfl) (by kernel_rfl) (by kernel_rfl) (by exact fun _ _ _ h => h) (Or.inl ⟨by rfl, ?_⟩) (by assumption) ?_
        rotate_left 1
        · (intro wS hSw; (try dsimp only at hSw); go_simp; try (with_reducible rfl))
        try simp only [Act.put, List.setIfInBounds_toArray, List.set_cons_zero, List.set_cons_succ]
        clear hHeld
        refine wpAnyH_ready (rs := [2]) (by kernel_rfl) (by simp) ?_
        refine AllReadyH.cons (i := 2) (by simp only [List.getElem?_toArray, List.getElem?_cons_succ, List.getElem?_cons_zero]; rfl) (fun K hK => ?_) AllReadyH.nil
        go_simp
        (go_at_call 10; (with_reducible refine (HSm1.out _ (HV8.out _ HS.out)).mono ?_); rintro e v9 ⟨rfl, hs9⟩; have hb9 := bel HS.out hs9.2; clear z0 z1 z2 z3 z4 z5 z6 y0 y1 y2 y3 y4 y5 y6 sA sg sl; obtain ⟨⟨z0, z1, z2, z3, z4, z5, z6⟩, ⟨y0, y1, y2, y3, y4, y5, y6⟩, sA, sg, sl⟩ := HY.out v9 hb9; (try clear HS); have HS : Hid (Below w8.heap.size w8 v9) := hb9; clear hs9 hb9)
        try (go_wp2_with fail)
        refine hK.out _ _ ?_ (fun hHeld => ?_)
        · ((try dsimp only); go_keep)
        clear hK K
        try simp only [Act.put, List.setIfInBounds_toArray, List.set_cons_zero, List.set_cons_succ]
        refine wpAnyH_take (i := 3) (v := ?_) (by simp only [List.getElem?_toArray, List.getElem?_cons_succ, List.getElem?_cons_zero]; rfl) (by kernel_rfl) (by kernel_rfl) (by kernel_rfl) (by exact fun _ _ _ h => h) (Or.inl ⟨by rfl, ?_⟩) (by assumption) ?_
        rotate_left 1
        · (intro wS hSw; (try dsimp only at hSw); go_simp; try (with_reducible rfl))
        try simp only [Act.put, List.setIfInBounds_toArray, List.set_cons_zero, List.set_cons_succ]
        refine wpAnyH_take (i := 4) (v := ?_) (by simp only [List.getElem?_toArray, List.getElem?_cons_succ, List.getElem?_cons_zero]; rfl) (by kernel_rfl) (by kernel_rfl) (by kernel_rfl) (by exact fun _ _ _ h => h) (Or.inl ⟨by rfl, ?_⟩) (by assumption) ?_
        rotate_left 1
        · (intro wS hSw; (try dsimp only at hSw); go_simp; try (with_reducible rfl))
        try simp only [Act.put, List.setIfInBounds_toArray, List.set_cons_zero, List.set_cons_succ]
        refine wpAnyH_take (i := 6) (v := ?_) (by simp only [List.getElem?_toArray, List.getElem?_cons_succ, List.getElem?_cons_zero]; rfl) (by kernel_rfl) (by kernel_rfl) (by kernel_rfl) (by exact fun _ _ _ h => h) (Or.inl ⟨by rfl, ?_⟩) (by assumption) ?_
        rotate_left 1
        · (intro wS hSw; (try dsimp only at hSw); go_simp; try (with_reducible rfl))
        try simp only [Act.put, List.setIfInBounds_toArray, List.set_cons_zero, List.set_cons_succ]
        clear hHeld
        refine wpAnyH_ready (rs := [5]) (by kernel_rfl) (by simp) ?_
        refine AllReadyH.cons (i := 5) (by simp only [List.getElem?_toArray, List.getElem?_cons_succ, List.getElem?_cons_zero]; rfl) (fun K hK => ?_) AllReadyH.nil
        go_simp
        (go_at_call 7; (with_reducible refine (HStr.out _ (HV8.out _ HS.out)).mono ?_); rintro e v9 ⟨q1, d1, lo1, hi1, rfl, hk9, -, -, -, -, hs9⟩; have hb9 := bel HS.out hs9.2; clear z0 z1 z2 z3 z4 z5 z6 y0 y1 y2 y3 y4 y5 y6 sA sg sl; obtain ⟨⟨z0, z1, z2, z3, z4, z5, z6⟩, ⟨y0, y1, y2, y3, y4, y5, y6⟩, sA, sg, sl⟩ := HY.out v9 hb9; (try clear HS); have HS : Hid (Below w8.heap.size w8 v9) := hb9; have HK1 : Hid (Kids v9 anyH (.slice q1 t.args.length d1) (stripL t.args)) := hk9; clear hk9; clear hs9 hb9)
        try (go_wp2_with fail)
        refine hK.out _ _ ?_ (fun hHeld => ?_)
        · ((try dsimp only); go_keep)
        clear hK K
        try simp only [Act.put, List.setIfInBounds_toArray, List.set_cons_zero, List.set_cons_succ]
        clear hHeld
        refine wpAnyH_ready (rs := [7]) (by kernel_rfl) (by simp) ?_
        refine AllReadyH.cons (i := 7) (by simp only [List.getElem?_toArray, List.getElem?_cons_succ, List.getElem?_cons_zero]; rfl) (fun K hK => ?_) AllReadyH.nil
        go_simp
        (go_at_call 11; (with_reducible refine (HRStr.out _ (HV8.out _ HS.out)).mono ?_); rintro e v9 ⟨q2, m2, d2, rfl, hk9, hs9⟩; have hb9 := bel HS.out hs9.2; clear z0 z1 z2 z3 z4 z5 z6 y0 y1 y2 y3 y4 y5 y6 sA sg sl; obtain ⟨⟨z0, z1, z2, z3, z4, z5, z6⟩, ⟨y0, y1, y2, y3, y4, y5, y6⟩, sA, sg, sl⟩ := HY.out v9 hb9; (try clear HS); have HS : Hid (Below w8.heap.size w8 v9) := hb9; have HK2 : Hid (Kids v9 anyH (.slice q2 m2 d2) (stripL t.args)) := hk9; clear hk9; have HK3 : Hid (Kids v9 anyH (.slice q1 t.args.length d1) (stripL t.args)) := HK1.out.below hs9.2; clear HK1; clear hs9 hb9)
        try (go_wp2_with fail)
        refine hK.out _ _ ?_ (fun hHeld => ?_)
        · ((try dsimp only); go_keep)
        clear hK K
        try simp only [Act.put, List.setIfInBounds_toArray, List.set_cons_zero, List.set_cons_succ]
        clear hHeld
        refine wpAnyH_ready (rs := [8]) (by kernel_rfl) (by simp) ?_
        refine AllReadyH.cons (i := 8) (by simp only [List.getElem?_toArray, List.getElem?_cons_succ, List.getElem?_cons_zero]; rfl) (fun K hK => ?_) AllReadyH.nil
        go_simp
        (go_at_call 10; (with_reducible refine (HSm2.out _ _ _ _ _ _ _ (HV8.out _ HS.out) HK3.out HK2.out).mono ?_); rintro e v9 ⟨rfl, hs9⟩; have hb9 := bel HS.out hs9.2; clear z0 z1 z2 z3 z4 z5 z6 y0 y1 y2 y3 y4 y5 y6 sA sg sl; obtain ⟨⟨z0, z1, z2, z3, z4, z5, z6⟩, ⟨y0, y1, y2, y3, y4, y5, y6⟩, sA, sg, sl⟩ := HY.out v9 hb9; (try clear HS); have HS : Hid (Below w8.heap.size w8 v9) := hb9; clear hs9 hb9)
        try (go_wp2_with fail)
        refine hK.out _ _ ?_ (fun hHeld => ?_)
        · ((try dsimp only); go_keep)
        clear hK K
        try simp only [Act.put, List.setIfInBounds_toArray, List.set_cons_zero, List.set_cons_succ]
        refine wpAnyH_take (i := 9) (v := ?_) (by simp only [List.getElem?_toArray, List.getElem?_cons_succ, List.getElem?_cons_zero]; rfl) (by kernel_rfl) (by kernel_rfl) (by kernel_rfl) (by exact fun _ _ _ h => h) (Or.inl ⟨by rfl, ?_⟩) (by assumption) ?_
        rotate_left 1
        · (intro wS hSw; (try dsimp only at hSw); go_simp; try (with_reducible rfl))
        try simp only [Act.put, List.setIfInBounds_toArray, List.set_cons_zero, List.set_cons_succ]
        refine wpAnyH_take (i := 10) (v := ?_) (by simp only [List.getElem?_toArray, List.getElem?_cons_succ, List.getElem?_cons_zero]; rfl) (by kernel_rfl) (by kernel_rfl) (by kernel_rfl) (by exact fun _ _ _ h => h) (Or.inl ⟨by rfl, ?_⟩) (by assumption) ?_
        rotate_left 1
        · (intro wS hSw; (try dsimp only at hSw); go_simp; try (with_reducible rfl))
        try simp only [Act.put, List.setIfInBounds_toArray, List.set_cons_zero, List.set_cons_succ]
        refine wpAnyH_take (i := 11) (v := ?_) (by simp only [List.getElem?_toArray, List.getElem?_cons_succ, List.getElem?_cons_zero]; rfl) (by kernel_rfl) (by kernel_rfl) (by kernel_rfl) (by exact fun _ _ _ h => h) (Or.inl ⟨by rfl, ?_⟩) (by assumption) ?_
        rotate_left 1
        · (intro wS hSw; (try dsimp only at hSw); go_simp; try (with_reducible rfl))
        try simp only [Act.put, List.setIfInBounds_toArray, List.set_cons_zero, List.set_cons_succ]
        refine wpAnyH_take (i := 13) (v := ?_) (by simp only [List.getElem?_toArray, List.getElem?_cons_succ, List.getElem?_cons_zero]; rfl) (by kernel_rfl) (by kernel_rfl) (by kernel_rfl) (by exact fun _ _ _ h => h) (Or.inl ⟨by rfl, ?_⟩) (by assumption) ?_
        rotate_left 1
        · (intro wS hSw; (try dsimp only at hSw); go_simp; try (with_reducible rfl))
        try simp only [Act.put, List.setIfInBounds_toArray, List.set_cons_zero, List.set_cons_succ]
        clear hHeld
        refine wpAnyH_ready (rs := [12]) (by kernel_rfl) (by simp) ?_
        refine AllReadyH.cons (i := 12) (by simp only [List.getElem?_toArray, List.getElem?_cons_succ, List.getElem?_cons_zero]; rfl) (fun K hK => ?_) AllReadyH.nil
        go_simp
        (go_at_call 8; (with_reducible refine (HNm.out _ (HV8.out _ HS.out)).mono ?_); rintro e v9 ⟨y9, B9, rfl, hk9, -, hs9⟩; have hb9 := bel HS.out hs9.2; clear z0 z1 z2 z3 z4 z5 z6 y0 y1 y2 y3 y4 y5 y6 sA sg sl; obtain ⟨⟨z0, z1, z2, z3, z4, z5, z6⟩, ⟨y0, y1, y2, y3, y4, y5, y6⟩, sA, sg, sl⟩ := HY.out v9 hb9; (try clear HS); have HS : Hid (Below w8.heap.size w8 v9) := hb9; have HK1 : Hid (Txt v9 y9 (names t)) := rowS_cell hk9; clear hk9; clear hs9 hb9)
        try (go_wp2_with fail)
        refine hK.out _ _ ?_ (fun hHeld => ?_)
        · ((try dsimp only); go_keep)
        clear hK K
        try simp only [Act.put, List.setIfInBounds_toArray, List.set_cons_zero, List.set_cons_succ]
        clear hHeld
        refine wpAnyH_ready (rs := [14]) (by kernel_rfl) (by simp) ?_
        refine AllReadyH.cons (i := 14) (by simp only [List.getElem?_toArray, List.getElem?_cons_succ, List.getElem?_cons_zero]; rfl) (fun K hK => ?_) AllReadyH.nil
        go_simp
        (go_at_call 13; (with_reducible refine (HRNm.out _ (HV8.out _ HS.out)).mono ?_); rintro e v9 ⟨y8, rfl, hk9, hs9⟩; have hb9 := bel HS.out hs9.2; clear z0 z1 z2 z3 z4 z5 z6 y0 y1 y2 y3 y4 y5 y6 sA sg sl; obtain ⟨⟨z0, z1, z2, z3, z4, z5, z6⟩, ⟨y0, y1, y2, y3, y4, y5, y6⟩, sA, sg, sl⟩ := HY.out v9 hb9; (try clear HS); have HS : Hid (Below w8.heap.size w8 v9) := hb9; have HK2 : Hid (Txt v9 y8 (names t)) := hk9; clear hk9; have HK3 : Hid (Txt v9 y9 (names t)) := HK1.out.below hs9.2; clear HK1; clear hs9 hb9)
        try (go_wp2_with fail)
        refine hK.out _ _ ?_ (fun hHeld => ?_)
        · ((try dsimp only); go_keep)
        clear hK K
        try simp only [Act.put, List.setIfInBounds_toArray, List.set_cons_zero, List.set_cons_succ]
        clear hHeld
        refine wpAnyH_ready (rs := [15]) (by kernel_rfl) (by simp) ?_
        refine AllReadyH.cons (i := 15) (by simp only [List.getElem?_toArray, List.getElem?_cons_succ, List.getElem?_cons_zero]; rfl) (fun K hK => ?_) AllReadyH.nil
        go_simp
        (go_at_call 12; (with_reducible refine (HTx.out _ _ _ (HV8.out _ HS.out) HK3.out HK2.out).mono ?_); rintro e v9 ⟨rfl, hs9⟩; have hb9 := bel HS.out hs9.2; clear z0 z1 z2 z3 z4 z5 z6 y0 y1 y2 y3 y4 y5 y6 sA sg sl; obtain ⟨⟨z0, z1, z2, z3, z4, z5, z6⟩, ⟨y0, y1, y2, y3, y4, y5, y6⟩, sA, sg, sl⟩ := HY.out v9 hb9; (try clear HS); have HS : Hid (Below w8.heap.size w8 v9) := hb9; clear hs9 hb9)
        try (go_wp2_with fail)
        refine hK.out _ _ ?_ (fun hHeld => ?_)
        · ((try dsimp only); go_keep)
        clear hK K
        try simp only [Act.put, List.setIfInBounds_toArray, List.set_cons_zero, List.set_cons_succ]
        refine wpAnyH_take (i := 16) (v := ?_) (by simp only [List.getElem?_toArray, List.getElem?_cons_succ, List.getElem?_cons_zero]; rfl) (by kernel_rfl) (by kernel_rfl) (by kernel_rfl) (by exact fun _ _ _ h => h) (Or.inl ⟨by rfl, ?_⟩) (by assumption) ?_
        rotate_left 1
        · (intro wS hSw; (try dsimp only at hSw); go_simp; try (with_reducible rfl))
        try simp only [Act.put, List.setIfInBounds_toArray, List.set_cons_zero, List.set_cons_succ]
        refine wpAnyH_take (i := 17) (v := ?_) (by simp only [List.getElem?_toArray, List.getElem?_cons_succ, List.getElem?_cons_zero]; rfl) (by kernel_rfl) (by kernel_rfl) (by kernel_rfl) (by exact fun _ _ _ h => h) (Or.inl ⟨by rfl, ?_⟩) (by assumption) ?_
        rotate_left 1
        · (intro wS hSw; (try dsimp only at hSw); go_simp; try (with_reducible rfl))
        try simp only [Act.put, List.setIfInBounds_toArray, List.set_cons_zero, List.set_cons_succ]
        refine wpAnyH_take (i := 18) (v := ?_) (by simp only [List.getElem?_toArray, List.getElem?_cons_succ, List.getElem?_cons_zero]; rfl) (by kernel_rfl) (by kernel_rfl) (by kernel_rfl) (by exact fun _ _ _ h => h) (Or.inl ⟨by rfl, ?_⟩) (by assumption) ?_
        rotate_left 1
        · (intro wS hSw; (try dsimp only at hSw); go_simp; try (with_reducible rfl))
        try simp only [Act.put, List.setIfInBounds_toArray, List.set_cons_zero, List.set_cons_succ]
        refine wpAnyH_take (i := 19) (v := ?_) (by simp only [List.getElem?_toArray, List.getElem?_cons_succ, List.getElem?_cons_zero]; rfl) (by kernel_rfl) (by kernel_rfl) (by kernel_rfl) (by exact fun _ _ _ h => h) (Or.inl ⟨by rfl, ?_⟩) (by assumption) ?_
        rotate_left 1
        · (intro wS hSw; (try dsimp only at hSw); go_simp; try (with_reducible rfl))
        try simp only [Act.put, List.setIfInBounds_toArray, List.set_cons_zero, List.set_cons_succ]
        refine wpAnyH_take (i := 20) (v := ?_) (by simp only [List.getElem?_toArray, List.getElem?_cons_succ, List.getElem?_cons_zero]; rfl) (by kernel_rfl) (by kernel_rfl) (by kernel_rfl) (by exact fun _ _ _ h => h) (Or.inl ⟨by rfl, ?_⟩) (by assumption) ?_
        rotate_left 1
        · (intro wS hSw; (try dsimp only at hSw); go_simp; try (with_reducible rfl))
        try simp only [Act.put, List.setIfInBounds_toArray, List.set_cons_zero, List.set_cons_succ]
        refine wpAnyH_take (i := 21) (v := ?_) (by simp only [List.getElem?_toArray, List.getElem?_cons_succ, List.getElem?_cons_zero]; rfl) (by kernel_rfl) (by kernel_rfl) (by kernel_rfl) (by exact fun _ _ _ h => h) (Or.inl ⟨by rfl, ?_⟩) (by assumption) ?_
        rotate_left 1
        · (intro wS hSw; (try dsimp only at hSw); go_simp; try (with_reducible rfl))
        try simp only [Act.put, List.setIfInBounds_toArray, List.set_cons_zero, List.set_cons_succ]
        refine wpAnyH_take (i := 22) (v := ?_) (by simp only [List.getElem?_toArray, List.getElem?_cons_succ, List.getElem?_cons_zero]; rfl) (by kernel_rfl) (by kernel_rfl) (by kernel_rfl) (by exact fun _ _ _ h => h) (Or.inl ⟨by rfl, ?_⟩) (by assumption) ?_
        rotate_left 1
        · (intro wS hSw; (try dsimp only at hSw); go_simp; try (with_reducible rfl))
        try simp only [Act.put, List.setIfInBounds_toArray, List.set_cons_zero, List.set_cons_succ]
        refine wpAnyH_take (i := 23) (v := ?_) (by simp only [List.getElem?_toArray, List.getElem?_cons_succ, List.getElem?_cons_zero]; rfl) (by kernel_rfl) (by kernel_rfl) (by kernel_rfl) (by exact fun _ _ _ h => h) (Or.inl ⟨by rfl, ?_⟩) (by assumption) ?_
        rotate_left 1
        · (intro wS hSw; (try dsimp only at hSw); go_simp; try (with_reducible rfl))
        try simp only [Act.put, List.setIfInBounds_toArray, List.set_cons_zero, List.set_cons_succ]
        refine wpAnyH_take (i := 24) (v := ?_) (by simp only [List.getElem?_toArray, List.getElem?_cons_succ, List.getElem?_cons_zero]; rfl) (by kernel_rfl) (by kernel_rfl) (by kernel_rfl) (by exact fun _ _ _ h => h) (Or.inl ⟨by rfl, ?_⟩) (by assumption) ?_
        rotate_left 1
        · (intro wS hSw; (try dsimp only at hSw); go_simp; try (with_reducible rfl))
        try simp only [Act.put, List.setIfInBounds_toArray, List.set_cons_zero, List.set_cons_succ]
        refine wpAnyH_take (i := 25) (v := ?_) (by simp only [List.getElem?_toArray, List.getElem?_cons_succ, List.getElem?_cons_zero]; rfl) (by kernel_rfl) (by kernel_rfl) (by kernel_rfl) (by exact fun _ _ _ h => h) (Or.inl ⟨by rfl, ?_⟩) (by assumption) ?_
        rotate_left 1
        · (intro wS hSw; (try dsimp only at hSw); go_simp; try (with_reducible rfl))
        try simp only [Act.put, List.setIfInBounds_toArray, List.set_cons_zero, List.set_cons_succ]
        refine wpAnyH_take (i := 26) (v := ?_) (by simp only [List.getElem?_toArray, List.getElem?_cons_succ, List.getElem?_cons_zero]; rfl) (by kernel_rfl) (by kernel_rfl) (by kernel_rfl) (by exact fun _ _ _ h => h) (Or.inl ⟨by rfl, ?_⟩) (by assumption) ?_
        rotate_left 1
        · (intro wS hSw; (try dsimp only at hSw); go_simp; try (with_reducible rfl))
        try simp only [Act.put, List.setIfInBounds_toArray, List.set_cons_zero, List.set_cons_succ]
        refine wpAnyH_take (i := 27) (v := ?_) (by simp only [List.getElem?_toArray, List.getElem?_cons_succ, List.getElem?_cons_zero]; rfl) (by kernel_rfl) (by kernel_rfl) (by kernel_rfl) (by exact fun _ _ _ h => h) (Or.inl ⟨by rfl, ?_⟩) (by assumption) ?_
        rotate_left 1
        · (intro wS hSw; (try dsimp only at hSw); go_simp; try (with_reducible rfl))
        try simp only [Act.put, List.setIfInBounds_toArray, List.set_cons_zero, List.set_cons_succ]
        refine wpAnyH_take (i := 28) (v := ?_) (by simp only [List.getElem?_toArray, List.getElem?_cons_succ, List.getElem?_cons_zero]; rfl) (by kernel_rfl) (by kernel_rfl) (by kernel_rfl) (by exact fun _ _ _ h => h) (Or.inl ⟨by rfl, ?_⟩) (by assumption) ?_
        rotate_left 1
        · (intro wS hSw; (try dsimp only at hSw); go_simp; try (with_reducible rfl))
        try simp only [Act.put, List.setIfInBounds_toArray, List.set_cons_zero, List.set_cons_succ]
        refine wpAnyH_take (i := 29) (v := ?_) (by simp only [List.getElem?_toArray, List.getElem?_cons_succ, List.getElem?_cons_zero]; rfl) (by kernel_rfl) (by kernel_rfl) (by kernel_rfl) (by exact fun _ _ _ h => h) (Or.inl ⟨by rfl, ?_⟩) (by assumption) ?_
        rotate_left 1
        · (intro wS hSw; (try dsimp only at hSw); go_simp; try (with_reducible rfl))
        try simp only [Act.put, List.setIfInBounds_toArray, List.set_cons_zero, List.set_cons_succ]
        refine wpAnyH_take (i := 30) (v := ?_) (by simp only [List.getElem?_toArray, List.getElem?_cons_succ, List.getElem?_cons_zero]; rfl) (by kernel_rfl) (by kernel_rfl) (by kernel_rfl) (by exact fun _ _ _ h => h) (Or.inl ⟨by rfl, ?_⟩) (by assumption) ?_
        rotate_left 1
        · (intro wS hSw; (try dsimp only at hSw); go_simp; try (with_reducible rfl))
        try simp only [Act.put, List.setIfInBounds_toArray, List.set_cons_zero, List.set_cons_succ]
        refine wpAnyH_take (i := 31) (v := ?_) (by simp only [List.getElem?_toArray, List.getElem?_cons_succ, List.getElem?_cons_zero]; rfl) (by kernel_rfl) (by kernel_rfl) (by kernel_rfl) (by exact fun _ _ _ h => h) (Or.inl ⟨by rfl, ?_⟩) (by assumption) ?_
        rotate_left 1
        · (intro wS hSw; (try dsimp only at hSw); go_simp; try (with_reducible rfl))
        try simp only [Act.put, List.setIfInBounds_toArray, List.set_cons_zero, List.set_cons_succ]
        refine wpAnyH_take (i := 32) (v := ?_) (by simp only [List.getElem?_toArray, List.getElem?_cons_succ, List.getElem?_cons_zero]; rfl) (by kernel_rfl) (by kernel_rfl) (by kernel_rfl) (by exact fun _ _ _ h => h) (Or.inl ⟨by rfl, ?_⟩) (by assumption) ?_
        rotate_left 1
        · (intro wS hSw; (try dsimp only at hSw); go_simp; try (with_reducible rfl))
        try simp only [Act.put, List.setIfInBounds_toArray, List.set_cons_zero, List.set_cons_succ]
        refine wpAnyH_take (i := 33) (v := ?_) (by simp only [List.getElem?_toArray, List.getElem?_cons_succ, List.getElem?_cons_zero]; rfl) (by kernel_rfl) (by kernel_rfl) (by kernel_rfl) (by exact fun _ _ _ h => h) (Or.inl ⟨by rfl, ?_⟩) (by assumption) ?_
        rotate_left 1
        · (intro wS hSw; (try dsimp only at hSw); go_simp; try (with_reducible rfl))
        try simp only [Act.put, List.setIfInBounds_toArray, List.set_cons_zero, List.set_cons_succ]
        refine wpAnyH_take (i := 34) (v := ?_) (by simp only [List.getElem?_toArray, List.getElem?_cons_succ, List.getElem?_cons_zero]; rfl) (by kernel_rfl) (by kernel_rfl) (by kernel_rfl) (by exact fun _ _ _ h => h) (Or.inl ⟨by rfl, ?_⟩) (by assumption) ?_
        rotate_left 1
        · (intro wS hSw; (try dsimp only at hSw); go_simp; try (with_reducible rfl))
        try simp only [Act.put, List.setIfInBounds_toArray, List.set_cons_zero, List.set_cons_succ]
        refine wpAnyH_take (i := 35) (v := ?_) (by simp only [List.getElem?_toArray, List.getElem?_cons_succ, List.getElem?_cons_zero]; rfl) (by kernel_rfl) (by kernel_rfl) (by kernel_rfl) (by exact fun _ _ _ h => h) (Or.inl ⟨by rfl, ?_⟩) (by assumption) ?_
        rotate_left 1
        · (intro wS hSw; (try dsimp only at hSw); go_simp; try (with_reducible rfl))
        try simp only [Act.put, List.setIfInBounds_toArray, List.set_cons_zero, List.set_cons_succ]
        refine wpAnyH_take (i := 36) (v := ?_) (by simp only [List.getElem?_toArray, List.getElem?_cons_succ, List.getElem?_cons_zero]; rfl) (by kernel_rfl) (by kernel_rfl) (by kernel_rfl) (by exact fun _ _ _ h => h) (Or.inl ⟨by rfl, ?_⟩) (by assumption) ?_
        rotate_left 1
        · (intro wS hSw; (try dsimp only at hSw); go_simp; try (with_reducible rfl))
        try simp only [Act.put, List.setIfInBounds_toArray, List.set_cons_zero, List.set_cons_succ]
        refine wpAnyH_take (i := 37) (v := ?_) (by simp only [List.getElem?_toArray, List.getElem?_cons_succ, List.getElem?_cons_zero]; rfl) (by kernel_rfl) (by kernel_rfl) (by kernel_rfl) (by exact fun _ _ _ h => h) (Or.inl ⟨by rfl, ?_⟩) (by assumption) ?_
        rotate_left 1
        · (intro wS hSw; (try dsimp only at hSw); go_simp; try (with_reducible rfl))
        try simp only [Act.put, List.setIfInBounds_toArray, List.set_cons_zero, List.set_cons_succ]
        refine wpAnyH_take (i := 38) (v := ?_) (by simp only [List.getElem?_toArray, List.getElem?_cons_succ, List.getElem?_cons_zero]; rfl) (by kernel_rfl) (by kernel_rfl) (by kernel_rfl) (by exact fun _ _ _ h => h) (Or.inl ⟨by rfl, ?_⟩) (by assumption) ?_
        rotate_left 1
        · (intro wS hSw; (try dsimp only at hSw); go_simp; try (with_reducible rfl))
        try simp only [Act.put, List.setIfInBounds_toArray, List.set_cons_zero, List.set_cons_succ]
        clear hHeld
        refine wpAnyH_ready (rs := [39]) (by kernel_rfl) (by simp) ?_
        refine AllReadyH.cons (i := 39) (by simp only [List.getElem?_toArray, List.getElem?_cons_succ, List.getElem?_cons_zero]; rfl) (fun K hK => ?_) AllReadyH.nil
        go_simp
        (go_at_call 5; (with_reducible refine (HSu.out _ (HV8.out _ HS.out)).mono ?_); rintro e v9 ⟨rfl, hs9⟩; have hb9 := bel HS.out hs9.2; clear z0 z1 z2 z3 z4 z5 z6 y0 y1 y2 y3 y4 y5 y6 sA sg sl; obtain ⟨⟨z0, z1, z2, z3, z4, z5, z6⟩, ⟨y0, y1, y2, y3, y4, y5, y6⟩, sA, sg, sl⟩ := HY.out v9 hb9; (try clear HS); have HS : Hid (Below w8.heap.size w8 v9) := hb9; clear hs9 hb9)
        try (go_wp2_with fail)
        refine hK.out _ _ ?_ (fun hHeld => ?_)
        · ((try dsimp only); go_keep)
        clear hK K
        try simp only [Act.put, List.setIfInBounds_toArray, List.set_cons_zero, List.set_cons_succ]
        refine wpAnyH_take (i := 40) (v := ?_) (by simp only [List.getElem?_toArray, List.getElem?_cons_succ, List.getElem?_cons_zero]; rfl) (by kernel_rfl) (by kernel_rfl) (by kernel_rfl) (by exact fun _ _ _ h => h) (Or.inl ⟨by rfl, ?_⟩) (by assumption) ?_
        rotate_left 1
        · (intro wS hSw; (try dsimp only at hSw); go_simp; try (with_reducible rfl))
        try simp only [Act.put, List.setIfInBounds_toArray, List.set_cons_zero, List.set_cons_succ]
        refine wpAnyH_take (i := 41) (v := ?_) (by simp only [List.getElem?_toArray, List.getElem?_cons_succ, List.getElem?_cons_zero]; rfl) (by kernel_rfl) (by kernel_rfl) (by kernel_rfl) (by exact fun _ _ _ h => h) (Or.inl ⟨by rfl, ?_⟩) (by assumption) ?_
        rotate_left 1
        · (intro wS hSw; (try dsimp only at hSw); go_simp; try (with_reducible rfl))
        try simp only [Act.put, List.setIfInBounds_toArray, List.set_cons_zero, List.set_cons_succ]
        refine wpAnyH_done (by kernel_rfl) ?_ _
        skip
        go_wp2
        go_ret
        exact ⟨rfl, HBW.out.trans ((HV8.out _ HS.out).mono HBW.out.size)⟩
  refine AllReadyH.cons (i := 4) (by simp only [List.getElem?_toArray, List.getElem?_cons_succ, List.getElem?_cons_zero]; rfl) (fun K hK => ?_) AllReadyH.nil
  go_simp
  refine hK.out _ _ ?_ (fun hHeld => ?_)
  · ((try dsimp only); go_keep)
  clear hK K
  try simp only [Act.put, List.setIfInBounds_toArray, List.set_cons_zero, List.set_cons_succ]
  clear hHeld
  refine wpAnyH_ready (rs := [1]) (by kernel_rfl) (by simp) ?_
  refine AllReadyH.cons (i := 1) (by simp only [List.getElem?_toArray, List.getElem?_cons_succ, List.getElem?_cons_zero]; rfl) (fun K hK => ?_) AllReadyH.nil
  go_simp
  (go_at_call 7; (with_reducible refine (HStr.out _ (bel (bel_alloc V (.cells #[.int .i64 0, .string ⟨#[]⟩, .int .u32 0, .int .i64 0, .string ⟨#[]⟩, .slice none 0 0, .int .i64 0] 26)) (bel_d _))).mono ?_); rintro e w5 ⟨qs, ds, lo, hi, rfl, hks, hsp, hlo, hhi, hlh, hs5⟩)
  have HSP : Hid (Sp w5 (.slice qs t.args.length ds) t.args lo hi ∧ hi ≤ w5.heap.size ∧ lo ≤ hi ∧ Below V.heap.size V w5) := ⟨hsp, hhi, hlh, hs5.1⟩
  have HLO : Hid (V.heap.size + 1 ≤ lo) := (by have := hlo; simp at this; exact this)
  have HZ : Hid (w5.heap[V.heap.size]? = some (.cells #[.int .i64 0, .string ⟨#[]⟩, .int .u32 0, .int .i64 0, .string ⟨#[]⟩, .slice none 0 0, .int .i64 0] 26)) := (by rw [hs5.2.block V.heap.size (by simp)]; exact box_heap V _)
  clear y0 y1 y2 y3 y4 y5 y6; obtain ⟨-, ⟨y0, y1, y2, y3, y4, y5, y6⟩⟩ := HCL.out w5 hs5.1
  have hG5 : ¬ (w5.heap.size = G) := (by have := hs5.1.size; omega)
  have hG5' : ¬ (G = w5.heap.size) := fun e => hG5 e.symm
  clear hks hsp hlo hhi hlh hs5
  try (go_wp2_with fail)
  refine hK.out _ _ ?_ (fun hHeld => ?_)
  · ((try dsimp only); go_keep)
  clear hK K
  try simp only [Act.put, List.setIfInBounds_toArray, List.set_cons_zero, List.set_cons_succ]
  clear hHeld
  refine wpAnyH_ready (rs := [3]) (by kernel_rfl) (by simp) ?_
  refine AllReadyH.cons (i := 3) (by simp only [List.getElem?_toArray, List.getElem?_cons_succ, List.getElem?_cons_zero]; rfl) (fun K hK => ?_) AllReadyH.nil
  go_simp
  (go_at_call 8; (with_reducible refine (HNm.out _ HSP.out.2.2.2).mono ?_); rintro e w6 ⟨lv, B, rfl, hown, hB, hs6⟩)
  have HL6 : Hid (OwnS w6 B lv (names t) ∧ w5.heap.size ≤ B ∧ Below V.heap.size V w6 ∧ Below w5.heap.size w5 w6) := ⟨hown, (by first | exact hB | (have h9 := hB; simp at h9; omega)), hs6.1, hs6.2⟩
  have hA6 : w6.heap[V.heap.size]? = some (.cells #[.int .i64 0, .string ⟨#[]⟩, .int .u32 0, .int .i64 0, .string ⟨#[]⟩, .slice none 0 0, .int .i64 0] 26) := (by rw [hs6.2.block _ (hlt HZ.out)]; exact HZ.out)
  obtain ⟨⟨r0, r1, r2, r3, r4, r5, r6⟩, f0, f1, f2, f3, f4, f5, f6⟩ := seven hA6
  have HA6 : Hid (w6.heap[V.heap.size]? = some (.cells #[.int .i64 0, .string ⟨#[]⟩, .int .u32 0, .int .i64 0, .string ⟨#[]⟩, .slice none 0 0, .int .i64 0] 26)) := hA6
  clear hA6
  clear y0 y1 y2 y3 y4 y5 y6; obtain ⟨-, ⟨y0, y1, y2, y3, y4, y5, y6⟩⟩ := HCL.out w6 hs6.1
  have hG6 : ¬ (w6.heap.size = G) := (by have := hs6.1.size; omega)
  have hG6' : ¬ (G = w6.heap.size) := fun e => hG6 e.symm
  clear hown hB hs6
  try (go_wp2_with fail)
  refine hK.out _ _ ?_ (fun hHeld => ?_)
  · ((try dsimp only); go_keep)
  clear hK K
  try simp only [Act.put, List.setIfInBounds_toArray, List.set_cons_zero, List.set_cons_succ]
  clear hHeld
  refine wpAnyH_ready (rs := [5]) (by kernel_rfl) (by simp) ?_
  refine AllReadyH.cons (i := 5) (by simp only [List.getElem?_toArray, List.getElem?_cons_succ, List.getElem?_cons_zero]; rfl) (fun K hK => ?_) AllReadyH.nil
  go_simp
  refine hK.out _ _ ?_ (fun hHeld => ?_)
  · ((try dsimp only); go_keep)
  clear hK K
  try simp only [Act.put, List.setIfInBounds_toArray, List.set_cons_zero, List.set_cons_succ]
  refine wpAnyH_take (i := 6) (v := ?_) (by simp only [List.getElem?_toArray, List.getElem?_cons_succ, List.getElem?_cons_zero]; rfl) (by kernel_rfl) (by kernel_rfl) (by kernel_rfl) (by exact fun _ _ _ h => h) (Or.inl ⟨by rfl, ?_⟩) (by assumption) ?_
  rotate_left 1
  · (intro wS hSw; (try dsimp only at hSw); go_simp; try (with_reducible rfl))
  try simp only [Act.put, List.setIfInBounds_toArray, List.set_cons_zero, List.set_cons_succ]
  refine wpAnyH_done (by kernel_rfl) ?_ _
  go_upto_region 5 with (fail)
  obtain ⟨S0, hS0⟩ : ∃ S0, S0 = V.heap.size := ⟨_, rfl⟩
  have HS0 : Hid (S0 = V.heap.size) := hS0
  obtain ⟨hsp, hhi, hlh, hb5⟩ := HSP.out
  obtain ⟨how, hB5, hb6, hb56⟩ := HL6.out
  have hlo := HLO.out
  have hs5 := hb5.size
  have hs6 := hb6.size
  have hs56 := hb56.size
  have hoff : Off V.heap.size w6 (((((((w6.setCell ⟨V.heap.size, 0, none⟩ (.int .i64 t.kind)).setCell ⟨V.heap.size, 1, none⟩ (.string t.name)).setCell ⟨V.heap.size, 2, none⟩ (.int .u32 t.num)).setCell ⟨V.heap.size, 3, none⟩ (.int .i64 t.int_)).setCell ⟨V.heap.size, 4, none⟩ (.string t.key)).setCell ⟨V.heap.size, 5, none⟩ (.slice qs t.args.length ds)).setCell ⟨V.heap.size, 6, none⟩ (.int .i64 0)) := (((((((Off.refl (V.heap.size) w6).set 0 (.int .i64 t.kind)).set 1 (.string t.name)).set 2 (.int .u32 t.num)).set 3 (.int .i64 t.int_)).set 4 (.string t.key)).set 5 (.slice qs t.args.length ds)).set 6 (.int .i64 0)
  have hXA : (((((((w6.setCell ⟨V.heap.size, 0, none⟩ (.int .i64 t.kind)).setCell ⟨V.heap.size, 1, none⟩ (.string t.name)).setCell ⟨V.heap.size, 2, none⟩ (.int .u32 t.num)).setCell ⟨V.heap.size, 3, none⟩ (.int .i64 t.int_)).setCell ⟨V.heap.size, 4, none⟩ (.string t.key)).setCell ⟨V.heap.size, 5, none⟩ (.slice qs t.args.length ds)).setCell ⟨V.heap.size, 6, none⟩ (.int .i64 0)).heap[V.heap.size]? = some (.cells #[.int .i64 t.kind, .string t.name, .int .u32 t.num, .int .i64 t.int_, .string t.key, .slice qs t.args.length ds, .int .i64 0] 26) := put_all HA6.out _ _ _ _ _ _ _
  have hXB : Below V.heap.size V (((((((w6.setCell ⟨V.heap.size, 0, none⟩ (.int .i64 t.kind)).setCell ⟨V.heap.size, 1, none⟩ (.string t.name)).setCell ⟨V.heap.size, 2, none⟩ (.int .u32 t.num)).setCell ⟨V.heap.size, 3, none⟩ (.int .i64 t.int_)).setCell ⟨V.heap.size, 4, none⟩ (.string t.key)).setCell ⟨V.heap.size, 5, none⟩ (.slice qs t.args.length ds)).setCell ⟨V.heap.size, 6, none⟩ (.int .i64 0)) := hoff.below hb6 (by omega)
  have hXS : Sp (((((((w6.setCell ⟨V.heap.size, 0, none⟩ (.int .i64 t.kind)).setCell ⟨V.heap.size, 1, none⟩ (.string t.name)).setCell ⟨V.heap.size, 2, none⟩ (.int .u32 t.num)).setCell ⟨V.heap.size, 3, none⟩ (.int .i64 t.int_)).setCell ⟨V.heap.size, 4, none⟩ (.string t.key)).setCell ⟨V.heap.size, 5, none⟩ (.slice qs t.args.length ds)).setCell ⟨V.heap.size, 6, none⟩ (.int .i64 0)) (.slice qs t.args.length ds) t.args lo hi := Sp_keep hsp fun k k1 k2 => by rw [hoff.2.2.2.2 k (by omega)]; exact hb56.block k (by omega)
  have hXO : OwnS (((((((w6.setCell ⟨V.heap.size, 0, none⟩ (.int .i64 t.kind)).setCell ⟨V.heap.size, 1, none⟩ (.string t.name)).setCell ⟨V.heap.size, 2, none⟩ (.int .u32 t.num)).setCell ⟨V.heap.size, 3, none⟩ (.int .i64 t.int_)).setCell ⟨V.heap.size, 4, none⟩ (.string t.key)).setCell ⟨V.heap.size, 5, none⟩ (.slice qs t.args.length ds)).setCell ⟨V.heap.size, 6, none⟩ (.int .i64 0)) B lv (names t) := how.offb hoff (by omega)
  have hXs : (((((((w6.setCell ⟨V.heap.size, 0, none⟩ (.int .i64 t.kind)).setCell ⟨V.heap.size, 1, none⟩ (.string t.name)).setCell ⟨V.heap.size, 2, none⟩ (.int .u32 t.num)).setCell ⟨V.heap.size, 3, none⟩ (.int .i64 t.int_)).setCell ⟨V.heap.size, 4, none⟩ (.string t.key)).setCell ⟨V.heap.size, 5, none⟩ (.slice qs t.args.length ds)).setCell ⟨V.heap.size, 6, none⟩ (.int .i64 0)).heap.size = w6.heap.size := hoff.2.2.2.1
  have hlk : ∀ k, lv.ownBlock = some k → hi ≤ k ∧ k ≠ V.heap.size ∧ k < (((((((w6.setCell ⟨V.heap.size, 0, none⟩ (.int .i64 t.kind)).setCell ⟨V.heap.size, 1, none⟩ (.string t.name)).setCell ⟨V.heap.size, 2, none⟩ (.int .u32 t.num)).setCell ⟨V.heap.size, 3, none⟩ (.int .i64 t.int_)).setCell ⟨V.heap.size, 4, none⟩ (.string t.key)).setCell ⟨V.heap.size, 5, none⟩ (.slice qs t.args.length ds)).setCell ⟨V.heap.size, 6, none⟩ (.int .i64 0)).heap.size ∧ S0 ≤ k := fun k hk => by have := how.lt k hk; rw [hXs]; omega
  have hAn : ¬ (lo ≤ V.heap.size ∧ V.heap.size < hi) := by omega
  clear hoff
  have hXh : hi ≤ (((((((w6.setCell ⟨V.heap.size, 0, none⟩ (.int .i64 t.kind)).setCell ⟨V.heap.size, 1, none⟩ (.string t.name)).setCell ⟨V.heap.size, 2, none⟩ (.int .u32 t.num)).setCell ⟨V.heap.size, 3, none⟩ (.int .i64 t.int_)).setCell ⟨V.heap.size, 4, none⟩ (.string t.key)).setCell ⟨V.heap.size, 5, none⟩ (.slice qs t.args.length ds)).setCell ⟨V.heap.size, 6, none⟩ (.int .i64 0)).heap.size := by rw [hXs]; omega
  have hAV : S0 ≤ V.heap.size := by omega
  have hloV : S0 ≤ lo := by omega
  clear hS0 hXs hsp how hb5 hb6 hb56
  obtain ⟨X, hX⟩ : ∃ X, (((((((w6.setCell ⟨V.heap.size, 0, none⟩ (.int .i64 t.kind)).setCell ⟨V.heap.size, 1, none⟩ (.string t.name)).setCell ⟨V.heap.size, 2, none⟩ (.int .u32 t.num)).setCell ⟨V.heap.size, 3, none⟩ (.int .i64 t.int_)).setCell ⟨V.heap.size, 4, none⟩ (.string t.key)).setCell ⟨V.heap.size, 5, none⟩ (.slice qs t.args.length ds)).setCell ⟨V.heap.size, 6, none⟩ (.int .i64 0)) = X := ⟨_, rfl⟩
  rw [hX] at hXA hXB hXS hXO hlk hXh
  rw [hX]
  obtain ⟨A, hA⟩ : ∃ A, V.heap.size = A := ⟨_, rfl⟩
  rw [hA] at hXA hlk hAn hAV
  rw [hA]
  clear hX hA
  obtain ⟨hok, hc⟩ := HOK.out
  have HSpo : Hid (Calls Try.prog 9 #[.pointer (some ⟨A, 0, none⟩)] X fun e v' => (∃ r, e = .returned r) ∧ Chg X v' A 0 lo hi ∧ Left7 v' A 0 t.args.length lo hi X.heap.size) := spo_to (dep t) t A 0 lo hi (.slice qs t.args.length ds) X (Nat.le_refl _) hc ⟨_, hXA, (by show 0 + 7 ≤ 7; omega)⟩ hAn hlh hXh ⟨t.name, cell_heap hXA 1⟩ (cell_heap hXA 5) hXS
  have HXB : Hid (Below V.heap.size V X) := hXB
  have HXO : Hid (OwnS X B lv (names t)) := hXO
  have HLK : Hid (∀ k, lv.ownBlock = some k → hi ≤ k ∧ k ≠ A ∧ k < X.heap.size ∧ S0 ≤ k) := hlk
  have HNUM : Hid ((S0 ≤ A ∧ S0 ≤ lo) ∧ V.heap.size ≤ X.heap.size ∧ A < X.heap.size) := ⟨⟨hAV, hloV⟩, hXB.size, hlt hXA⟩
  clear hok hc hXA hXB hXS hXO hlk hAn hXh hAV hloV y0 y1 y2 y3 y4 y5 y6 HSP HL6 HLO
  go_upto_region 6 with (go_at_call 9; (with_reducible refine HSpo.out.mono ?_); rintro e w7 ⟨⟨rv, rfl⟩, hch, hleft⟩)
  have hS0 := HS0.out
  obtain ⟨⟨nA, nlo⟩, nX, nAX⟩ := HNUM.out
  have hb7 : Below V.heap.size V w7 := HXB.out.trans (hch.below (by omega) (by omega) nX)
  obtain ⟨g2, c2, hl1, hl2, hl3⟩ := hleft
  have hl1' : w7.cell? ⟨A, 5, none⟩ = some (.slice (some ⟨g2, 0, none⟩) (t.args.length + 1) c2) := hl1
  have hO7 : OwnS w7 B lv (names t) := HXO.out.other fun k hk => by
    have h1 := HLK.out k hk
    exact hch.block k h1.2.2.1 h1.2.1 (by omega)
  have hg2k : ∀ k, lv.ownBlock = some k → k ≠ g2 ∧ k ≠ A ∧ S0 ≤ k := fun k hk => by
    have h1 := HLK.out k hk
    omega
  obtain ⟨pl, cl, hlv, -⟩ := rowS_cell hO7
  obtain ⟨nn, hnn⟩ : ∃ nn, (names t).length = nn := ⟨_, rfl⟩
  rw [hnn] at hlv
  subst hlv
  have hn9 : nn ≤ 9000 := by have h1 := names_le t; have h2 := HOK.out.2; omega
  have H7 : Hid ((w7.cell? ⟨A, 5, none⟩ = some (.slice (some ⟨g2, 0, none⟩) (t.args.length + 1) c2) ∧ w7.cell? ⟨g2, t.args.length * 7 + 1, none⟩ = some (.string ⟨#[109, 111, 114, 101]⟩)) ∧ Below V.heap.size V w7 ∧ ∃ ls : List ByteArray, ls.length = nn ∧ OwnS w7 0 (.slice pl nn cl) ls) := ⟨⟨hl1', hl2⟩, hb7, names t, hnn, hO7.mono (Nat.zero_le _)⟩
  have HGK : Hid (∀ k, Value.ownBlock (.slice pl nn cl) = some k → k ≠ g2 ∧ k ≠ A ∧ S0 ≤ k) := hg2k
  obtain ⟨i0, hi0, hz0, hz1, hz2⟩ := info_parts info_string
  clear hch hl1 hl1' hl2 hl3 hb7 hO7 hg2k hnn hS0 nA nlo nX nAX HSpo HXB HXO HLK HNUM
  go_wp2
  go_loopw [6] (fun iv wr => ∃ i : Nat, i ≤ nn ∧ iv = .int .i64 i ∧ Hid ((wr.cell? ⟨A, 5, none⟩ = some (.slice (some ⟨g2, 0, none⟩) (t.args.length + 1) c2) ∧ wr.cell? ⟨g2, t.args.length * 7 + 1, none⟩ = some (.string ⟨#[109, 111, 114, 101]⟩)) ∧ Below V.heap.size V wr ∧ ∃ ls : List ByteArray, ls.length = nn ∧ OwnS wr 0 (.slice pl nn cl) ls)) (fun iv _ => nn - (intOf iv).toNat)
  case atStart => exact ⟨0, Nat.zero_le _, rfl, H7.out⟩
  case round =>
    obtain ⟨i, hi, rfl, hS⟩ := hrel
    clear H7
    obtain ⟨⟨hA5, hg2c⟩, hbv, ls, hls, hown⟩ := hS.out
    by_cases hlt0 : i < nn
    · rcases hown.2 with ⟨e, h0⟩ | ⟨g, cap, cur, e, hB, hg, k1, k2, k3, k4⟩
      · exfalso; simp only [Value.slice.injEq] at e; omega
      · simp only [Value.slice.injEq] at e
        obtain ⟨rfl, -, rfl⟩ := e
        have hgk := HGK.out g rfl
        obtain ⟨u, hu⟩ : ∃ u, cur[i]? = some u := ⟨_, Array.getElem?_eq_getElem (by omega)⟩
        obtain ⟨x0, x1⟩ := at_cell hg i hu
        have i1 : (0 : Int) ≤ (i : Int) := by omega
        have i2 : (i : Int) < (nn : Int) := by omega
        have hS0 := HS0.out
        have HN : Hid (((wr.setCell ⟨g, i, none⟩ (.string ⟨#[115, 112, 111, 105, 108, 116]⟩)).cell? ⟨A, 5, none⟩ = some (.slice (some ⟨g2, 0, none⟩) (t.args.length + 1) c2) ∧ (wr.setCell ⟨g, i, none⟩ (.string ⟨#[115, 112, 111, 105, 108, 116]⟩)).cell? ⟨g2, t.args.length * 7 + 1, none⟩ = some (.string ⟨#[109, 111, 114, 101]⟩)) ∧ Below V.heap.size V (wr.setCell ⟨g, i, none⟩ (.string ⟨#[115, 112, 111, 105, 108, 116]⟩)) ∧ ∃ ls : List ByteArray, ls.length = nn ∧ OwnS (wr.setCell ⟨g, i, none⟩ (.string ⟨#[115, 112, 111, 105, 108, 116]⟩)) 0 (.slice (some ⟨g, 0, none⟩) nn cl) ls) := by
          have ho := (Off.refl g wr).set i (.string ⟨#[115, 112, 111, 105, 108, 116]⟩)
          refine ⟨⟨?_, ?_⟩, ho.below hbv (by omega), ls.set i _, by rw [List.length_set]; exact hls, hown.put hls hlt0 _⟩
          · rw [World.cell?_of_block (w := wr) (a := ⟨A, 5, none⟩) (ho.2.2.2.2 A (by omega))]; exact hA5
          · rw [World.cell?_of_block (w := wr) (a := ⟨g2, t.args.length * 7 + 1, none⟩) (ho.2.2.2.2 g2 (by omega))]; exact hg2c
        clear hown hS hA5 hg2c hbv hB hg k1 k2 k3 k4 hgk hu hS0
        go_wp2
        go_roundw
        case rel => exact ⟨i + 1, by omega, by go_num, HN.out⟩
        case measure => simp [intOf]; omega
    · have : i = nn := by omega
      subst this
      have HOW : Hid (wr.ownsRow 0 9 1 (.slice pl i cl) i (strs ls)) := by
        have h1 := hown
        unfold OwnS at h1
        rw [hls] at h1
        exact h1
      have HLS : Hid (ls.length = i) := hls
      have HAC : Hid ((wr.cell? ⟨A, 5, none⟩ = some (.slice (some ⟨g2, 0, none⟩) (t.args.length + 1) c2) ∧ wr.cell? ⟨g2, t.args.length * 7 + 1, none⟩ = some (.string ⟨#[109, 111, 114, 101]⟩)) ∧ Below V.heap.size V wr) := ⟨⟨hA5, hg2c⟩, hbv⟩
      clear hown hls hA5 hg2c hbv hS
      go_upto_region 11 with (at_builtin; refine wpList_append_lies _ rfl _ _ 30 rfl 0 9 i0 _ 1 16 Try.underlying30 hi0 hz0 hz1 hz2 rfl (by decide) (.slice pl i cl) i (strs ls) rfl (World.ownsRow.alloc HOW.out _) ⟨wr.heap.size, 0, none⟩ 1 1 [.string ⟨#[109, 111, 114, 101]⟩] rfl rfl (World.news_of_block (cs := #[.string ⟨#[109, 111, 114, 101]⟩]) (t := 9) (fr := (0, 0)) (box_heap wr _)) (by simp [Value.oneCell']) (by decide) (by unfold maxLen; omega) (by omega) (Nat.zero_le _) (wr.heap.size + 1) (by simp) ?_; intro gl cap8 w8 hown8 hgrow hat hlt8; have HO8 : Hid (w8.ownsRow 0 9 1 (.slice (some ⟨gl, 0, none⟩) (i + 1) cap8) (i + 1) (strs ls ++ [.string ⟨#[109, 111, 114, 101]⟩])) := hown8; have HG8 : Hid ((wr.alloc (.cells #[.string ⟨#[109, 111, 114, 101]⟩] 9)).grownBy w8 (Value.ownBlock (.slice pl i cl))) := hgrow; clear hown8 hgrow hat hlt8)
      have hS0 := HS0.out
      obtain ⟨⟨hA5, hg2c⟩, hbv⟩ := HAC.out
      have hb8 : Below V.heap.size V w8 := Below.grown (hbv.trans ((bel_alloc wr _).mono hbv.size)) HG8.out (by have := hbv.size; simp; omega) (fun k hk => by have := (HGK.out k hk).2.2; omega)
      have hA8 : w8.cell? ⟨A, 5, none⟩ = some (.slice (some ⟨g2, 0, none⟩) (t.args.length + 1) c2) := by
        have h1 : A < wr.heap.size := mcell_lt hA5
        rw [World.cell?_of_block (w := wr.alloc (.cells #[.string ⟨#[109, 111, 114, 101]⟩] 9)) (a := ⟨A, 5, none⟩) (HG8.out.block A (by simp; omega) (fun e => (HGK.out A e.symm).2.1 rfl)), World.cell?_of_block (w := wr) (a := ⟨A, 5, none⟩) (Below.heap_alloc wr _ A h1)]
        exact hA5
      have hg8 : w8.cell? ⟨g2, t.args.length * 7 + 1, none⟩ = some (.string ⟨#[109, 111, 114, 101]⟩) := by
        have h1 : g2 < wr.heap.size := mcell_lt hg2c
        rw [World.cell?_of_block (w := wr.alloc (.cells #[.string ⟨#[109, 111, 114, 101]⟩] 9)) (a := ⟨g2, t.args.length * 7 + 1, none⟩) (HG8.out.block g2 (by simp; omega) (fun e => (HGK.out g2 e.symm).1 rfl)), World.cell?_of_block (w := wr) (a := ⟨g2, t.args.length * 7 + 1, none⟩) (Below.heap_alloc wr _ g2 h1)]
        exact hg2c
      have hl8 : w8.cell? ⟨gl, i, none⟩ = some (.string ⟨#[109, 111, 114, 101]⟩) := by
        have h1 := HO8.out.cells (g := gl) rfl i (.string ⟨#[109, 111, 114, 101]⟩) (by
          rw [List.getElem?_append_right (by simp [strs, HLS.out])]
          simp [strs, HLS.out])
        rw [add_at] at h1
        exact h1
      have HY : Hid (∀ v, Below w8.heap.size w8 v → (v.cell? ⟨w.heap.size, 0, none⟩ = some (.int .i64 t.kind) ∧ v.cell? ⟨w.heap.size, 1, none⟩ = some (.string t.name) ∧ v.cell? ⟨w.heap.size, 2, none⟩ = some (.int .u32 t.num) ∧ v.cell? ⟨w.heap.size, 3, none⟩ = some (.int .i64 t.int_) ∧ v.cell? ⟨w.heap.size, 4, none⟩ = some (.string t.key) ∧ v.cell? ⟨w.heap.size, 5, none⟩ = some (.slice p t.args.length c) ∧ v.cell? ⟨w.heap.size, 6, none⟩ = some (.int .i64 t.at_)) ∧ (v.cell? ⟨G, 0, none⟩ = some (.int .i64 t.kind) ∧ v.cell? ⟨G, 1, none⟩ = some (.string t.name) ∧ v.cell? ⟨G, 2, none⟩ = some (.int .u32 t.num) ∧ v.cell? ⟨G, 3, none⟩ = some (.int .i64 t.int_) ∧ v.cell? ⟨G, 4, none⟩ = some (.string t.key) ∧ v.cell? ⟨G, 5, none⟩ = some (.slice q t.args.length d) ∧ v.cell? ⟨G, 6, none⟩ = some (.int .i64 t.at_)) ∧ v.cell? ⟨A, 5, none⟩ = some (.slice (some ⟨g2, 0, none⟩) (t.args.length + 1) c2) ∧ v.cell? ⟨g2, t.args.length * 7 + 1, none⟩ = some (.string ⟨#[109, 111, 114, 101]⟩) ∧ v.cell? ⟨gl, i, none⟩ = some (.string ⟨#[109, 111, 114, 101]⟩)) := fun v hv => by
        obtain ⟨k1, k2⟩ := HCL.out v (hb8.trans (hv.mono hb8.size))
        exact ⟨k1, k2, (hv.cell (mcell_lt hA8)).trans hA8, (hv.cell (mcell_lt hg8)).trans hg8, (hv.cell (mcell_lt hl8)).trans hl8⟩
      have HV8 : Hid (∀ v, Below w8.heap.size w8 v → Below V.heap.size V v) := fun v hv => hb8.trans (hv.mono hb8.size)
      have i1 : (0 : Int) ≤ (i : Int) := by omega
      have i2 : (i : Int) < (i : Int) + 1 := by omega
      have i3 : IntKind.i64.wrap (i : Int) = (i : Int) := by rw [IntKind.wrap_i64]; omega
      have j1 : (0 : Int) ≤ (t.args.length : Int) := by omega
      have j2 : (t.args.length : Int) < (t.args.length : Int) + 1 := by omega
      have j3 : IntKind.i64.wrap (t.args.length : Int) = (t.args.length : Int) := by rw [IntKind.wrap_i64]; omega
      have HS : Hid (Below w8.heap.size w8 w8.drew) := bel_d _
      obtain ⟨⟨z0, z1, z2, z3, z4, z5, z6⟩, ⟨y0, y1, y2, y3, y4, y5, y6⟩, sA, sg, sl⟩ := HY.out w8 (bel0 w8)
      clear hS0 hA5 hg2c hbv hb8 hA8 hg8 hl8 HO8 HG8 HAC HOW HLS HGK
      refine wp_region_held_drew (S := (fun w' => w'.cell? ⟨w.heap.size, 0, none⟩ = some (.int .i64 t.kind) ∧ w'.cell? ⟨w.heap.size, 1, none⟩ = some (.string t.name) ∧ w'.cell? ⟨w.heap.size, 2, none⟩ = some (.int .u32 t.num) ∧ w'.cell? ⟨w.heap.size, 3, none⟩ = some (.int .i64 t.int_) ∧ w'.cell? ⟨w.heap.size, 4, none⟩ = some (.string t.key) ∧ w'.cell? ⟨w.heap.size, 5, none⟩ = some (.slice p t.args.length c) ∧ w'.cell? ⟨w.heap.size, 6, none⟩ = some (.int .i64 t.at_) ∧ w'.cell? ⟨G, 0, none⟩ = some (.int .i64 t.kind) ∧ w'.cell? ⟨G, 1, none⟩ = some (.string t.name) ∧ w'.cell? ⟨G, 2, none⟩ = some (.int .u32 t.num) ∧ w'.cell? ⟨G, 3, none⟩ = some (.int .i64 t.int_) ∧ w'.cell? ⟨G, 4, none⟩ = some (.string t.key) ∧ w'.cell? ⟨G, 5, none⟩ = some (.slice q t.args.length d) ∧ w'.cell? ⟨G, 6, none⟩ = some (.int .i64 t.at_) ∧ w'.cell? ⟨A, 5, none⟩ = some (.slice (some ⟨g2, 0, none⟩) (t.args.length + 1) c2) ∧ w'.cell? ⟨g2, t.args.length * 7 + 1, none⟩ = some (.string ⟨#[109, 111, 114, 101]⟩) ∧ w'.cell? ⟨gl, i, none⟩ = some (.string ⟨#[109, 111, 114, 101]⟩))) (by kernel_rfl) ?_ (fun hHeld => ?_)
      · ((try dsimp only); go_keep)
      refine wpAnyH_take (i := 0) (v := ?_) (by simp only [List.getElem?_toArray, List.getElem?_cons_succ, List.getElem?_cons_zero]; rfl) (by kernel_rfl) (by kernel_rfl) (by kernel_rfl) (by exact fun _ _ _ h => h) (Or.inl ⟨by rfl, ?_⟩) (by assumption) ?_
      rotate_left 1
      · (intro wS hSw; (try dsimp only at hSw); go_simp; try (with_reducible rfl))
      try simp only [Act.put, List.setIfInBounds_toArray, List.set_cons_zero, List.set_cons_succ]
      refine wpAnyH_take (i := 1) (v := ?_) (by simp only [List.getElem?_toArray, List.getElem?_cons_succ, List.getElem?_cons_zero]; rfl) (by kernel_rfl) (by kernel_rfl) (by kernel_rfl) (by exact fun _ _ _ h => h) (Or.inl ⟨by rfl, ?_⟩) (by assumption) ?_
      rotate_left 1
      · (intro wS hSw; (try dsimp only at hSw); go_simp; try (with_reducible rfl))
      try simp only [Act.put, List.setIfInBounds_toArray, List.set_cons_zero, List.set_cons_succ]
      clear hHeld
      refine wpAnyH_ready (rs := [2]) (by kernel_rfl) (by simp) ?_
      refine AllReadyH.cons (i := 2) (by simp only [List.getElem?_toArray, List.getElem?_cons_succ, List.getElem?_cons_zero]; rfl) (fun K hK => ?_) AllReadyH.nil
      go_simp
      (go_at_call 10; (with_reducible refine (HSm1.out _ (HV8.out _ HS.out)).mono ?_); rintro e v9 ⟨rfl, hs9⟩; have hb9 := bel HS.out hs9.2; clear z0 z1 z2 z3 z4 z5 z6 y0 y1 y2 y3 y4 y5 y6 sA sg sl; obtain ⟨⟨z0, z1, z2, z3, z4, z5, z6⟩, ⟨y0, y1, y2, y3, y4, y5, y6⟩, sA, sg, sl⟩ := HY.out v9 hb9; (try clear HS); have HS : Hid (Below w8.heap.size w8 v9) := hb9; clear hs9 hb9)
      try (go_wp2_with fail)
      refine hK.out _ _ ?_ (fun hHeld => ?_)
      · ((try dsimp only); go_keep)
      clear hK K
      try simp only [Act.put, List.setIfInBounds_toArray, List.set_cons_zero, List.set_cons_succ]
      refine wpAnyH_take (i := 3) (v := ?_) (by simp only [List.getElem?_toArray, List.getElem?_cons_succ, List.getElem?_cons_zero]; rfl) (by kernel_rfl) (by kernel_rfl) (by kernel_rfl) (by exact fun _ _ _ h => h) (Or.inl ⟨by rfl, ?_⟩) (by assumption) ?_
      rotate_left 1
      · (intro wS hSw; (try dsimp only at hSw); go_simp; try (with_reducible rfl))
      try simp only [Act.put, List.setIfInBounds_toArray, List.set_cons_zero, List.set_cons_succ]
      refine wpAnyH_take (i := 4) (v := ?_) (by simp only [List.getElem?_toArray, List.getElem?_cons_succ, List.getElem?_cons_zero]; rfl) (by kernel_rfl) (by kernel_rfl) (by kernel_rfl) (by exact fun _ _ _ h => h) (Or.inl ⟨by rfl, ?_⟩) (by assumption) ?_
      rotate_left 1
      · (intro wS hSw; (try dsimp only at hSw); go_simp; try (with_reducible rfl))
      try simp only [Act.put, List.setIfInBounds_toArray, List.set_cons_zero, List.set_cons_succ]
      refine wpAnyH_take (i := 6) (v := ?_) (by simp only [List.getElem?_toArray, List.getElem?_cons_succ, List.getElem?_cons_zero]; rfl) (by kernel_rfl) (by kernel_rfl) (by kernel_rfl) (by exact fun _ _ _ h => h) (Or.inl ⟨by rfl, ?_⟩) (by assumption) ?_
      rotate_left 1
      · (intro wS hSw; (try dsimp only at hSw); go_simp; try (with_reducible rfl))
      try simp only [Act.put, List.setIfInBounds_toArray, List.set_cons_zero, List.set_cons_succ]
      clear hHeld
      refine wpAnyH_ready (rs := [5]) (by kernel_rfl) (by simp) ?_
      refine AllReadyH.cons (i := 5) (by simp only [List.getElem?_toArray, List.getElem?_cons_succ, List.getElem?_cons_zero]; rfl) (fun K hK => ?_) AllReadyH.nil
      go_simp
      (go_at_call 7; (with_reducible refine (HStr.out _ (HV8.out _ HS.out)).mono ?_); rintro e v9 ⟨q1, d1, lo1, hi1, rfl, hk9, -, -, -, -, hs9⟩; have hb9 := bel HS.out hs9.2; clear z0 z1 z2 z3 z4 z5 z6 y0 y1 y2 y3 y4 y5 y6 sA sg sl; obtain ⟨⟨z0, z1, z2, z3, z4, z5, z6⟩, ⟨y0, y1, y2, y3, y4, y5, y6⟩, sA, sg, sl⟩ := HY.out v9 hb9; (try clear HS); have HS : Hid (Below w8.heap.size w8 v9) := hb9; have HK1 : Hid (Kids v9 anyH (.slice q1 t.args.length d1) (stripL t.args)) := hk9; clear hk9; clear hs9 hb9)
      try (go_wp2_with fail)
      refine hK.out _ _ ?_ (fun hHeld => ?_)
      · ((try dsimp only); go_keep)
      clear hK K
      try simp only [Act.put, List.setIfInBounds_toArray, List.set_cons_zero, List.set_cons_succ]
      clear hHeld
      refine wpAnyH_ready (rs := [7]) (by kernel_rfl) (by simp) ?_
      refine AllReadyH.cons (i := 7) (by simp only [List.getElem?_toArray, List.getElem?_cons_succ, List.getElem?_cons_zero]; rfl) (fun K hK => ?_) AllReadyH.nil
      go_simp
      (go_at_call 11; (with_reducible refine (HRStr.out _ (HV8.out _ HS.out)).mono ?_); rintro e v9 ⟨q2, m2, d2, rfl, hk9, hs9⟩; have hb9 := bel HS.out hs9.2; clear z0 z1 z2 z3 z4 z5 z6 y0 y1 y2 y3 y4 y5 y6 sA sg sl; obtain ⟨⟨z0, z1, z2, z3, z4, z5, z6⟩, ⟨y0, y1, y2, y3, y4, y5, y6⟩, sA, sg, sl⟩ := HY.out v9 hb9; (try clear HS); have HS : Hid (Below w8.heap.size w8 v9) := hb9; have HK2 : Hid (Kids v9 anyH (.slice q2 m2 d2) (stripL t.args)) := hk9; clear hk9; have HK3 : Hid (Kids v9 anyH (.slice q1 t.args.length d1) (stripL t.args)) := HK1.out.below hs9.2; clear HK1; clear hs9 hb9)
      try (go_wp2_with fail)
      refine hK.out _ _ ?_ (fun hHeld => ?_)
      · ((try dsimp only); go_keep)
      clear hK K
      try simp only [Act.put, List.setIfInBounds_toArray, List.set_cons_zero, List.set_cons_succ]
      clear hHeld
      refine wpAnyH_ready (rs := [8]) (by kernel_rfl) (by simp) ?_
      refine AllReadyH.cons (i := 8) (by simp only [List.getElem?_toArray, List.getElem?_cons_succ, List.getElem?_cons_zero]; rfl) (fun K hK => ?_) AllReadyH.nil
      go_simp
      (go_at_call 10; (with_reducible refine (HSm2.out _ _ _ _ _ _ _ (HV8.out _ HS.out) HK3.out HK2.out).mono ?_); rintro e v9 ⟨rfl, hs9⟩; have hb9 := bel HS.out hs9.2; clear z0 z1 z2 z3 z4 z5 z6 y0 y1 y2 y3 y4 y5 y6 sA sg sl; obtain ⟨⟨z0, z1, z2, z3, z4, z5, z6⟩, ⟨y0, y1, y2, y3, y4, y5, y6⟩, sA, sg, sl⟩ := HY.out v9 hb9; (try clear HS); have HS : Hid (Below w8.heap.size w8 v9) := hb9; clear hs9 hb9)
      try (go_wp2_with fail)
      refine hK.out _ _ ?_ (fun hHeld => ?_)
      · ((try dsimp only); go_keep)
      clear hK K
      try simp only [Act.put, List.setIfInBounds_toArray, List.set_cons_zero, List.set_cons_succ]
      refine wpAnyH_take (i := 9) (v := ?_) (by simp only [List.getElem?_toArray, List.getElem?_cons_succ, List.getElem?_cons_zero]; rfl) (by kernel_rfl) (by kernel_rfl) (by kernel_rfl) (by exact fun _ _ _ h => h) (Or.inl ⟨by rfl, ?_⟩) (by assumption) ?_
      rotate_left 1
      · (intro wS hSw; (try dsimp only at hSw); go_simp; try (with_reducible rfl))
      try simp only [Act.put, List.setIfInBounds_toArray, List.set_cons_zero, List.set_cons_succ]
      refine wpAnyH_take (i := 10) (v := ?_) (by simp only [List.getElem?_toArray, List.getElem?_cons_succ, List.getElem?_cons_zero]; rfl) (by kernel_rfl) (by kernel_rfl) (by kernel_rfl) (by exact fun _ _ _ h => h) (Or.inl ⟨by rfl, ?_⟩) (by assumption) ?_
      rotate_left 1
      · (intro wS hSw; (try dsimp only at hSw); go_simp; try (with_reducible rfl))
      try simp only [Act.put, List.setIfInBounds_toArray, List.set_cons_zero, List.set_cons_succ]
      refine wpAnyH_take (i := 11) (v := ?_) (by simp only [List.getElem?_toArray, List.getElem?_cons_succ, List.getElem?_cons_zero]; rfl) (by kernel_rfl) (by kernel_rfl) (by kernel_rfl) (by exact fun _ _ _ h => h) (Or.inl ⟨by rfl, ?_⟩) (by assumption) ?_
      rotate_left 1
      · (intro wS hSw; (try dsimp only at hSw); go_simp; try (with_reducible rfl))
      try simp only [Act.put, List.setIfInBounds_toArray, List.set_cons_zero, List.set_cons_succ]
      refine wpAnyH_take (i := 13) (v := ?_) (by simp only [List.getElem?_toArray, List.getElem?_cons_succ, List.getElem?_cons_zero]; rfl) (by kernel_rfl) (by kernel_rfl) (by kernel_rfl) (by exact fun _ _ _ h => h) (Or.inl ⟨by rfl, ?_⟩) (by assumption) ?_
      rotate_left 1
      · (intro wS hSw; (try dsimp only at hSw); go_simp; try (with_reducible rfl))
      try simp only [Act.put, List.setIfInBounds_toArray, List.set_cons_zero, List.set_cons_succ]
      clear hHeld
      refine wpAnyH_ready (rs := [12]) (by kernel_rfl) (by simp) ?_
      refine AllReadyH.cons (i := 12) (by simp only [List.getElem?_toArray, List.getElem?_cons_succ, List.getElem?_cons_zero]; rfl) (fun K hK => ?_) AllReadyH.nil
      go_simp
      (go_at_call 8; (with_reducible refine (HNm.out _ (HV8.out _ HS.out)).mono ?_); rintro e v9 ⟨y9, B9, rfl, hk9, -, hs9⟩; have hb9 := bel HS.out hs9.2; clear z0 z1 z2 z3 z4 z5 z6 y0 y1 y2 y3 y4 y5 y6 sA sg sl; obtain ⟨⟨z0, z1, z2, z3, z4, z5, z6⟩, ⟨y0, y1, y2, y3, y4, y5, y6⟩, sA, sg, sl⟩ := HY.out v9 hb9; (try clear HS); have HS : Hid (Below w8.heap.size w8 v9) := hb9; have HK1 : Hid (Txt v9 y9 (names t)) := rowS_cell hk9; clear hk9; clear hs9 hb9)
      try (go_wp2_with fail)
      refine hK.out _ _ ?_ (fun hHeld => ?_)
      · ((try dsimp only); go_keep)
      clear hK K
      try simp only [Act.put, List.setIfInBounds_toArray, List.set_cons_zero, List.set_cons_succ]
      clear hHeld
      refine wpAnyH_ready (rs := [14]) (by kernel_rfl) (by simp) ?_
      refine AllReadyH.cons (i := 14) (by simp only [List.getElem?_toArray, List.getElem?_cons_succ, List.getElem?_cons_zero]; rfl) (fun K hK => ?_) AllReadyH.nil
      go_simp
      (go_at_call 13; (with_reducible refine (HRNm.out _ (HV8.out _ HS.out)).mono ?_); rintro e v9 ⟨y8, rfl, hk9, hs9⟩; have hb9 := bel HS.out hs9.2; clear z0 z1 z2 z3 z4 z5 z6 y0 y1 y2 y3 y4 y5 y6 sA sg sl; obtain ⟨⟨z0, z1, z2, z3, z4, z5, z6⟩, ⟨y0, y1, y2, y3, y4, y5, y6⟩, sA, sg, sl⟩ := HY.out v9 hb9; (try clear HS); have HS : Hid (Below w8.heap.size w8 v9) := hb9; have HK2 : Hid (Txt v9 y8 (names t)) := hk9; clear hk9; have HK3 : Hid (Txt v9 y9 (names t)) := HK1.out.below hs9.2; clear HK1; clear hs9 hb9)
      try (go_wp2_with fail)
      refine hK.out _ _ ?_ (fun hHeld => ?_)
      · ((try dsimp only); go_keep)
      clear hK K
      try simp only [Act.put, List.setIfInBounds_toArray, List.set_cons_zero, List.set_cons_succ]
      clear hHeld
      refine wpAnyH_ready (rs := [15]) (by kernel_rfl) (by simp) ?_
      refine AllReadyH.cons (i := 15) (by simp only [List.getElem?_toArray, List.getElem?_cons_succ, List.getElem?_cons_zero]; rfl) (fun K hK => ?_) AllReadyH.nil
      go_simp
      (go_at_call 12; (with_reducible refine (HTx.out _ _ _ (HV8.out _ HS.out) HK3.out HK2.out).mono ?_); rintro e v9 ⟨rfl, hs9⟩; have hb9 := bel HS.out hs9.2; clear z0 z1 z2 z3 z4 z5 z6 y0 y1 y2 y3 y4 y5 y6 sA sg sl; obtain ⟨⟨z0, z1, z2, z3, z4, z5, z6⟩, ⟨y0, y1, y2, y3, y4, y5, y6⟩, sA, sg, sl⟩ := HY.out v9 hb9; (try clear HS); have HS : Hid (Below w8.heap.size w8 v9) := hb9; clear hs9 hb9)
      try (go_wp2_with fail)
      refine hK.out _ _ ?_ (fun hHeld => ?_)
      · ((try dsimp only); go_keep)
      clear hK K
      try simp only [Act.put, List.setIfInBounds_toArray, List.set_cons_zero, List.set_cons_succ]
      refine wpAnyH_take (i := 16) (v := ?_) (by simp only [List.getElem?_toArray, List.getElem?_cons_succ, List.getElem?_cons_zero]; rfl) (by kernel_rfl) (by kernel_rfl) (by kernel_rfl) (by exact fun _ _ _ h => h) (Or.inl ⟨by rfl, ?_⟩) (by assumption) ?_
      rotate_left 1
      · (intro wS hSw; (try dsimp only at hSw); go_simp; try (with_reducible rfl))
      try simp only [Act.put, List.setIfInBounds_toArray, List.set_cons_zero, List.set_cons_succ]
      refine wpAnyH_take (i := 17) (v := ?_) (by simp only [List.getElem?_toArray, List.getElem?_cons_succ, List.getElem?_cons_zero]; rfl) (by kernel_rfl) (by kernel_rfl) (by kernel_rfl) (by exact fun _ _ _ h => h) (Or.inl ⟨by rfl, ?_⟩) (by assumption) ?_
      rotate_left 1
      · (intro wS hSw; (try dsimp only at hSw); go_simp; try (with_reducible rfl))
      try simp only [Act.put, List.setIfInBounds_toArray, List.set_cons_zero, List.set_cons_succ]
      refine wpAnyH_take (i := 18) (v := ?_) (by simp only [List.getElem?_toArray, List.getElem?_cons_succ, List.getElem?_cons_zero]; rfl) (by kernel_rfl) (by kernel_rfl) (by kernel_rfl) (by exact fun _ _ _ h => h) (Or.inl ⟨by rfl, ?_⟩) (by assumption) ?_
      rotate_left 1
      · (intro wS hSw; (try dsimp only at hSw); go_simp; try (with_reducible rfl))
      try simp only [Act.put, List.setIfInBounds_toArray, List.set_cons_zero, List.set_cons_succ]
      refine wpAnyH_take (i := 19) (v := ?_) (by simp only [List.getElem?_toArray, List.getElem?_cons_succ, List.getElem?_cons_zero]; rfl) (by kernel_rfl) (by kernel_rfl) (by kernel_rfl) (by exact fun _ _ _ h => h) (Or.inl ⟨by rfl, ?_⟩) (by assumption) ?_
      rotate_left 1
      · (intro wS hSw; (try dsimp only at hSw); go_simp; try (with_reducible rfl))
      try simp only [Act.put, List.setIfInBounds_toArray, List.set_cons_zero, List.set_cons_succ]
      refine wpAnyH_take (i := 20) (v := ?_) (by simp only [List.getElem?_toArray, List.getElem?_cons_succ, List.getElem?_cons_zero]; rfl) (by kernel_rfl) (by kernel_rfl) (by kernel_rfl) (by exact fun _ _ _ h => h) (Or.inl ⟨by rfl, ?_⟩) (by assumption) ?_
      rotate_left 1
      · (intro wS hSw; (try dsimp only at hSw); go_simp; try (with_reducible rfl))
      try simp only [Act.put, List.setIfInBounds_toArray, List.set_cons_zero, List.set_cons_succ]
      refine wpAnyH_take (i := 21) (v := ?_) (by simp only [List.getElem?_toArray, List.getElem?_cons_succ, List.getElem?_cons_zero]; rfl) (by kernel_rfl) (by kernel_rfl) (by kernel_rfl) (by exact fun _ _ _ h => h) (Or.inl ⟨by rfl, ?_⟩) (by assumption) ?_
      rotate_left 1
      · (intro wS hSw; (try dsimp only at hSw); go_simp; try (with_reducible rfl))
      try simp only [Act.put, List.setIfInBounds_toArray, List.set_cons_zero, List.set_cons_succ]
      refine wpAnyH_take (i := 22) (v := ?_) (by simp only [List.getElem?_toArray, List.getElem?_cons_succ, List.getElem?_cons_zero]; rfl) (by kernel_rfl) (by kernel_rfl) (by kernel_rfl) (by exact fun _ _ _ h => h) (Or.inl ⟨by rfl, ?_⟩) (by assumption) ?_
      rotate_left 1
      · (intro wS hSw; (try dsimp only at hSw); go_simp; try (with_reducible rfl))
      try simp only [Act.put, List.setIfInBounds_toArray, List.set_cons_zero, List.set_cons_succ]
      refine wpAnyH_take (i := 23) (v := ?_) (by simp only [List.getElem?_toArray, List.getElem?_cons_succ, List.getElem?_cons_zero]; rfl) (by kernel_rfl) (by kernel_rfl) (by kernel_rfl) (by exact fun _ _ _ h => h) (Or.inl ⟨by rfl, ?_⟩) (by assumption) ?_
      rotate_left 1
      · (intro wS hSw; (try dsimp only at hSw); go_simp; try (with_reducible rfl))
      try simp only [Act.put, List.setIfInBounds_toArray, List.set_cons_zero, List.set_cons_succ]
      refine wpAnyH_take (i := 24) (v := ?_) (by simp only [List.getElem?_toArray, List.getElem?_cons_succ, List.getElem?_cons_zero]; rfl) (by kernel_rfl) (by kernel_rfl) (by kernel_rfl) (by exact fun _ _ _ h => h) (Or.inl ⟨by rfl, ?_⟩) (by assumption) ?_
      rotate_left 1
      · (intro wS hSw; (try dsimp only at hSw); go_simp; try (with_reducible rfl))
      try simp only [Act.put, List.setIfInBounds_toArray, List.set_cons_zero, List.set_cons_succ]
      refine wpAnyH_take (i := 25) (v := ?_) (by simp only [List.getElem?_toArray, List.getElem?_cons_succ, List.getElem?_cons_zero]; rfl) (by kernel_rfl) (by kernel_rfl) (by kernel_rfl) (by exact fun _ _ _ h => h) (Or.inl ⟨by rfl, ?_⟩) (by assumption) ?_
      rotate_left 1
      · (intro wS hSw; (try dsimp only at hSw); go_simp; try (with_reducible rfl))
      try simp only [Act.put, List.setIfInBounds_toArray, List.set_cons_zero, List.set_cons_succ]
      refine wpAnyH_take (i := 26) (v := ?_) (by simp only [List.getElem?_toArray, List.getElem?_cons_succ, List.getElem?_cons_zero]; rfl) (by kernel_rfl) (by kernel_rfl) (by kernel_rfl) (by exact fun _ _ _ h => h) (Or.inl ⟨by rfl, ?_⟩) (by assumption) ?_
      rotate_left 1
      · (intro wS hSw; (try dsimp only at hSw); go_simp; try (with_reducible rfl))
      try simp only [Act.put, List.setIfInBounds_toArray, List.set_cons_zero, List.set_cons_succ]
      refine wpAnyH_take (i := 27) (v := ?_) (by simp only [List.getElem?_toArray, List.getElem?_cons_succ, List.getElem?_cons_zero]; rfl) (by kernel_rfl) (by kernel_rfl) (by kernel_rfl) (by exact fun _ _ _ h => h) (Or.inl ⟨by rfl, ?_⟩) (by assumption) ?_
      rotate_left 1
      · (intro wS hSw; (try dsimp only at hSw); go_simp; try (with_reducible rfl))
      try simp only [Act.put, List.setIfInBounds_toArray, List.set_cons_zero, List.set_cons_succ]
      refine wpAnyH_take (i := 28) (v := ?_) (by simp only [List.getElem?_toArray, List.getElem?_cons_succ, List.getElem?_cons_zero]; rfl) (by kernel_rfl) (by kernel_rfl) (by kernel_rfl) (by exact fun _ _ _ h => h) (Or.inl ⟨by rfl, ?_⟩) (by assumption) ?_
      rotate_left 1
      · (intro wS hSw; (try dsimp only at hSw); go_simp; try (with_reducible rfl))
      try simp only [Act.put, List.setIfInBounds_toArray, List.set_cons_zero, List.set_cons_succ]
      refine wpAnyH_take (i := 29) (v := ?_) (by simp only [List.getElem?_toArray, List.getElem?_cons_succ, List.getElem?_cons_zero]; rfl) (by kernel_rfl) (by kernel_rfl) (by kernel_rfl) (by exact fun _ _ _ h => h) (Or.inl ⟨by rfl, ?_⟩) (by assumption) ?_
      rotate_left 1
      · (intro wS hSw; (try dsimp only at hSw); go_simp; try (with_reducible rfl))
      try simp only [Act.put, List.setIfInBounds_toArray, List.set_cons_zero, List.set_cons_succ]
      refine wpAnyH_take (i := 30) (v := ?_) (by simp only [List.getElem?_toArray, List.getElem?_cons_succ, List.getElem?_cons_zero]; rfl) (by kernel_rfl) (by kernel_rfl) (by kernel_rfl) (by exact fun _ _ _ h => h) (Or.inl ⟨by rfl, ?_⟩) (by assumption) ?_
      rotate_left 1
      · (intro wS hSw; (try dsimp only at hSw); go_simp; try (with_reducible rfl))
      try simp only [Act.put, List.setIfInBounds_toArray, List.set_cons_zero, List.set_cons_succ]
      refine wpAnyH_take (i := 31) (v := ?_) (by simp only [List.getElem?_toArray, List.getElem?_cons_succ, List.getElem?_cons_zero]; rfl) (by kernel_rfl) (by kernel_rfl) (by kernel_rfl) (by exact fun _ _ _ h => h) (Or.inl ⟨by rfl, ?_⟩) (by assumption) ?_
      rotate_left 1
      · (intro wS hSw; (try dsimp only at hSw); go_simp; try (with_reducible rfl))
      try simp only [Act.put, List.setIfInBounds_toArray, List.set_cons_zero, List.set_cons_succ]
      refine wpAnyH_take (i := 32) (v := ?_) (by simp only [List.getElem?_toArray, List.getElem?_cons_succ, List.getElem?_cons_zero]; rfl) (by kernel_rfl) (by kernel_rfl) (by kernel_rfl) (by exact fun _ _ _ h => h) (Or.inl ⟨by rfl, ?_⟩) (by assumption) ?_
      rotate_left 1
      · (intro wS hSw; (try dsimp only at hSw); go_simp; try (with_reducible rfl))
      try simp only [Act.put, List.setIfInBounds_toArray, List.set_cons_zero, List.set_cons_succ]
      refine wpAnyH_take (i := 33) (v := ?_) (by simp only [List.getElem?_toArray, List.getElem?_cons_succ, List.getElem?_cons_zero]; rfl) (by kernel_rfl) (by kernel_rfl) (by kernel_rfl) (by exact fun _ _ _ h => h) (Or.inl ⟨by rfl, ?_⟩) (by assumption) ?_
      rotate_left 1
      · (intro wS hSw; (try dsimp only at hSw); go_simp; try (with_reducible rfl))
      try simp only [Act.put, List.setIfInBounds_toArray, List.set_cons_zero, List.set_cons_succ]
      refine wpAnyH_take (i := 34) (v := ?_) (by simp only [List.getElem?_toArray, List.getElem?_cons_succ, List.getElem?_cons_zero]; rfl) (by kernel_rfl) (by kernel_rfl) (by kernel_rfl) (by exact fun _ _ _ h => h) (Or.inl ⟨by rfl, ?_⟩) (by assumption) ?_
      rotate_left 1
      · (intro wS hSw; (try dsimp only at hSw); go_simp; try (with_reducible rfl))
      try simp only [Act.put, List.setIfInBounds_toArray, List.set_cons_zero, List.set_cons_succ]
      refine wpAnyH_take (i := 35) (v := ?_) (by simp only [List.getElem?_toArray, List.getElem?_cons_succ, List.getElem?_cons_zero]; rfl) (by kernel_rfl) (by kernel_rfl) (by kernel_rfl) (by exact fun _ _ _ h => h) (Or.inl ⟨by rfl, ?_⟩) (by assumption) ?_
      rotate_left 1
      · (intro wS hSw; (try dsimp only at hSw); go_simp; try (with_reducible rfl))
      try simp only [Act.put, List.setIfInBounds_toArray, List.set_cons_zero, List.set_cons_succ]
      refine wpAnyH_take (i := 36) (v := ?_) (by simp only [List.getElem?_toArray, List.getElem?_cons_succ, List.getElem?_cons_zero]; rfl) (by kernel_rfl) (by kernel_rfl) (by kernel_rfl) (by exact fun _ _ _ h => h) (Or.inl ⟨by rfl, ?_⟩) (by assumption) ?_
      rotate_left 1
      · (intro wS hSw; (try dsimp only at hSw); go_simp; try (with_reducible rfl))
      try simp only [Act.put, List.setIfInBounds_toArray, List.set_cons_zero, List.set_cons_succ]
      refine wpAnyH_take (i := 37) (v := ?_) (by simp only [List.getElem?_toArray, List.getElem?_cons_succ, List.getElem?_cons_zero]; rfl) (by kernel_rfl) (by kernel_rfl) (by kernel_rfl) (by exact fun _ _ _ h => h) (Or.inl ⟨by rfl, ?_⟩) (by assumption) ?_
      rotate_left 1
      · (intro wS hSw; (try dsimp only at hSw); go_simp; try (with_reducible rfl))
      try simp only [Act.put, List.setIfInBounds_toArray, List.set_cons_zero, List.set_cons_succ]
      refine wpAnyH_take (i := 38) (v := ?_) (by simp only [List.getElem?_toArray, List.getElem?_cons_succ, List.getElem?_cons_zero]; rfl) (by kernel_rfl) (by kernel_rfl) (by kernel_rfl) (by exact fun _ _ _ h => h) (Or.inl ⟨by rfl, ?_⟩) (by assumption) ?_
      rotate_left 1
      · (intro wS hSw; (try dsimp only at hSw); go_simp; try (with_reducible rfl))
      try simp only [Act.put, List.setIfInBounds_toArray, List.set_cons_zero, List.set_cons_succ]
      clear hHeld
      refine wpAnyH_ready (rs := [39]) (by kernel_rfl) (by simp) ?_
      refine AllReadyH.cons (i := 39) (by simp only [List.getElem?_toArray, List.getElem?_cons_succ, List.getElem?_cons_zero]; rfl) (fun K hK => ?_) AllReadyH.nil
      go_simp
      (go_at_call 5; (with_reducible refine (HSu.out _ (HV8.out _ HS.out)).mono ?_); rintro e v9 ⟨rfl, hs9⟩; have hb9 := bel HS.out hs9.2; clear z0 z1 z2 z3 z4 z5 z6 y0 y1 y2 y3 y4 y5 y6 sA sg sl; obtain ⟨⟨z0, z1, z2, z3, z4, z5, z6⟩, ⟨y0, y1, y2, y3, y4, y5, y6⟩, sA, sg, sl⟩ := HY.out v9 hb9; (try clear HS); have HS : Hid (Below w8.heap.size w8 v9) := hb9; clear hs9 hb9)
      try (go_wp2_with fail)
      refine hK.out _ _ ?_ (fun hHeld => ?_)
      · ((try dsimp only); go_keep)
      clear hK K
      try simp only [Act.put, List.setIfInBounds_toArray, List.set_cons_zero, List.set_cons_succ]
      refine wpAnyH_take (i := 40) (v := ?_) (by simp only [List.getElem?_toArray, List.getElem?_cons_succ, List.getElem?_cons_zero]; rfl) (by kernel_rfl) (by kernel_rfl) (by kernel_rfl) (by exact fun _ _ _ h => h) (Or.inl ⟨by rfl, ?_⟩) (by assumption) ?_
      rotate_left 1
      · (intro wS hSw; (try dsimp only at hSw); go_simp; try (with_reducible rfl))
      try simp only [Act.put, List.setIfInBounds_toArray, List.set_cons_zero, List.set_cons_succ]
      refine wpAnyH_take (i := 41) (v := ?_) (by simp only [List.getElem?_toArray, List.getElem?_cons_succ, List.getElem?_cons_zero]; rfl) (by kernel_rfl) (by kernel_rfl) (by kernel_rfl) (by exact fun _ _ _ h => h) (Or.inl ⟨by rfl, ?_⟩) (by assumption) ?_
      rotate_left 1
      · (intro wS hSw; (try dsimp only at hSw); go_simp; try (with_reducible rfl))
      try simp only [Act.put, List.setIfInBounds_toArray, List.set_cons_zero, List.set_cons_succ]
      refine wpAnyH_done (by kernel_rfl) ?_ _
      skip
      go_wp2
      go_ret
      exact ⟨rfl, HBW.out.trans ((HV8.out _ HS.out).mono HBW.out.size)⟩

end Go.Proofs.Ytpidjmgifglmiab
