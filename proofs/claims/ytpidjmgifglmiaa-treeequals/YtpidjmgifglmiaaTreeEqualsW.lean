import Derived.Test.YtpidjmgifglmiaaTreeSure
import Derived.Test.YtpidjmgifglmiaaTreeRefEq
/- The walk of TreeEquals. -/
namespace Go.Proofs.Ytpidjmgifglmiaa
open Go.RowKit
set_option linter.unusedVariables false
set_option linter.unusedSimpArgs false

theorem strip_cnt (t : Nd) : cnt (strip t) = cnt t := by unfold cnt strip; simp only; rw [stripL_cnt]

set_option maxRecDepth 100000 in
set_option maxHeartbeats 8000000 in
theorem walk_TreeEquals (a : Nd) (pa : Option Addr) (ca : Nat) (hoka : ok1 a) (b : Nd) (pb : Option Addr) (cb : Nat) (hokb : ok1 b) (w : World) (hka : Kids w anyH (.slice pa a.args.length ca) a.args) (hkb : Kids w anyH (.slice pb b.args.length cb) b.args) :
    Calls Try.prog 4 #[nv a (.slice pa a.args.length ca), nv b (.slice pb b.args.length cb)] w fun e w' => e = .returned (.bool true) ∧ Below w.heap.size w w' := by
  have hb0 : Below w.heap.size w ((w.alloc (.cells #[.int .i64 a.kind, .string a.name, .int .u32 a.num, .int .i64 a.int_, .string a.key, .slice pa a.args.length ca, .int .i64 a.at_] 26)).alloc (.cells #[.int .i64 b.kind, .string b.name, .int .u32 b.num, .int .i64 b.int_, .string b.key, .slice pb b.args.length cb, .int .i64 b.at_] 26)) := bel (bel_alloc _ _) (bel_alloc _ _)
  have hx0 : ((w.alloc (.cells #[.int .i64 a.kind, .string a.name, .int .u32 a.num, .int .i64 a.int_, .string a.key, .slice pa a.args.length ca, .int .i64 a.at_] 26)).alloc (.cells #[.int .i64 b.kind, .string b.name, .int .u32 b.num, .int .i64 b.int_, .string b.key, .slice pb b.args.length cb, .int .i64 b.at_] 26)).heap[w.heap.size]? = some (.cells #[.int .i64 a.kind, .string a.name, .int .u32 a.num, .int .i64 a.int_, .string a.key, .slice pa a.args.length ca, .int .i64 a.at_] 26) := heap_old _ _ (box_heap _ _)
  have hy0 : ((w.alloc (.cells #[.int .i64 a.kind, .string a.name, .int .u32 a.num, .int .i64 a.int_, .string a.key, .slice pa a.args.length ca, .int .i64 a.at_] 26)).alloc (.cells #[.int .i64 b.kind, .string b.name, .int .u32 b.num, .int .i64 b.int_, .string b.key, .slice pb b.args.length cb, .int .i64 b.at_] 26)).heap[w.heap.size + 1]? = some (.cells #[.int .i64 b.kind, .string b.name, .int .u32 b.num, .int .i64 b.int_, .string b.key, .slice pb b.args.length cb, .int .i64 b.at_] 26) := two_heap _ _ _
  have HCL0 : Hid (∀ v, Below ((w.alloc (.cells #[.int .i64 a.kind, .string a.name, .int .u32 a.num, .int .i64 a.int_, .string a.key, .slice pa a.args.length ca, .int .i64 a.at_] 26)).alloc (.cells #[.int .i64 b.kind, .string b.name, .int .u32 b.num, .int .i64 b.int_, .string b.key, .slice pb b.args.length cb, .int .i64 b.at_] 26)).heap.size ((w.alloc (.cells #[.int .i64 a.kind, .string a.name, .int .u32 a.num, .int .i64 a.int_, .string a.key, .slice pa a.args.length ca, .int .i64 a.at_] 26)).alloc (.cells #[.int .i64 b.kind, .string b.name, .int .u32 b.num, .int .i64 b.int_, .string b.key, .slice pb b.args.length cb, .int .i64 b.at_] 26)) v → (v.cell? ⟨w.heap.size, 0, none⟩ = some (.int .i64 a.kind) ∧ v.cell? ⟨w.heap.size, 1, none⟩ = some (.string a.name) ∧ v.cell? ⟨w.heap.size, 2, none⟩ = some (.int .u32 a.num) ∧ v.cell? ⟨w.heap.size, 3, none⟩ = some (.int .i64 a.int_) ∧ v.cell? ⟨w.heap.size, 4, none⟩ = some (.string a.key) ∧ v.cell? ⟨w.heap.size, 5, none⟩ = some (.slice pa a.args.length ca) ∧ v.cell? ⟨w.heap.size, 6, none⟩ = some (.int .i64 a.at_)) ∧ (v.cell? ⟨w.heap.size + 1, 0, none⟩ = some (.int .i64 b.kind) ∧ v.cell? ⟨w.heap.size + 1, 1, none⟩ = some (.string b.name) ∧ v.cell? ⟨w.heap.size + 1, 2, none⟩ = some (.int .u32 b.num) ∧ v.cell? ⟨w.heap.size + 1, 3, none⟩ = some (.int .i64 b.int_) ∧ v.cell? ⟨w.heap.size + 1, 4, none⟩ = some (.string b.key) ∧ v.cell? ⟨w.heap.size + 1, 5, none⟩ = some (.slice pb b.args.length cb) ∧ v.cell? ⟨w.heap.size + 1, 6, none⟩ = some (.int .i64 b.at_))) := fun v hv => by
    have hx : v.heap[w.heap.size]? = some (.cells #[.int .i64 a.kind, .string a.name, .int .u32 a.num, .int .i64 a.int_, .string a.key, .slice pa a.args.length ca, .int .i64 a.at_] 26) := by rw [hv.block _ (hlt hx0)]; exact hx0
    have hy : v.heap[w.heap.size + 1]? = some (.cells #[.int .i64 b.kind, .string b.name, .int .u32 b.num, .int .i64 b.int_, .string b.key, .slice pb b.args.length cb, .int .i64 b.at_] 26) := by rw [hv.block _ (hlt hy0)]; exact hy0
    exact ⟨⟨cell_heap hx 0, cell_heap hx 1, cell_heap hx 2, cell_heap hx 3, cell_heap hx 4, cell_heap hx 5, cell_heap hx 6⟩, cell_heap hy 0, cell_heap hy 1, cell_heap hy 2, cell_heap hy 3, cell_heap hy 4, cell_heap hy 5, cell_heap hy 6⟩
  have HGA : Hid (∀ v, Below w.heap.size w v → Calls Try.prog 9 #[.agg #[.int .i64 a.kind, .string a.name, .int .u32 a.num, .int .i64 a.int_, .string a.key, .slice pa a.args.length ca, .int .i64 a.at_]] v fun e v' => e = .returned (.bool (decide (9000 < cnt a))) ∧ Below v.heap.size v v') := fun v hv => big_any a pa ca v (hka.below hv)
  have HGB : Hid (∀ v, Below w.heap.size w v → Calls Try.prog 9 #[.agg #[.int .i64 b.kind, .string b.name, .int .u32 b.num, .int .i64 b.int_, .string b.key, .slice pb b.args.length cb, .int .i64 b.at_]] v fun e v' => e = .returned (.bool (decide (9000 < cnt b))) ∧ Below v.heap.size v v') := fun v hv => big_any b pb cb v (hkb.below hv)
  have HW0 : Hid (Below w.heap.size w ((w.alloc (.cells #[.int .i64 a.kind, .string a.name, .int .u32 a.num, .int .i64 a.int_, .string a.key, .slice pa a.args.length ca, .int .i64 a.at_] 26)).alloc (.cells #[.int .i64 b.kind, .string b.name, .int .u32 b.num, .int .i64 b.int_, .string b.key, .slice pb b.args.length cb, .int .i64 b.at_] 26))) := hb0
  unfold nv
  by_cases hba : 9000 < cnt a
  · have e : decide (9000 < cnt a) = true := by simpa using hba
    rw [e] at HGA
    clear e hba hka hkb hoka hokb hx0 hy0 hb0 HGB
    go_enter Try.func4, Try.ntmps4
    go_wp2_with (first
      | (go_at_call 9; (with_reducible refine (HGA.out _ HW0.out).mono ?_); rintro e w1 ⟨rfl, hb1⟩; obtain ⟨⟨z0, z1, z2, z3, z4, z5, z6⟩, ⟨y0, y1, y2, y3, y4, y5, y6⟩⟩ := HCL0.out w1 hb1)
      | (go_at_call 10; (with_reducible refine (sure_any _).mono ?_); rintro e w2 ⟨rfl, hb2⟩))
    go_ret
    exact ⟨rfl, bel HW0.out (bel hb1 hb2)⟩
  have e : decide (9000 < cnt a) = false := by simpa using hba
  rw [e] at HGA
  clear e
  by_cases hbb : 9000 < cnt b
  · have e : decide (9000 < cnt b) = true := by simpa using hbb
    rw [e] at HGB
    clear e hba hbb hka hkb hoka hokb hx0 hy0 hb0
    go_enter Try.func4, Try.ntmps4
    go_wp2_with (first
      | (go_at_call 9; (with_reducible refine (HGA.out _ HW0.out).mono ?_); rintro e w1 ⟨rfl, hb1⟩; obtain ⟨⟨z0, z1, z2, z3, z4, z5, z6⟩, ⟨y0, y1, y2, y3, y4, y5, y6⟩⟩ := HCL0.out w1 hb1)
      | (go_at_call 9; (with_reducible refine (HGB.out _ (bel HW0.out hb1)).mono ?_); rintro e w3 ⟨rfl, hb3⟩)
      | (go_at_call 10; (with_reducible refine (sure_any _).mono ?_); rintro e w2 ⟨rfl, hb2⟩))
    go_ret
    exact ⟨rfl, bel HW0.out (bel hb1 (bel hb3 hb2))⟩
  have e : decide (9000 < cnt b) = false := by simpa using hbb
  rw [e] at HGB
  have hca : cnt a ≤ 9000 := by omega
  have hcb : cnt b ≤ 9000 := by omega
  have HX : Hid (∀ v, Below ((w.alloc (.cells #[.int .i64 a.kind, .string a.name, .int .u32 a.num, .int .i64 a.int_, .string a.key, .slice pa a.args.length ca, .int .i64 a.at_] 26)).alloc (.cells #[.int .i64 b.kind, .string b.name, .int .u32 b.num, .int .i64 b.int_, .string b.key, .slice pb b.args.length cb, .int .i64 b.at_] 26)).heap.size ((w.alloc (.cells #[.int .i64 a.kind, .string a.name, .int .u32 a.num, .int .i64 a.int_, .string a.key, .slice pa a.args.length ca, .int .i64 a.at_] 26)).alloc (.cells #[.int .i64 b.kind, .string b.name, .int .u32 b.num, .int .i64 b.int_, .string b.key, .slice pb b.args.length cb, .int .i64 b.at_] 26)) v → (v.heap[w.heap.size]? = some (.cells #[.int .i64 a.kind, .string a.name, .int .u32 a.num, .int .i64 a.int_, .string a.key, .slice pa a.args.length ca, .int .i64 a.at_] 26) ∧ v.heap[w.heap.size + 1]? = some (.cells #[.int .i64 b.kind, .string b.name, .int .u32 b.num, .int .i64 b.int_, .string b.key, .slice pb b.args.length cb, .int .i64 b.at_] 26)) ∧ Kids v anyH (.slice pa a.args.length ca) a.args ∧ Kids v anyH (.slice pb b.args.length cb) b.args) := fun v hv => ⟨⟨by rw [hv.block _ (hlt hx0)]; exact hx0, by rw [hv.block _ (hlt hy0)]; exact hy0⟩, hka.below (bel hb0 hv), hkb.below (bel hb0 hv)⟩
  have HOK : Hid ((ok1 a ∧ cnt a ≤ 9000) ∧ ok1 b ∧ cnt b ≤ 9000) := ⟨⟨hoka, hca⟩, hokb, hcb⟩
  clear e hba hbb hka hkb hoka hokb hx0 hy0 hb0 hca hcb
  go_enter Try.func4, Try.ntmps4
  go_upto_region 3 with (first
    | (go_at_call 9; (with_reducible refine (HGA.out _ HW0.out).mono ?_); rintro e w0 ⟨rfl, hb1⟩; obtain ⟨⟨z0, z1, z2, z3, z4, z5, z6⟩, ⟨y0, y1, y2, y3, y4, y5, y6⟩⟩ := HCL0.out w0 hb1)
    | (go_at_call 9; (with_reducible refine (HGB.out _ (bel HW0.out hb1)).mono ?_); rintro e w1 ⟨rfl, hb3⟩))
  have hb13 := bel hb1 hb3
  obtain ⟨⟨hx1, hy1⟩, hka, hkb⟩ := HX.out w1 hb13
  have hbw : Below w.heap.size w w1 := bel HW0.out hb13
  obtain ⟨⟨hoka, hca⟩, hokb, hcb⟩ := HOK.out
  clear HX HGA HGB HW0 HOK HCL0 hb1 hb3 hb13 z0 z1 z2 z3 z4 z5 z6 y0 y1 y2 y3 y4 y5 y6
  have HCL : Hid (∀ v, Below w1.heap.size w1 v → (v.cell? ⟨w.heap.size, 0, none⟩ = some (.int .i64 a.kind) ∧ v.cell? ⟨w.heap.size, 1, none⟩ = some (.string a.name) ∧ v.cell? ⟨w.heap.size, 2, none⟩ = some (.int .u32 a.num) ∧ v.cell? ⟨w.heap.size, 3, none⟩ = some (.int .i64 a.int_) ∧ v.cell? ⟨w.heap.size, 4, none⟩ = some (.string a.key) ∧ v.cell? ⟨w.heap.size, 5, none⟩ = some (.slice pa a.args.length ca) ∧ v.cell? ⟨w.heap.size, 6, none⟩ = some (.int .i64 a.at_)) ∧ (v.cell? ⟨w.heap.size + 1, 0, none⟩ = some (.int .i64 b.kind) ∧ v.cell? ⟨w.heap.size + 1, 1, none⟩ = some (.string b.name) ∧ v.cell? ⟨w.heap.size + 1, 2, none⟩ = some (.int .u32 b.num) ∧ v.cell? ⟨w.heap.size + 1, 3, none⟩ = some (.int .i64 b.int_) ∧ v.cell? ⟨w.heap.size + 1, 4, none⟩ = some (.string b.key) ∧ v.cell? ⟨w.heap.size + 1, 5, none⟩ = some (.slice pb b.args.length cb) ∧ v.cell? ⟨w.heap.size + 1, 6, none⟩ = some (.int .i64 b.at_))) := fun v hv => by
    have hx : v.heap[w.heap.size]? = some (.cells #[.int .i64 a.kind, .string a.name, .int .u32 a.num, .int .i64 a.int_, .string a.key, .slice pa a.args.length ca, .int .i64 a.at_] 26) := by rw [hv.block _ (hlt hx1)]; exact hx1
    have hy : v.heap[w.heap.size + 1]? = some (.cells #[.int .i64 b.kind, .string b.name, .int .u32 b.num, .int .i64 b.int_, .string b.key, .slice pb b.args.length cb, .int .i64 b.at_] 26) := by rw [hv.block _ (hlt hy1)]; exact hy1
    exact ⟨⟨cell_heap hx 0, cell_heap hx 1, cell_heap hx 2, cell_heap hx 3, cell_heap hx 4, cell_heap hx 5, cell_heap hx 6⟩, cell_heap hy 0, cell_heap hy 1, cell_heap hy 2, cell_heap hy 3, cell_heap hy 4, cell_heap hy 5, cell_heap hy 6⟩
  obtain ⟨r, hr⟩ : ∃ r, eqT a b = r := ⟨_, rfl⟩
  have HE1 : Hid (∀ (v : World), Below w1.heap.size w1 v → Calls Try.prog 15 #[.agg #[.int .i64 a.kind, .string a.name, .int .u32 a.num, .int .i64 a.int_, .string a.key, .slice pa a.args.length ca, .int .i64 a.at_], .agg #[.int .i64 b.kind, .string b.name, .int .u32 b.num, .int .i64 b.int_, .string b.key, .slice pb b.args.length cb, .int .i64 b.at_]] v fun e v' => e = .returned (.bool r) ∧ (Below w1.heap.size w1 v' ∧ Below v.heap.size v v')) := fun v hv => (equal_to (dep a) a b pa pb ca cb v (Nat.le_refl _) hca hcb (hka.below hv) (hkb.below hv)).mono fun e v' ⟨he, hb⟩ => ⟨by rw [he, hr], bel hv hb, hb⟩
  have HR1 : Hid (∀ (v : World), Below w1.heap.size w1 v → Calls Try.prog 16 #[.agg #[.int .i64 a.kind, .string a.name, .int .u32 a.num, .int .i64 a.int_, .string a.key, .slice pa a.args.length ca, .int .i64 a.at_], .agg #[.int .i64 b.kind, .string b.name, .int .u32 b.num, .int .i64 b.int_, .string b.key, .slice pb b.args.length cb, .int .i64 b.at_]] v fun e v' => e = .returned (.bool r) ∧ (Below w1.heap.size w1 v' ∧ Below v.heap.size v v')) := fun v hv => (requal_to (dep a) a b pa pb ca cb v (Nat.le_refl _) hca hcb (hka.below hv) (hkb.below hv)).mono fun e v' ⟨he, hb⟩ => ⟨by rw [he, hr], bel hv hb, hb⟩
  have HE2 : Hid (∀ (v : World), Below w1.heap.size w1 v → Calls Try.prog 15 #[.agg #[.int .i64 b.kind, .string b.name, .int .u32 b.num, .int .i64 b.int_, .string b.key, .slice pb b.args.length cb, .int .i64 b.at_], .agg #[.int .i64 a.kind, .string a.name, .int .u32 a.num, .int .i64 a.int_, .string a.key, .slice pa a.args.length ca, .int .i64 a.at_]] v fun e v' => e = .returned (.bool r) ∧ (Below w1.heap.size w1 v' ∧ Below v.heap.size v v')) := fun v hv => (equal_to (dep b) b a pb pa cb ca v (Nat.le_refl _) hcb hca (hkb.below hv) (hka.below hv)).mono fun e v' ⟨he, hb⟩ => ⟨by rw [he, eqT_comm, hr], bel hv hb, hb⟩
  have HE3 : Hid (∀ (v : World), Below w1.heap.size w1 v → Calls Try.prog 15 #[.agg #[.int .i64 b.kind, .string b.name, .int .u32 b.num, .int .i64 b.int_, .string b.key, .slice pb b.args.length cb, .int .i64 b.at_], .agg #[.int .i64 b.kind, .string b.name, .int .u32 b.num, .int .i64 b.int_, .string b.key, .slice pb b.args.length cb, .int .i64 b.at_]] v fun e v' => e = .returned (.bool true) ∧ (Below w1.heap.size w1 v' ∧ Below v.heap.size v v')) := fun v hv => (equal_to (dep b) b b pb pb cb cb v (Nat.le_refl _) hcb hcb (hkb.below hv) (hkb.below hv)).mono fun e v' ⟨he, hb⟩ => ⟨by rw [he, eqT_self], bel hv hb, hb⟩
  have HStr : Hid (∀ (v : World), Below w1.heap.size w1 v → Calls Try.prog 17 #[.agg #[.int .i64 a.kind, .string a.name, .int .u32 a.num, .int .i64 a.int_, .string a.key, .slice pa a.args.length ca, .int .i64 a.at_]] v fun e v' => ∃ q m d, e = .returned (.agg #[.int .i64 a.kind, .string a.name, .int .u32 a.num, .int .i64 a.int_, .string a.key, .slice q m d, .int .i64 0]) ∧ Kids v' anyH (.slice q m d) (stripL a.args) ∧ (Below w1.heap.size w1 v' ∧ Below v.heap.size v v')) := fun v hv => (strip_any a _ v hca hoka (hka.below hv)).mono fun e v' ⟨q, d, he, hkk, hb⟩ => ⟨q, _, d, he, hkk.weak (fun _ _ _ _ => trivial), bel hv hb, hb⟩
  have HE4 : Hid (∀ (v : World) (q : Option Addr) (m d : Nat), Below w1.heap.size w1 v → Kids v anyH (.slice q m d) (stripL a.args) → Calls Try.prog 15 #[.agg #[.int .i64 a.kind, .string a.name, .int .u32 a.num, .int .i64 a.int_, .string a.key, .slice pa a.args.length ca, .int .i64 a.at_], .agg #[.int .i64 a.kind, .string a.name, .int .u32 a.num, .int .i64 a.int_, .string a.key, .slice q m d, .int .i64 0]] v fun e v' => e = .returned (.bool true) ∧ (Below w1.heap.size w1 v' ∧ Below v.heap.size v v')) := fun v q m d hv ha => by
    obtain ⟨_, _, e1, -⟩ := id ha
    simp only [Value.slice.injEq] at e1
    obtain ⟨-, rfl, -⟩ := e1
    exact (equal_to (dep a) a (strip a) pa q ca d v (Nat.le_refl _) hca (by rw [strip_cnt]; exact hca) (hka.below hv) ha).mono fun e v' ⟨he, hb⟩ => ⟨by rw [he, eqT_strip], bel hv hb, hb⟩
  have HSu : Hid (∀ (v : World), Below w1.heap.size w1 v → Calls Try.prog 10 #[] v fun e v' => e = .returned (.bool true) ∧ (Below w1.heap.size w1 v' ∧ Below v.heap.size v v')) := fun v hv => (sure_any v).mono fun e v' ⟨he, hb⟩ => ⟨he, bel hv hb, hb⟩
  have HS : Hid (Below w1.heap.size w1 w1.drew) := bel_d _
  obtain ⟨⟨z0, z1, z2, z3, z4, z5, z6⟩, ⟨y0, y1, y2, y3, y4, y5, y6⟩⟩ := HCL.out w1 (bel0 w1)
  have HBW : Hid (Below w.heap.size w w1) := hbw
  clear hka hkb hx1 hy1 hoka hokb hca hcb hbw hr
  refine wp_region_held_drew (S := (fun w' => w'.cell? ⟨w.heap.size, 0, none⟩ = some (.int .i64 a.kind) ∧ w'.cell? ⟨w.heap.size, 1, none⟩ = some (.string a.name) ∧ w'.cell? ⟨w.heap.size, 2, none⟩ = some (.int .u32 a.num) ∧ w'.cell? ⟨w.heap.size, 3, none⟩ = some (.int .i64 a.int_) ∧ w'.cell? ⟨w.heap.size, 4, none⟩ = some (.string a.key) ∧ w'.cell? ⟨w.heap.size, 5, none⟩ = some (.slice pa a.args.length ca) ∧ w'.cell? ⟨w.heap.size, 6, none⟩ = some (.int .i64 a.at_) ∧ w'.cell? ⟨w.heap.size + 1, 0, none⟩ = some (.int .i64 b.kind) ∧ w'.cell? ⟨w.heap.size + 1, 1, none⟩ = some (.string b.name) ∧ w'.cell? ⟨w.heap.size + 1, 2, none⟩ = some (.int .u32 b.num) ∧ w'.cell? ⟨w.heap.size + 1, 3, none⟩ = some (.int .i64 b.int_) ∧ w'.cell? ⟨w.heap.size + 1, 4, none⟩ = some (.string b.key) ∧ w'.cell? ⟨w.heap.size + 1, 5, none⟩ = some (.slice pb b.args.length cb) ∧ w'.cell? ⟨w.heap.size + 1, 6, none⟩ = some (.int .i64 b.at_))) (by kernel_rfl) ?_ (fun hHeld => ?_)
  · ((try dsimp only); go_keep)
  refine wpAnyH_take (i := 0) (v := ?_) (by simp only [List.getElem?_toArray, List.getElem?_cons_succ, List.getElem?_cons_zero]; rfl) (by kernel_rfl) (by kernel_rfl) (by kernel_rfl) (by exact fun _ _ _ h => h) (Or.inl ⟨by rfl, ?_⟩) (by assumption) ?_
  rotate_left 1
  · (intro wS hSw; (try dsimp only at hSw); go_simp; try (with_reducible rfl))
  try simp only [Act.put, List.setIfInBounds_toArray, List.set_cons_zero, List.set_cons_succ]
  refine wpAnyH_take (i := 1) (v := ?_) (by simp only [List.getElem?_toArray, List.getElem?_cons_succ, List.getElem?_cons_zero]; rfl) (by kernel_rfl) (by kernel_rfl) (by kernel_rfl) (by exact fun _ _ _ h => h) (Or.inl ⟨by rfl, ?_⟩) (by assumption) ?_
  rotate_left 1
  · (intro wS hSw; (try dsimp only at hSw); go_simp; try (with_reducible rfl))
  try simp only [Act.put, List.setIfInBounds_toArray, List.set_cons_zero, List.set_cons_succ]
  refine wpAnyH_take (i := 3) (v := ?_) (by simp only [List.getElem?_toArray, List.getElem?_cons_succ, List.getElem?_cons_zero]; rfl) (by kernel_rfl) (by kernel_rfl) (by kernel_rfl) (by exact fun _ _ _ h => h) (Or.inl ⟨by rfl, ?_⟩) (by assumption) ?_
  rotate_left 1
  · (intro wS hSw; (try dsimp only at hSw); go_simp; try (with_reducible rfl))
  try simp only [Act.put, List.setIfInBounds_toArray, List.set_cons_zero, List.set_cons_succ]
  refine wpAnyH_take (i := 4) (v := ?_) (by simp only [List.getElem?_toArray, List.getElem?_cons_succ, List.getElem?_cons_zero]; rfl) (by kernel_rfl) (by kernel_rfl) (by kernel_rfl) (by exact fun _ _ _ h => h) (Or.inl ⟨by rfl, ?_⟩) (by assumption) ?_
  rotate_left 1
  · (intro wS hSw; (try dsimp only at hSw); go_simp; try (with_reducible rfl))
  try simp only [Act.put, List.setIfInBounds_toArray, List.set_cons_zero, List.set_cons_succ]
  clear hHeld
  refine wpAnyH_ready (rs := [2]) (by kernel_rfl) (by simp) ?_
  refine AllReadyH.cons (i := 2) (by simp only [List.getElem?_toArray, List.getElem?_cons_succ, List.getElem?_cons_zero]; rfl) (fun K hK => ?_) AllReadyH.nil
  go_simp
  (go_at_call 15; (with_reducible refine (HE1.out _ HS.out).mono ?_); rintro e w2 ⟨rfl, hs2⟩; clear z0 z1 z2 z3 z4 z5 z6 y0 y1 y2 y3 y4 y5 y6; obtain ⟨⟨z0, z1, z2, z3, z4, z5, z6⟩, ⟨y0, y1, y2, y3, y4, y5, y6⟩⟩ := HCL.out w2 hs2.1; (try clear HS); have HS : Hid (Below w1.heap.size w1 w2) := hs2.1; clear hs2)
  try (go_wp2_with fail)
  refine hK.out _ _ ?_ (fun hHeld => ?_)
  · ((try dsimp only); go_keep)
  clear hK K
  try simp only [Act.put, List.setIfInBounds_toArray, List.set_cons_zero, List.set_cons_succ]
  clear hHeld
  refine wpAnyH_ready (rs := [5]) (by kernel_rfl) (by simp) ?_
  refine AllReadyH.cons (i := 5) (by simp only [List.getElem?_toArray, List.getElem?_cons_succ, List.getElem?_cons_zero]; rfl) (fun K hK => ?_) AllReadyH.nil
  go_simp
  (go_at_call 16; (with_reducible refine (HR1.out _ HS.out).mono ?_); rintro e w2 ⟨rfl, hs2⟩; clear z0 z1 z2 z3 z4 z5 z6 y0 y1 y2 y3 y4 y5 y6; obtain ⟨⟨z0, z1, z2, z3, z4, z5, z6⟩, ⟨y0, y1, y2, y3, y4, y5, y6⟩⟩ := HCL.out w2 hs2.1; (try clear HS); have HS : Hid (Below w1.heap.size w1 w2) := hs2.1; clear hs2)
  try (go_wp2_with fail)
  refine hK.out _ _ ?_ (fun hHeld => ?_)
  · ((try dsimp only); go_keep)
  clear hK K
  try simp only [Act.put, List.setIfInBounds_toArray, List.set_cons_zero, List.set_cons_succ]
  refine wpAnyH_take (i := 6) (v := ?_) (by simp only [List.getElem?_toArray, List.getElem?_cons_succ, List.getElem?_cons_zero]; rfl) (by kernel_rfl) (by kernel_rfl) (by kernel_rfl) (by exact fun _ _ _ h => h) (Or.inl ⟨by rfl, ?_⟩) (by assumption) ?_
  rotate_left 1
  · (intro wS hSw; (try dsimp only at hSw); go_simp; try (with_reducible rfl))
  try simp only [Act.put, List.setIfInBounds_toArray, List.set_cons_zero, List.set_cons_succ]
  refine wpAnyH_take (i := 7) (v := ?_) (by simp only [List.getElem?_toArray, List.getElem?_cons_succ, List.getElem?_cons_zero]; rfl) (by kernel_rfl) (by kernel_rfl) (by kernel_rfl) (by exact fun _ _ _ h => h) (Or.inl ⟨by rfl, ?_⟩) (by assumption) ?_
  rotate_left 1
  · (intro wS hSw; (try dsimp only at hSw); go_simp; try (with_reducible rfl))
  try simp only [Act.put, List.setIfInBounds_toArray, List.set_cons_zero, List.set_cons_succ]
  refine wpAnyH_take (i := 8) (v := ?_) (by simp only [List.getElem?_toArray, List.getElem?_cons_succ, List.getElem?_cons_zero]; rfl) (by kernel_rfl) (by kernel_rfl) (by kernel_rfl) (by exact fun _ _ _ h => h) (Or.inl ⟨by rfl, ?_⟩) (by assumption) ?_
  rotate_left 1
  · (intro wS hSw; (try dsimp only at hSw); go_simp; try (with_reducible rfl))
  try simp only [Act.put, List.setIfInBounds_toArray, List.set_cons_zero, List.set_cons_succ]
  refine wpAnyH_take (i := 9) (v := ?_) (by simp only [List.getElem?_toArray, List.getElem?_cons_succ, List.getElem?_cons_zero]; rfl) (by kernel_rfl) (by kernel_rfl) (by kernel_rfl) (by exact fun _ _ _ h => h) (Or.inl ⟨by rfl, ?_⟩) (by assumption) ?_
  rotate_left 1
  · (intro wS hSw; (try dsimp only at hSw); go_simp; try (with_reducible rfl))
  try simp only [Act.put, List.setIfInBounds_toArray, List.set_cons_zero, List.set_cons_succ]
  refine wpAnyH_take (i := 11) (v := ?_) (by simp only [List.getElem?_toArray, List.getElem?_cons_succ, List.getElem?_cons_zero]; rfl) (by kernel_rfl) (by kernel_rfl) (by kernel_rfl) (by exact fun _ _ _ h => h) (Or.inl ⟨by rfl, ?_⟩) (by assumption) ?_
  rotate_left 1
  · (intro wS hSw; (try dsimp only at hSw); go_simp; try (with_reducible rfl))
  try simp only [Act.put, List.setIfInBounds_toArray, List.set_cons_zero, List.set_cons_succ]
  refine wpAnyH_take (i := 12) (v := ?_) (by simp only [List.getElem?_toArray, List.getElem?_cons_succ, List.getElem?_cons_zero]; rfl) (by kernel_rfl) (by kernel_rfl) (by kernel_rfl) (by exact fun _ _ _ h => h) (Or.inl ⟨by rfl, ?_⟩) (by assumption) ?_
  rotate_left 1
  · (intro wS hSw; (try dsimp only at hSw); go_simp; try (with_reducible rfl))
  try simp only [Act.put, List.setIfInBounds_toArray, List.set_cons_zero, List.set_cons_succ]
  clear hHeld
  refine wpAnyH_ready (rs := [10]) (by kernel_rfl) (by simp) ?_
  refine AllReadyH.cons (i := 10) (by simp only [List.getElem?_toArray, List.getElem?_cons_succ, List.getElem?_cons_zero]; rfl) (fun K hK => ?_) AllReadyH.nil
  go_simp
  (go_at_call 15; (with_reducible refine (HE2.out _ HS.out).mono ?_); rintro e w2 ⟨rfl, hs2⟩; clear z0 z1 z2 z3 z4 z5 z6 y0 y1 y2 y3 y4 y5 y6; obtain ⟨⟨z0, z1, z2, z3, z4, z5, z6⟩, ⟨y0, y1, y2, y3, y4, y5, y6⟩⟩ := HCL.out w2 hs2.1; (try clear HS); have HS : Hid (Below w1.heap.size w1 w2) := hs2.1; clear hs2)
  try (go_wp2_with fail)
  refine hK.out _ _ ?_ (fun hHeld => ?_)
  · ((try dsimp only); go_keep)
  clear hK K
  try simp only [Act.put, List.setIfInBounds_toArray, List.set_cons_zero, List.set_cons_succ]
  clear hHeld
  refine wpAnyH_ready (rs := [13]) (by kernel_rfl) (by simp) ?_
  refine AllReadyH.cons (i := 13) (by simp only [List.getElem?_toArray, List.getElem?_cons_succ, List.getElem?_cons_zero]; rfl) (fun K hK => ?_) AllReadyH.nil
  go_simp
  (go_at_call 16; (with_reducible refine (HR1.out _ HS.out).mono ?_); rintro e w2 ⟨rfl, hs2⟩; clear z0 z1 z2 z3 z4 z5 z6 y0 y1 y2 y3 y4 y5 y6; obtain ⟨⟨z0, z1, z2, z3, z4, z5, z6⟩, ⟨y0, y1, y2, y3, y4, y5, y6⟩⟩ := HCL.out w2 hs2.1; (try clear HS); have HS : Hid (Below w1.heap.size w1 w2) := hs2.1; clear hs2)
  try (go_wp2_with fail)
  refine hK.out _ _ ?_ (fun hHeld => ?_)
  · ((try dsimp only); go_keep)
  clear hK K
  try simp only [Act.put, List.setIfInBounds_toArray, List.set_cons_zero, List.set_cons_succ]
  refine wpAnyH_take (i := 14) (v := ?_) (by simp only [List.getElem?_toArray, List.getElem?_cons_succ, List.getElem?_cons_zero]; rfl) (by kernel_rfl) (by kernel_rfl) (by kernel_rfl) (by exact fun _ _ _ h => h) (Or.inl ⟨by rfl, ?_⟩) (by assumption) ?_
  rotate_left 1
  · (intro wS hSw; (try dsimp only at hSw); go_simp; try (with_reducible rfl))
  try simp only [Act.put, List.setIfInBounds_toArray, List.set_cons_zero, List.set_cons_succ]
  refine wpAnyH_take (i := 15) (v := ?_) (by simp only [List.getElem?_toArray, List.getElem?_cons_succ, List.getElem?_cons_zero]; rfl) (by kernel_rfl) (by kernel_rfl) (by kernel_rfl) (by exact fun _ _ _ h => h) (Or.inl ⟨by rfl, ?_⟩) (by assumption) ?_
  rotate_left 1
  · (intro wS hSw; (try dsimp only at hSw); go_simp; try (with_reducible rfl))
  try simp only [Act.put, List.setIfInBounds_toArray, List.set_cons_zero, List.set_cons_succ]
  refine wpAnyH_take (i := 16) (v := ?_) (by simp only [List.getElem?_toArray, List.getElem?_cons_succ, List.getElem?_cons_zero]; rfl) (by kernel_rfl) (by kernel_rfl) (by kernel_rfl) (by exact fun _ _ _ h => h) (Or.inl ⟨by rfl, ?_⟩) (by assumption) ?_
  rotate_left 1
  · (intro wS hSw; (try dsimp only at hSw); go_simp; try (with_reducible rfl))
  try simp only [Act.put, List.setIfInBounds_toArray, List.set_cons_zero, List.set_cons_succ]
  refine wpAnyH_take (i := 17) (v := ?_) (by simp only [List.getElem?_toArray, List.getElem?_cons_succ, List.getElem?_cons_zero]; rfl) (by kernel_rfl) (by kernel_rfl) (by kernel_rfl) (by exact fun _ _ _ h => h) (Or.inl ⟨by rfl, ?_⟩) (by assumption) ?_
  rotate_left 1
  · (intro wS hSw; (try dsimp only at hSw); go_simp; try (with_reducible rfl))
  try simp only [Act.put, List.setIfInBounds_toArray, List.set_cons_zero, List.set_cons_succ]
  refine wpAnyH_take (i := 18) (v := ?_) (by simp only [List.getElem?_toArray, List.getElem?_cons_succ, List.getElem?_cons_zero]; rfl) (by kernel_rfl) (by kernel_rfl) (by kernel_rfl) (by exact fun _ _ _ h => h) (Or.inl ⟨by rfl, ?_⟩) (by assumption) ?_
  rotate_left 1
  · (intro wS hSw; (try dsimp only at hSw); go_simp; try (with_reducible rfl))
  try simp only [Act.put, List.setIfInBounds_toArray, List.set_cons_zero, List.set_cons_succ]
  clear hHeld
  refine wpAnyH_ready (rs := [19]) (by kernel_rfl) (by simp) ?_
  refine AllReadyH.cons (i := 19) (by simp only [List.getElem?_toArray, List.getElem?_cons_succ, List.getElem?_cons_zero]; rfl) (fun K hK => ?_) AllReadyH.nil
  go_simp
  (go_at_call 17; (with_reducible refine (HStr.out _ HS.out).mono ?_); rintro e w2 ⟨q1, m1, d1, rfl, hk2, hs2⟩; clear z0 z1 z2 z3 z4 z5 z6 y0 y1 y2 y3 y4 y5 y6; obtain ⟨⟨z0, z1, z2, z3, z4, z5, z6⟩, ⟨y0, y1, y2, y3, y4, y5, y6⟩⟩ := HCL.out w2 hs2.1; (try clear HS); have HS : Hid (Below w1.heap.size w1 w2) := hs2.1; have HK1 : Hid (Kids w2 anyH (.slice q1 m1 d1) (stripL a.args)) := hk2; clear hk2; clear hs2)
  try (go_wp2_with fail)
  refine hK.out _ _ ?_ (fun hHeld => ?_)
  · ((try dsimp only); go_keep)
  clear hK K
  try simp only [Act.put, List.setIfInBounds_toArray, List.set_cons_zero, List.set_cons_succ]
  clear hHeld
  refine wpAnyH_ready (rs := [20]) (by kernel_rfl) (by simp) ?_
  refine AllReadyH.cons (i := 20) (by simp only [List.getElem?_toArray, List.getElem?_cons_succ, List.getElem?_cons_zero]; rfl) (fun K hK => ?_) AllReadyH.nil
  go_simp
  (go_at_call 15; (with_reducible refine (HE4.out _ _ _ _ HS.out HK1.out).mono ?_); rintro e w2 ⟨rfl, hs2⟩; clear z0 z1 z2 z3 z4 z5 z6 y0 y1 y2 y3 y4 y5 y6; obtain ⟨⟨z0, z1, z2, z3, z4, z5, z6⟩, ⟨y0, y1, y2, y3, y4, y5, y6⟩⟩ := HCL.out w2 hs2.1; (try clear HS); have HS : Hid (Below w1.heap.size w1 w2) := hs2.1; clear hs2)
  try (go_wp2_with fail)
  refine hK.out _ _ ?_ (fun hHeld => ?_)
  · ((try dsimp only); go_keep)
  clear hK K
  try simp only [Act.put, List.setIfInBounds_toArray, List.set_cons_zero, List.set_cons_succ]
  refine wpAnyH_take (i := 21) (v := ?_) (by simp only [List.getElem?_toArray, List.getElem?_cons_succ, List.getElem?_cons_zero]; rfl) (by kernel_rfl) (by kernel_rfl) (by kernel_rfl) (by exact fun _ _ _ h => h) (Or.inl ⟨by rfl, ?_⟩) (by assumption) ?_
  rotate_left 1
  · (intro wS hSw; (try dsimp only at hSw); go_simp; try (with_reducible rfl))
  try simp only [Act.put, List.setIfInBounds_toArray, List.set_cons_zero, List.set_cons_succ]
  refine wpAnyH_take (i := 22) (v := ?_) (by simp only [List.getElem?_toArray, List.getElem?_cons_succ, List.getElem?_cons_zero]; rfl) (by kernel_rfl) (by kernel_rfl) (by kernel_rfl) (by exact fun _ _ _ h => h) (Or.inl ⟨by rfl, ?_⟩) (by assumption) ?_
  rotate_left 1
  · (intro wS hSw; (try dsimp only at hSw); go_simp; try (with_reducible rfl))
  try simp only [Act.put, List.setIfInBounds_toArray, List.set_cons_zero, List.set_cons_succ]
  refine wpAnyH_take (i := 23) (v := ?_) (by simp only [List.getElem?_toArray, List.getElem?_cons_succ, List.getElem?_cons_zero]; rfl) (by kernel_rfl) (by kernel_rfl) (by kernel_rfl) (by exact fun _ _ _ h => h) (Or.inl ⟨by rfl, ?_⟩) (by assumption) ?_
  rotate_left 1
  · (intro wS hSw; (try dsimp only at hSw); go_simp; try (with_reducible rfl))
  try simp only [Act.put, List.setIfInBounds_toArray, List.set_cons_zero, List.set_cons_succ]
  refine wpAnyH_take (i := 24) (v := ?_) (by simp only [List.getElem?_toArray, List.getElem?_cons_succ, List.getElem?_cons_zero]; rfl) (by kernel_rfl) (by kernel_rfl) (by kernel_rfl) (by exact fun _ _ _ h => h) (Or.inl ⟨by rfl, ?_⟩) (by assumption) ?_
  rotate_left 1
  · (intro wS hSw; (try dsimp only at hSw); go_simp; try (with_reducible rfl))
  try simp only [Act.put, List.setIfInBounds_toArray, List.set_cons_zero, List.set_cons_succ]
  clear hHeld
  refine wpAnyH_ready (rs := [25]) (by kernel_rfl) (by simp) ?_
  refine AllReadyH.cons (i := 25) (by simp only [List.getElem?_toArray, List.getElem?_cons_succ, List.getElem?_cons_zero]; rfl) (fun K hK => ?_) AllReadyH.nil
  go_simp
  (go_at_call 15; (with_reducible refine (HE3.out _ HS.out).mono ?_); rintro e w2 ⟨rfl, hs2⟩; clear z0 z1 z2 z3 z4 z5 z6 y0 y1 y2 y3 y4 y5 y6; obtain ⟨⟨z0, z1, z2, z3, z4, z5, z6⟩, ⟨y0, y1, y2, y3, y4, y5, y6⟩⟩ := HCL.out w2 hs2.1; (try clear HS); have HS : Hid (Below w1.heap.size w1 w2) := hs2.1; clear hs2)
  try (go_wp2_with fail)
  refine hK.out _ _ ?_ (fun hHeld => ?_)
  · ((try dsimp only); go_keep)
  clear hK K
  try simp only [Act.put, List.setIfInBounds_toArray, List.set_cons_zero, List.set_cons_succ]
  refine wpAnyH_take (i := 26) (v := ?_) (by simp only [List.getElem?_toArray, List.getElem?_cons_succ, List.getElem?_cons_zero]; rfl) (by kernel_rfl) (by kernel_rfl) (by kernel_rfl) (by exact fun _ _ _ h => h) (Or.inl ⟨by rfl, ?_⟩) (by assumption) ?_
  rotate_left 1
  · (intro wS hSw; (try dsimp only at hSw); go_simp; try (with_reducible rfl))
  try simp only [Act.put, List.setIfInBounds_toArray, List.set_cons_zero, List.set_cons_succ]
  refine wpAnyH_take (i := 27) (v := ?_) (by simp only [List.getElem?_toArray, List.getElem?_cons_succ, List.getElem?_cons_zero]; rfl) (by kernel_rfl) (by kernel_rfl) (by kernel_rfl) (by exact fun _ _ _ h => h) (Or.inl ⟨by rfl, ?_⟩) (by assumption) ?_
  rotate_left 1
  · (intro wS hSw; (try dsimp only at hSw); go_simp; try (with_reducible rfl))
  try simp only [Act.put, List.setIfInBounds_toArray, List.set_cons_zero, List.set_cons_succ]
  clear hHeld
  refine wpAnyH_ready (rs := [28]) (by kernel_rfl) (by simp) ?_
  refine AllReadyH.cons (i := 28) (by simp only [List.getElem?_toArray, List.getElem?_cons_succ, List.getElem?_cons_zero]; rfl) (fun K hK => ?_) AllReadyH.nil
  go_simp
  (go_at_call 10; (with_reducible refine (HSu.out _ HS.out).mono ?_); rintro e w2 ⟨rfl, hs2⟩; clear z0 z1 z2 z3 z4 z5 z6 y0 y1 y2 y3 y4 y5 y6; obtain ⟨⟨z0, z1, z2, z3, z4, z5, z6⟩, ⟨y0, y1, y2, y3, y4, y5, y6⟩⟩ := HCL.out w2 hs2.1; (try clear HS); have HS : Hid (Below w1.heap.size w1 w2) := hs2.1; clear hs2)
  try (go_wp2_with fail)
  refine hK.out _ _ ?_ (fun hHeld => ?_)
  · ((try dsimp only); go_keep)
  clear hK K
  try simp only [Act.put, List.setIfInBounds_toArray, List.set_cons_zero, List.set_cons_succ]
  refine wpAnyH_take (i := 29) (v := ?_) (by simp only [List.getElem?_toArray, List.getElem?_cons_succ, List.getElem?_cons_zero]; rfl) (by kernel_rfl) (by kernel_rfl) (by kernel_rfl) (by exact fun _ _ _ h => h) (Or.inl ⟨by rfl, ?_⟩) (by assumption) ?_
  rotate_left 1
  · (intro wS hSw; (try dsimp only at hSw); go_simp; try (with_reducible rfl))
  try simp only [Act.put, List.setIfInBounds_toArray, List.set_cons_zero, List.set_cons_succ]
  refine wpAnyH_take (i := 30) (v := ?_) (by simp only [List.getElem?_toArray, List.getElem?_cons_succ, List.getElem?_cons_zero]; rfl) (by kernel_rfl) (by kernel_rfl) (by kernel_rfl) (by exact fun _ _ _ h => h) (Or.inl ⟨by rfl, ?_⟩) (by assumption) ?_
  rotate_left 1
  · (intro wS hSw; (try dsimp only at hSw); go_simp; try (with_reducible rfl))
  try simp only [Act.put, List.setIfInBounds_toArray, List.set_cons_zero, List.set_cons_succ]
  refine wpAnyH_done (by kernel_rfl) ?_ _
  go_wp2
  go_ret
  exact ⟨rfl, bel HBW.out HS.out⟩

end Go.Proofs.Ytpidjmgifglmiaa
