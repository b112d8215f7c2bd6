import Derived.Test.YtpidjmgifglmiaaTreeRefFirst
/- The reference's Check. -/
namespace Go.Proofs.Ytpidjmgifglmiaa
open Go.RowKit
set_option linter.unusedVariables false
set_option linter.unusedSimpArgs false

theorem agree_root {t : Nd} (h : t.key.toList.isEmpty = true ∨ (64 < t.name.size ∨ 64 < t.key.size)) : Agree t false none := by
  intro hl
  rcases h with h | h
  · unfold keyP standsP
    simp only
    rw [h]
    simp
  · exact absurd h hl

set_option maxRecDepth 100000 in
set_option maxHeartbeats 4000000 in
theorem rcheck_any (t : Nd) (p : Option Addr) (c : Nat) (w : World) (hc : cnt t ≤ 9000) (hok : ok1 t) (hk : Kids w anyH (.slice p t.args.length c) t.args) :
    Calls Try.prog 13 #[nv t (.slice p t.args.length c)] w fun e w' => e = .returned (.int .i64 (checkP t)) ∧ Below w.heap.size w w' := by
  have hb0 := bel_alloc w (.cells #[.int .i64 t.kind, .string t.name, .int .u32 t.num, .int .i64 t.int_, .string t.key, .slice p t.args.length c, .int .i64 t.at_] 26)
  have hx0 := box_heap w (.cells #[.int .i64 t.kind, .string t.name, .int .u32 t.num, .int .i64 t.int_, .string t.key, .slice p t.args.length c, .int .i64 t.at_] 26)
  have HW0 : Hid (Below w.heap.size w (w.alloc (.cells #[.int .i64 t.kind, .string t.name, .int .u32 t.num, .int .i64 t.int_, .string t.key, .slice p t.args.length c, .int .i64 t.at_] 26))) := hb0
  have HCL : Hid (∀ v, Below (w.alloc (.cells #[.int .i64 t.kind, .string t.name, .int .u32 t.num, .int .i64 t.int_, .string t.key, .slice p t.args.length c, .int .i64 t.at_] 26)).heap.size (w.alloc (.cells #[.int .i64 t.kind, .string t.name, .int .u32 t.num, .int .i64 t.int_, .string t.key, .slice p t.args.length c, .int .i64 t.at_] 26)) v → v.cell? ⟨w.heap.size, 0, none⟩ = some (.int .i64 t.kind) ∧ v.cell? ⟨w.heap.size, 1, none⟩ = some (.string t.name) ∧ v.cell? ⟨w.heap.size, 2, none⟩ = some (.int .u32 t.num) ∧ v.cell? ⟨w.heap.size, 3, none⟩ = some (.int .i64 t.int_) ∧ v.cell? ⟨w.heap.size, 4, none⟩ = some (.string t.key) ∧ v.cell? ⟨w.heap.size, 5, none⟩ = some (.slice p t.args.length c) ∧ v.cell? ⟨w.heap.size, 6, none⟩ = some (.int .i64 t.at_)) := fun v hv => by
    have hx : v.heap[w.heap.size]? = some (.cells #[.int .i64 t.kind, .string t.name, .int .u32 t.num, .int .i64 t.int_, .string t.key, .slice p t.args.length c, .int .i64 t.at_] 26) := by rw [hv.block _ (hlt hx0)]; exact hx0
    exact ⟨cell_heap hx 0, cell_heap hx 1, cell_heap hx 2, cell_heap hx 3, cell_heap hx 4, cell_heap hx 5, cell_heap hx 6⟩
  have HDep : Hid (∀ (v : World), Below (w.alloc (.cells #[.int .i64 t.kind, .string t.name, .int .u32 t.num, .int .i64 t.int_, .string t.key, .slice p t.args.length c, .int .i64 t.at_] 26)).heap.size (w.alloc (.cells #[.int .i64 t.kind, .string t.name, .int .u32 t.num, .int .i64 t.int_, .string t.key, .slice p t.args.length c, .int .i64 t.at_] 26)) v → Calls Try.prog 21 #[.agg #[.int .i64 t.kind, .string t.name, .int .u32 t.num, .int .i64 t.int_, .string t.key, .slice p t.args.length c, .int .i64 t.at_]] v fun e v' => e = .returned (.int .i64 (dep t)) ∧ (Below (w.alloc (.cells #[.int .i64 t.kind, .string t.name, .int .u32 t.num, .int .i64 t.int_, .string t.key, .slice p t.args.length c, .int .i64 t.at_] 26)).heap.size (w.alloc (.cells #[.int .i64 t.kind, .string t.name, .int .u32 t.num, .int .i64 t.int_, .string t.key, .slice p t.args.length c, .int .i64 t.at_] 26)) v' ∧ Below v.heap.size v v')) := fun v hv => (rdepth_to (dep t) t p c v (Nat.le_refl _) hc (hk.below (bel hb0 hv))).mono fun e v' ⟨he, hb⟩ => ⟨he, bel hv hb, hb⟩
  have HCnt : Hid (∀ (v : World), Below (w.alloc (.cells #[.int .i64 t.kind, .string t.name, .int .u32 t.num, .int .i64 t.int_, .string t.key, .slice p t.args.length c, .int .i64 t.at_] 26)).heap.size (w.alloc (.cells #[.int .i64 t.kind, .string t.name, .int .u32 t.num, .int .i64 t.int_, .string t.key, .slice p t.args.length c, .int .i64 t.at_] 26)) v → Calls Try.prog 19 #[.agg #[.int .i64 t.kind, .string t.name, .int .u32 t.num, .int .i64 t.int_, .string t.key, .slice p t.args.length c, .int .i64 t.at_]] v fun e v' => e = .returned (.int .i64 (cnt t)) ∧ (Below (w.alloc (.cells #[.int .i64 t.kind, .string t.name, .int .u32 t.num, .int .i64 t.int_, .string t.key, .slice p t.args.length c, .int .i64 t.at_] 26)).heap.size (w.alloc (.cells #[.int .i64 t.kind, .string t.name, .int .u32 t.num, .int .i64 t.int_, .string t.key, .slice p t.args.length c, .int .i64 t.at_] 26)) v' ∧ Below v.heap.size v v')) := fun v hv => (rcount_to (dep t) t p c v (Nat.le_refl _) hc (hk.below (bel hb0 hv))).mono fun e v' ⟨he, hb⟩ => ⟨he, bel hv hb, hb⟩
  have HFi : Hid (Agree t false none → ∀ v, Below (w.alloc (.cells #[.int .i64 t.kind, .string t.name, .int .u32 t.num, .int .i64 t.int_, .string t.key, .slice p t.args.length c, .int .i64 t.at_] 26)).heap.size (w.alloc (.cells #[.int .i64 t.kind, .string t.name, .int .u32 t.num, .int .i64 t.int_, .string t.key, .slice p t.args.length c, .int .i64 t.at_] 26)) v → Calls Try.prog 35 #[.agg #[.int .i64 t.kind, .string t.name, .int .u32 t.num, .int .i64 t.int_, .string t.key, .slice p t.args.length c, .int .i64 t.at_], .bool false] v fun e v' => e = .returned (.int .i64 (wk gCheck t 1 none 0).2) ∧ (Below (w.alloc (.cells #[.int .i64 t.kind, .string t.name, .int .u32 t.num, .int .i64 t.int_, .string t.key, .slice p t.args.length c, .int .i64 t.at_] 26)).heap.size (w.alloc (.cells #[.int .i64 t.kind, .string t.name, .int .u32 t.num, .int .i64 t.int_, .string t.key, .slice p t.args.length c, .int .i64 t.at_] 26)) v' ∧ Below v.heap.size v v')) := fun hag v hv => (first_to (dep t) t p c false 1 none v (Nat.le_refl _) hc hok (hk.below (bel hb0 hv)) hag).mono fun e v' ⟨he, hb⟩ => ⟨he, bel hv hb, hb⟩
  have HBL : Hid (∀ v, Below (w.alloc (.cells #[.int .i64 t.kind, .string t.name, .int .u32 t.num, .int .i64 t.int_, .string t.key, .slice p t.args.length c, .int .i64 t.at_] 26)).heap.size (w.alloc (.cells #[.int .i64 t.kind, .string t.name, .int .u32 t.num, .int .i64 t.int_, .string t.key, .slice p t.args.length c, .int .i64 t.at_] 26)) v → Below w.heap.size w v) := fun v hv => bel hb0 hv
  have hs1 := hok.1.1
  have hs2 := hok.1.2.1
  unfold nv
  clear hb0 hx0 hk hok
  by_cases hd : 64 < dep t
  · have e : checkP t = 81 := by unfold checkP measP; rw [if_pos hd]; rfl
    rw [e]
    have z1 : (64 : Int) < (dep t : Int) := by omega
    clear e hd
    go_enter Try.func13, Try.ntmps13
    go_wp2_with (go_at_call 21; (with_reducible refine (HDep.out _ (bel0 _)).mono ?_); rintro e w2 ⟨rfl, hs2⟩)
    go_ret
    exact ⟨rfl, HBL.out _ hs2.1⟩
  have z1 : ¬ ((64 : Int) < (dep t : Int)) := by omega
  by_cases hn : 4096 < cnt t
  · have e : checkP t = 82 := by unfold checkP measP; rw [if_neg hd, if_pos hn]; rfl
    rw [e]
    have z2 : (4096 : Int) < (cnt t : Int) := by omega
    clear e hd hn
    go_enter Try.func13, Try.ntmps13
    go_wp2_with (first
      | (go_at_call 21; (with_reducible refine (HDep.out _ (bel0 _)).mono ?_); rintro e w2 ⟨rfl, hs2⟩; obtain ⟨z0, z1, z2, z3, z4, z5, z6⟩ := HCL.out w2 hs2.1)
      | (go_at_call 19; (with_reducible refine (HCnt.out _ hs2.1).mono ?_); rintro e w3 ⟨rfl, hs3⟩))
    go_ret
    exact ⟨rfl, HBL.out _ hs3.1⟩
  have z2 : ¬ ((4096 : Int) < (cnt t : Int)) := by omega
  have e : checkP t = (wk gCheck t 1 none 0).2 := by unfold checkP measP; rw [if_neg hd, if_neg hn]; rfl
  rw [e]
  clear e hd hn
  by_cases hy : t.key.toList.isEmpty = true
  · have HF2 : Hid (∀ v, Below (w.alloc (.cells #[.int .i64 t.kind, .string t.name, .int .u32 t.num, .int .i64 t.int_, .string t.key, .slice p t.args.length c, .int .i64 t.at_] 26)).heap.size (w.alloc (.cells #[.int .i64 t.kind, .string t.name, .int .u32 t.num, .int .i64 t.int_, .string t.key, .slice p t.args.length c, .int .i64 t.at_] 26)) v → Calls Try.prog 35 #[.agg #[.int .i64 t.kind, .string t.name, .int .u32 t.num, .int .i64 t.int_, .string t.key, .slice p t.args.length c, .int .i64 t.at_], .bool false] v fun e v' => e = .returned (.int .i64 (wk gCheck t 1 none 0).2) ∧ (Below (w.alloc (.cells #[.int .i64 t.kind, .string t.name, .int .u32 t.num, .int .i64 t.int_, .string t.key, .slice p t.args.length c, .int .i64 t.at_] 26)).heap.size (w.alloc (.cells #[.int .i64 t.kind, .string t.name, .int .u32 t.num, .int .i64 t.int_, .string t.key, .slice p t.args.length c, .int .i64 t.at_] 26)) v' ∧ Below v.heap.size v v')) := HFi.out (agree_root (.inl hy))
    clear HFi
    go_enter Try.func13, Try.ntmps13
    go_wp2_with (first
      | (go_at_call 21; (with_reducible refine (HDep.out _ (bel0 _)).mono ?_); rintro e w2 ⟨rfl, hs2⟩; obtain ⟨z0, z1, z2, z3, z4, z5, z6⟩ := HCL.out w2 hs2.1)
      | (go_at_call 19; (with_reducible refine (HCnt.out _ hs2.1).mono ?_); rintro e w3 ⟨rfl, hs3⟩; obtain ⟨x0, x1, x2, x3, x4, x5, x6⟩ := HCL.out w3 hs3.1)
      | (go_at_call 35; (with_reducible refine (HF2.out _ hs3.1).mono ?_); rintro e w4 ⟨rfl, hs4⟩))
    all_goals (go_ret; exact ⟨rfl, HBL.out _ hs4.1⟩)
  have hy0 : t.key.toList.isEmpty = false := by simpa using hy
  clear hy
  by_cases hlong : 64 < t.name.size ∨ 64 < t.key.size
  · have HF2 : Hid (∀ v, Below (w.alloc (.cells #[.int .i64 t.kind, .string t.name, .int .u32 t.num, .int .i64 t.int_, .string t.key, .slice p t.args.length c, .int .i64 t.at_] 26)).heap.size (w.alloc (.cells #[.int .i64 t.kind, .string t.name, .int .u32 t.num, .int .i64 t.int_, .string t.key, .slice p t.args.length c, .int .i64 t.at_] 26)) v → Calls Try.prog 35 #[.agg #[.int .i64 t.kind, .string t.name, .int .u32 t.num, .int .i64 t.int_, .string t.key, .slice p t.args.length c, .int .i64 t.at_], .bool false] v fun e v' => e = .returned (.int .i64 (wk gCheck t 1 none 0).2) ∧ (Below (w.alloc (.cells #[.int .i64 t.kind, .string t.name, .int .u32 t.num, .int .i64 t.int_, .string t.key, .slice p t.args.length c, .int .i64 t.at_] 26)).heap.size (w.alloc (.cells #[.int .i64 t.kind, .string t.name, .int .u32 t.num, .int .i64 t.int_, .string t.key, .slice p t.args.length c, .int .i64 t.at_] 26)) v' ∧ Below v.heap.size v v')) := HFi.out (agree_root (.inr hlong))
    clear HFi
    by_cases h1 : 64 < t.name.size
    · have y1 : ¬ ((t.name.size : Int) ≤ 64) := by omega
      have y1' : (64 : Int) < (t.name.size : Int) := by omega
      clear hlong
      go_enter Try.func13, Try.ntmps13
      go_wp2_with (first
        | (go_at_call 21; (with_reducible refine (HDep.out _ (bel0 _)).mono ?_); rintro e w2 ⟨rfl, hs2⟩; obtain ⟨z0, z1, z2, z3, z4, z5, z6⟩ := HCL.out w2 hs2.1)
        | (go_at_call 19; (with_reducible refine (HCnt.out _ hs2.1).mono ?_); rintro e w3 ⟨rfl, hs3⟩; obtain ⟨x0, x1, x2, x3, x4, x5, x6⟩ := HCL.out w3 hs3.1)
        | (go_at_call 35; (with_reducible refine (HF2.out _ hs3.1).mono ?_); rintro e w4 ⟨rfl, hs4⟩))
      all_goals (go_ret; exact ⟨rfl, HBL.out _ hs4.1⟩)
    · have y1 : (t.name.size : Int) ≤ 64 := by omega
      have y2 : ¬ ((t.key.size : Int) ≤ 64) := by omega
      have y2' : (64 : Int) < (t.key.size : Int) := by omega
      clear hlong
      go_enter Try.func13, Try.ntmps13
      go_wp2_with (first
        | (go_at_call 21; (with_reducible refine (HDep.out _ (bel0 _)).mono ?_); rintro e w2 ⟨rfl, hs2⟩; obtain ⟨z0, z1, z2, z3, z4, z5, z6⟩ := HCL.out w2 hs2.1)
        | (go_at_call 19; (with_reducible refine (HCnt.out _ hs2.1).mono ?_); rintro e w3 ⟨rfl, hs3⟩; obtain ⟨x0, x1, x2, x3, x4, x5, x6⟩ := HCL.out w3 hs3.1)
        | (go_at_call 35; (with_reducible refine (HF2.out _ hs3.1).mono ?_); rintro e w4 ⟨rfl, hs4⟩))
      all_goals (go_ret; exact ⟨rfl, HBL.out _ hs4.1⟩)
  have e : (wk gCheck t 1 none 0).2 = 70 := by
    have hj : judgeP t none = 70 := by
      unfold judgeP keyP
      rw [if_neg hlong]
      simp only
      rw [hy0]
      rfl
    unfold wk
    rw [show gCheck 0 t 1 none = (judgeP t none == 0, judgeP t none) from rfl, hj]
    rfl
  rw [e]
  have y1 : (t.name.size : Int) ≤ 64 := by omega
  have y2 : (t.key.size : Int) ≤ 64 := by omega
  clear e hlong HFi
  go_enter Try.func13, Try.ntmps13
  go_wp2_with (first
    | (go_at_call 21; (with_reducible refine (HDep.out _ (bel0 _)).mono ?_); rintro e w2 ⟨rfl, hs2⟩; obtain ⟨z0, z1, z2, z3, z4, z5, z6⟩ := HCL.out w2 hs2.1)
    | (go_at_call 19; (with_reducible refine (HCnt.out _ hs2.1).mono ?_); rintro e w3 ⟨rfl, hs3⟩; obtain ⟨x0, x1, x2, x3, x4, x5, x6⟩ := HCL.out w3 hs3.1))
  all_goals (go_ret; exact ⟨rfl, HBL.out _ hs3.1⟩)

end Go.Proofs.Ytpidjmgifglmiaa
