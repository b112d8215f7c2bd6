import Derived.Test.YtbmkddmmclndcaaPart20
import Derived.Test.YtbmkddmmclndcaaPart23
import Derived.Test.YtbmkddmmclndcaaPart2
import Derived.Test.YtbmkddmmclndcaaPart3
/- The reference's Check. -/
namespace Go.Proofs.Ytbmkddmmclndcaa
open Go.RowKit
set_option linter.unusedVariables false
set_option linter.unusedSimpArgs false

theorem agree_root {t : Nd} (h : t.key.toList.isEmpty = true ∨ (64 < t.name.size ∨ 64 < t.key.size)) : Agree t false none := by
  intro hl
  rcases h with h | h
  · unfold keyP standsP
    simp only
    rw [h]
    simp
  · exact absurd h hl

set_option maxRecDepth 100000 in
set_option maxHeartbeats 4000000 in
theorem rcheck_any (t : Nd) (p : Option Addr) (c : Nat) (w : World) (hc : cnt t ≤ 9000) (hok : ok1 t) (hk : Kids w anyH (.slice p t.args.length c) t.args) :
    Calls Try.prog 13 #[nv t (.slice p t.args.length c)] w fun e w' => e = .returned (.int .i64 (checkP t)) ∧ Below w.heap.size w w' := by
  have hb0 := bel_alloc w (.cells #[.int .i64 t.kind, .string t.name, .int .u32 t.num, .int .i64 t.int_, .string t.key, .slice p t.args.length c, .int .i64 t.at_] 26)
  have hx0 := box_heap w (.cells #[.int .i64 t.kind, .string t.name, .int .u32 t.num, .int .i64 t.int_, .string t.key, .slice p t.args.length c, .int .i64 t.at_] 26)
  have HW0 : Hid (Below w.heap.size w (w.alloc (.cells #[.int .i64 t.kind, .string t.name, .int .u32 t.num, .int .i64 t.int_, .string t.key, .slice p t.args.length c, .int .i64 t.at_] 26))) := hb0
  have HCL : Hid (∀ v, Below (w.alloc (.cells #[.int .i64 t.kind, .string t.name, .int .u32 t.num, .int .i64 t.int_, .string t.key, .slice p t.args.length c, .int .i64 t.at_] 26)).heap.size (w.alloc (.cells #[.int .i64 t.kind, .string t.name, .int .u32 t.num, .int .i64 t.int_, .string t.key, .slice p t.args.length c, .int .i64 t.at_] 26)) v → v.cell? ⟨w.heap.size, 0, none⟩ = some (.int .i64 t.kind) ∧ v.cell? ⟨w.heap.size, 1, none⟩ = some (.string t.name) ∧ v.cell? ⟨w.heap.size, 2, none⟩ = some (.int .u32 t.num) ∧ v.cell? ⟨w.heap.size, 3, none⟩ = some (.int .i64 t.int_) ∧ v.cell? ⟨w.heap.size, 4, none⟩ = some (.string t.key) ∧ v.cell? ⟨w.heap.size, 5, none⟩ = some (.slice p t.args.length c) ∧ v.cell? ⟨w.heap.size, 6, none⟩ = some (.int .i64 t.at_)) := fun v hv => by
    have hx : v.heap[w.heap.size]? = some (.cells #[.int .i64 t.kind, .string t.name, .int .u32 t.num, .int .i64 t.int_, .string t.key, .slice p t.args.length c, .int .i64 t.at_] 26) := by rw [hv.block _ (hlt hx0)]; exact hx0
    exact ⟨cell_heap hx 0, cell_heap hx 1, cell_heap hx 2, cell_heap hx 3, cell_heap hx 4, cell_heap hx 5, cell_heap hx 6⟩
  have HDep : Hid (∀ (v : World), Below (w.alloc (.cells #[.int .i64 t.kind, .string t.name, .int .u32 t.num, .int .i64 t.int_, .string t.key, .slice p t.args.length c, .int .i64 t.at_] 26)).heap.size (w.alloc (.cells #[.int .i64 t.kind, .string t.name, .int .u32 t.num, .int .i64 t.int_, .string t.key, .slice p t.args.length c, .int .i64 t.at_] 26)) v → Calls Try.prog 24 #[.agg #[.int .i64 t.kind, .string t.name, .int .u32 t.num, .int .i64 t.int_, .string t.key, .slice p t.args.length c, .int .i64 t.at_]] v fun e v' => e = .returned (.int .i64 (dep t)) ∧ (Below (w.alloc (.cells #[.int .i64 t.kind, .string t.name, .int .u32 t.num, .int .i64 t.int_, .string t.key, .slice p t.args.length c, .int .i64 t.at_] 26)).heap.size (w.alloc (.cells #[.int .i64 t.kind, .string t.name, .int .u32 t.num, .int .i64 t.int_, .string t.key, .slice p t.args.length c, .int .i64 t.at_] 26)) v' ∧ Below v.heap.size v v')) := fun v hv => (rdepth_to (dep t) t p c v (Nat.le_refl _) hc (hk.below (bel hb0 hv))).mono fun e v' ⟨he, hb⟩ => ⟨he, bel hv hb, hb⟩
  have HCnt : Hid (∀ (v : World), Below (w.alloc (.cells #[.int .i64 t.kind, .string t.name, .int .u32 t.num, .int .i64 t.int_, .string t.key, .slice p t.args.length c, .int .i64 t.at_] 26)).heap.size (w.alloc (.cells #[.int .i64 t.kind, .string t.name, .int .u32 t.num, .int .i64 t.int_, .string t.key, .slice p t.args.length c, .int .i64 t.at_] 26)) v → Calls Try.prog 25 #[.agg #[.int .i64 t.kind, .string t.name, .int .u32 t.num, .int .i64 t.int_, .string t.key, .slice p t.args.length c, .int .i64 t.at_]] v fun e v' => e = .returned (.int .i64 (cnt t)) ∧ (Below (w.alloc (.cells #[.int .i64 t.kind, .string t.name, .int .u32 t.num, .int .i64 t.int_, .string t.key, .slice p t.args.length c, .int .i64 t.at_] 26)).heap.size (w.alloc (.cells #[.int .i64 t.kind, .string t.name, .int .u32 t.num, .int .i64 t.int_, .string t.key, .slice p t.args.length c, .int .i64 t.at_] 26)) v' ∧ Below v.heap.size v v')) := fun v hv => (rcount_to (dep t) t p c v (Nat.le_refl _) hc (hk.below (bel hb0 hv))).mono fun e v' ⟨he, hb⟩ => ⟨he, bel hv hb, hb⟩
  have HFi : Hid (Agree t false none → ∀ v, Below (w.alloc (.cells #[.int .i64 t.kind, .string t.name, .int .u32 t.num, .int .i64 t.int_, .string t.key, .slice p t.args.length c, .int .i64 t.at_] 26)).heap.size (w.alloc (.cells #[.int .i64 t.kind, .string t.name, .int .u32 t.num, .int .i64 t.int_, .string t.key, .slice p t.args.length c, .int .i64 t.at_] 26)) v → Calls Try.prog 26 #[.agg #[.int .i64 t.kind, .string t.name, .int .u32 t.num, .int .i64 t.int_, .string t.key, .slice p t.args.length c, .int .i64 t.at_], .bool false] v fun e v' => e = .returned (.int .i64 (wk gCheck t 1 none 0).2) ∧ (Below (w.alloc (.cells #[.int .i64 t.kind, .string t.name, .int .u32 t.num, .int .i64 t.int_, .string t.key, .slice p t.args.length c, .int .i64 t.at_] 26)).heap.size (w.alloc (.cells #[.int .i64 t.kind, .string t.name, .int .u32 t.num, .int .i64 t.int_, .string t.key, .slice p t.args.length c, .int .i64 t.at_] 26)) v' ∧ Below v.heap.size v v')) := fun hag v hv => (first_to (dep t) t p c false 1 none v (Nat.le_refl _) hc hok (hk.below (bel hb0 hv)) hag).mono fun e v' ⟨he, hb⟩ => ⟨he, bel hv hb, hb⟩
  have HBL : Hid (∀ v, Below (w.alloc (.cells #[.int .i64 t.kind, .string t.name, .int .u32 t.num, .int .i64 t.int_, .string t.key, .slice p t.args.length c, .int .i64 t.at_] 26)).heap.size (w.alloc (.cells #[.int .i64 t.kind, .string t.name, .int .u32 t.num, .int .i64 t.int_, .string t.key, .slice p t.args.length c, .int .i64 t.at_] 26)) v → Below w.heap.size w v) := fun v hv => bel hb0 hv
  have hs1 := hok.1.1
  have hs2 := hok.1.2.1
  unfold nv
  clear hb0 hx0 hk hok
  by_cases hd : 64 < dep t
  · have e : checkP t = 81 := by unfold checkP measP; rw [if_pos hd]; rfl
    rw [e]
    have z1 : (64 : Int) < (dep t : Int) := by omega
    clear e hd
    go_enter Try.func13, Try.ntmps13
    go_wp2_with (go_at_call 24; (with_reducible refine (HDep.out _ (bel0 _)).mono ?_); rintro e w2 ⟨rfl, hs2⟩)
    go_ret
    exact ⟨rfl, HBL.out _ hs2.1⟩
  have z1 : ¬ ((64 : Int) < (dep t : Int)) := by omega
  by_cases hn : 4096 < cnt t
  · have e : checkP t = 82 := by unfold checkP measP; rw [if_neg hd, if_pos hn]; rfl
    rw [e]
    have z2 : (4096 : Int) < (cnt t : Int) := by omega
    clear e hd hn
    go_enter Try.func13, Try.ntmps13
    go_wp2_with (first
      | (go_at_call 24; (with_reducible refine (HDep.out _ (bel0 _)).mono ?_); rintro e w2 ⟨rfl, hs2⟩; obtain ⟨z0, z1, z2, z3, z4, z5, z6⟩ := HCL.out w2 hs2.1)
      | (go_at_call 25; (with_reducible refine (HCnt.out _ hs2.1).mono ?_); rintro e w3 ⟨rfl, hs3⟩))
    go_ret
    exact ⟨rfl, HBL.out _ hs3.1⟩
  have z2 : ¬ ((4096 : Int) < (cnt t : Int)) := by omega
  have e : checkP t = (wk gCheck t 1 none 0).2 := by unfold checkP measP; rw [if_neg hd, if_neg hn]; rfl
  rw [e]
  clear e hd hn
  by_cases hy : t.key.toList.isEmpty = true
  · have HF2 : Hid (∀ v, Below (w.alloc (.cells #[.int .i64 t.kind, .string t.name, .int .u32 t.num, .int .i64 t.int_, .string t.key, .slice p t.args.length c, .int .i64 t.at_] 26)).heap.size (w.alloc (.cells #[.int .i64 t.kind, .string t.name, .int .u32 t.num, .int .i64 t.int_, .string t.key, .slice p t.args.length c, .int .i64 t.at_] 26)) v → Calls Try.prog 26 #[.agg #[.int .i64 t.kind, .string t.name, .int .u32 t.num, .int .i64 t.int_, .string t.key, .slice p t.args.length c, .int .i64 t.at_], .bool false] v fun e v' => e = .returned (.int .i64 (wk gCheck t 1 none 0).2) ∧ (Below (w.alloc (.cells #[.int .i64 t.kind, .string t.name, .int .u32 t.num, .int .i64 t.int_, .string t.key, .slice p t.args.length c, .int .i64 t.at_] 26)).heap.size (w.alloc (.cells #[.int .i64 t.kind, .string t.name, .int .u32 t.num, .int .i64 t.int_, .string t.key, .slice p t.args.length c, .int .i64 t.at_] 26)) v' ∧ Below v.heap.size v v')) := HFi.out (agree_root (.inl hy))
    clear HFi
    go_enter Try.func13, Try.ntmps13
    go_wp2_with (first
      | (go_at_call 24; (with_reducible refine (HDep.out _ (bel0 _)).mono ?_); rintro e w2 ⟨rfl, hs2⟩; obtain ⟨z0, z1, z2, z3, z4, z5, z6⟩ := HCL.out w2 hs2.1)
      | (go_at_call 25; (with_reducible refine (HCnt.out _ hs2.1).mono ?_); rintro e w3 ⟨rfl, hs3⟩; obtain ⟨x0, x1, x2, x3, x4, x5, x6⟩ := HCL.out w3 hs3.1)
      | (go_at_call 26; (with_reducible refine (HF2.out _ hs3.1).mono ?_); rintro e w4 ⟨rfl, hs4⟩))
    all_goals (go_ret; exact ⟨rfl, HBL.out _ hs4.1⟩)
  have hy0 : t.key.toList.isEmpty = false := by simpa using hy
  clear hy
  by_cases hlong : 64 < t.name.size ∨ 64 < t.key.size
  · have HF2 : Hid (∀ v, Below (w.alloc (.cells #[.int .i64 t.kind, .string t.name, .int .u32 t.num, .int .i64 t.int_, .string t.key, .slice p t.args.length c, .int .i64 t.at_] 26)).heap.size (w.alloc (.cells #[.int .i64 t.kind, .string t.name, .int .u32 t.num, .int .i64 t.int_, .string t.key, .slice p t.args.length c, .int .i64 t.at_] 26)) v → Calls Try.prog 26 #[.agg #[.int .i64 t.kind, .string t.name, .int .u32 t.num, .int .i64 t.int_, .string t.key, .slice p t.args.length c, .int .i64 t.at_], .bool false] v fun e v' => e = .returned (.int .i64 (wk gCheck t 1 none 0).2) ∧ (Below (w.alloc (.cells #[.int .i64 t.kind, .string t.name, .int .u32 t.num, .int .i64 t.int_, .string t.key, .slice p t.args.length c, .int .i64 t.at_] 26)).heap.size (w.alloc (.cells #[.int .i64 t.kind, .string t.name, .int .u32 t.num, .int .i64 t.int_, .string t.key, .slice p t.args.length c, .int .i64 t.at_] 26)) v' ∧ Below v.heap.size v v')) := HFi.out (agree_root (.inr hlong))
    clear HFi
    by_cases h1 : 64 < t.name.size
    · have y1 : ¬ ((t.name.size : Int) ≤ 64) := by omega
      have y1' : (64 : Int) < (t.name.size : Int) := by omega
      clear hlong
      go_enter Try.func13, Try.ntmps13
      go_wp2_with (first
        | (go_at_call 24; (with_reducible refine (HDep.out _ (bel0 _)).mono ?_); rintro e w2 ⟨rfl, hs2⟩; obtain ⟨z0, z1, z2, z3, z4, z5, z6⟩ := HCL.out w2 hs2.1)
        | (go_at_call 25; (with_reducible refine (HCnt.out _ hs2.1).mono ?_); rintro e w3 ⟨rfl, hs3⟩; obtain ⟨x0, x1, x2, x3, x4, x5, x6⟩ := HCL.out w3 hs3.1)
        | (go_at_call 26; (with_reducible refine (HF2.out _ hs3.1).mono ?_); rintro e w4 ⟨rfl, hs4⟩))
      all_goals (go_ret; exact ⟨rfl, HBL.out _ hs4.1⟩)
    · have y1 : (t.name.size : Int) ≤ 64 := by omega
      have y2 : ¬ ((t.key.size : Int) ≤ 64) := by omega
      have y2' : (64 : Int) < (t.key.size : Int) := by omega
      clear hlong
      go_enter Try.func13, Try.ntmps13
      go_wp2_with (first
        | (go_at_call 24; (with_reducible refine (HDep.out _ (bel0 _)).mono ?_); rintro e w2 ⟨rfl, hs2⟩; obtain ⟨z0, z1, z2, z3, z4, z5, z6⟩ := HCL.out w2 hs2.1)
        | (go_at_call 25; (with_reducible refine (HCnt.out _ hs2.1).mono ?_); rintro e w3 ⟨rfl, hs3⟩; obtain ⟨x0, x1, x2, x3, x4, x5, x6⟩ := HCL.out w3 hs3.1)
        | (go_at_call 26; (with_reducible refine (HF2.out _ hs3.1).mono ?_); rintro e w4 ⟨rfl, hs4⟩))
      all_goals (go_ret; exact ⟨rfl, HBL.out _ hs4.1⟩)
  have e : (wk gCheck t 1 none 0).2 = 70 := by
    have hj : judgeP t none = 70 := by
      unfold judgeP keyP
      rw [if_neg hlong]
      simp only
      rw [hy0]
      rfl
    unfold wk
    rw [show gCheck 0 t 1 none = (judgeP t none == 0, judgeP t none) from rfl, hj]
    rfl
  rw [e]
  have y1 : (t.name.size : Int) ≤ 64 := by omega
  have y2 : (t.key.size : Int) ≤ 64 := by omega
  clear e hlong HFi
  go_enter Try.func13, Try.ntmps13
  go_wp2_with (first
    | (go_at_call 24; (with_reducible refine (HDep.out _ (bel0 _)).mono ?_); rintro e w2 ⟨rfl, hs2⟩; obtain ⟨z0, z1, z2, z3, z4, z5, z6⟩ := HCL.out w2 hs2.1)
    | (go_at_call 25; (with_reducible refine (HCnt.out _ hs2.1).mono ?_); rintro e w3 ⟨rfl, hs3⟩; obtain ⟨x0, x1, x2, x3, x4, x5, x6⟩ := HCL.out w3 hs3.1))
  all_goals (go_ret; exact ⟨rfl, HBL.out _ hs3.1⟩)

end Go.Proofs.Ytbmkddmmclndcaa
/- The statement AliasAgain. (tool/layer12/genagain.py) -/
namespace Go.Proofs.Ytbmkddmmclndcaa
open Go.RowKit
set_option linter.unusedVariables false
set_option linter.unusedSimpArgs false

/-- Expand's contract, its tree's slice opened. -/
theorem expand_to (t : Nd) (p : Option Addr) (c : Nat) (w : World) (hc : cnt t ≤ 40000) (hok : ok1 t) (hk : Kids w anyH (.slice p t.args.length c) t.args) {X : Nd} {e a : Int} (hE : expP t = ⟨X, e, a⟩) :
    Calls Try.prog 9 #[.agg #[.int .i64 t.kind, .string t.name, .int .u32 t.num, .int .i64 t.int_, .string t.key, .slice p t.args.length c, .int .i64 t.at_]] w fun r w' => ∃ p' c', r = .returned (.tuple #[.agg #[.int .i64 X.kind, .string X.name, .int .u32 X.num, .int .i64 X.int_, .string X.key, .slice p' X.args.length c', .int .i64 X.at_], .int .i64 e, .int .i64 a]) ∧ Kids w' anyH (.slice p' X.args.length c') X.args ∧ Below w.heap.size w w' :=
  (expand_any t _ w hc hok hk).mono fun r w' ⟨sv, h1, h2, h3⟩ => by
    rw [hE] at h1 h2
    obtain ⟨p', c', rfl, -⟩ := id h2
    exact ⟨p', c', h1, kids_any h2, h3⟩
end Go.Proofs.Ytbmkddmmclndcaa
/- The reference's Equal; same. -/
namespace Go.Proofs.Ytbmkddmmclndcaa
open Go.RowKit
set_option linter.unusedVariables false
set_option linter.unusedSimpArgs false

theorem toList_inj {a b : ByteArray} (h : a.toList = b.toList) : a = b := by
  rw [ByteArray.toList_eq, ByteArray.toList_eq] at h
  cases a; cases b
  congr 1
  exact Array.toList_inj.1 h

set_option maxRecDepth 100000 in
set_option maxHeartbeats 4000000 in
theorem requal_to : ∀ N, EqTo 16 N := by
  intro N
  induction N with
  | zero => intro t u p p' c c' w hd; unfold dep at hd; omega
  | succ N ih =>
      intro t u p p' c c' w hd hc hcu hk hk'
      have hlen : t.args.length ≤ 9000 := by have := cntL_len t.args; unfold cnt at hc; omega
      have hlenu : u.args.length ≤ 9000 := by have := cntL_len u.args; unfold cnt at hcu; omega
      obtain ⟨n, hn⟩ : ∃ n, t.args.length = n := ⟨_, rfl⟩
      obtain ⟨m, hm⟩ : ∃ m, u.args.length = m := ⟨_, rfl⟩
      have HN : Hid (t.args.length = n) := hn
      have HM0 : Hid (u.args.length = m) := hm
      have HK : Hid (Kids w anyH (.slice p t.args.length c) t.args) := hk
      have HK2 : Hid (Kids w anyH (.slice p' u.args.length c') u.args) := hk'
      have HIH : Hid (EqTo 16 N) := ih
      have HQ : Hid (eqT t u = (t.kind == u.kind && t.name.toList == u.name.toList && t.num == u.num && t.int_ == u.int_ && t.key.toList == u.key.toList && eqL t.args u.args)) := rfl
      unfold nv
      rw [hn] at hlen ⊢
      rw [hm] at hlenu ⊢
      clear hn hm hk hk' ih
      by_cases h0 : t.kind = u.kind
      case neg =>
        have e : eqT t u = false := by
          rw [HQ.out]; simp [h0]
        rw [e]
        clear e HQ HIH
        go_enter Try.func16, Try.ntmps16
        go_wp2
        go_ret
        exact ⟨rfl, bel (bel_alloc _ _) (bel_alloc _ _)⟩
      by_cases h1 : t.name.toList = u.name.toList
      case neg =>
        have e : eqT t u = false := by
          rw [HQ.out]; simp [h0, h1]
        rw [e]
        clear e HQ HIH
        go_enter Try.func16, Try.ntmps16
        go_wp2
        go_ret
        exact ⟨rfl, bel (bel_alloc _ _) (bel_alloc _ _)⟩
      by_cases h2 : t.num = u.num
      case neg =>
        have e : eqT t u = false := by
          rw [HQ.out]; simp [h0, h1, h2]
        rw [e]
        clear e HQ HIH
        go_enter Try.func16, Try.ntmps16
        go_wp2
        go_ret
        exact ⟨rfl, bel (bel_alloc _ _) (bel_alloc _ _)⟩
      by_cases h3 : t.int_ = u.int_
      case neg =>
        have e : eqT t u = false := by
          rw [HQ.out]; simp [h0, h1, h2, h3]
        rw [e]
        clear e HQ HIH
        go_enter Try.func16, Try.ntmps16
        go_wp2
        go_ret
        exact ⟨rfl, bel (bel_alloc _ _) (bel_alloc _ _)⟩
      by_cases h4 : t.key.toList = u.key.toList
      case neg =>
        have e : eqT t u = false := by
          rw [HQ.out]; simp [h0, h1, h2, h3, h4]
        rw [e]
        clear e HQ HIH
        go_enter Try.func16, Try.ntmps16
        go_wp2
        go_ret
        exact ⟨rfl, bel (bel_alloc _ _) (bel_alloc _ _)⟩
      by_cases h5 : (n : Int) = (m : Int)
      case neg =>
        have e : eqT t u = false := by
          rw [HQ.out, show eqL t.args u.args = false from by (rw [Bool.eq_false_iff]; intro h; have := eqL_len _ _ h; rw [HN.out, HM0.out] at this; omega), Bool.and_false]
        rw [e]
        clear e HQ HIH
        go_enter Try.func16, Try.ntmps16
        go_wp2
        go_ret
        exact ⟨rfl, bel (bel_alloc _ _) (bel_alloc _ _)⟩
      obtain rfl : n = m := by omega
      have h1' := toList_inj h1
      have h4' := toList_inj h4
      obtain ⟨uk, un, ux, ui, uy, ul, ua⟩ := u
      simp only at *
      subst h0 h1' h2 h3 h4'
      have HM : Hid (ul.length = n) := HM0
      have HEQ : Hid (eqT t ⟨t.kind, t.name, t.num, t.int_, t.key, ul, ua⟩ = eqL t.args ul) := show eqT t ⟨t.kind, t.name, t.num, t.int_, t.key, ul, ua⟩ = eqL t.args ul by rw [HQ.out]; simp
      have HBX : Hid (Below w.heap.size w ((w.alloc (.cells #[.int .i64 t.kind, .string t.name, .int .u32 t.num, .int .i64 t.int_, .string t.key, .slice p n c, .int .i64 t.at_] 26)).alloc (.cells #[.int .i64 t.kind, .string t.name, .int .u32 t.num, .int .i64 t.int_, .string t.key, .slice p' n c', .int .i64 ua] 26)) ∧ ((w.alloc (.cells #[.int .i64 t.kind, .string t.name, .int .u32 t.num, .int .i64 t.int_, .string t.key, .slice p n c, .int .i64 t.at_] 26)).alloc (.cells #[.int .i64 t.kind, .string t.name, .int .u32 t.num, .int .i64 t.int_, .string t.key, .slice p' n c', .int .i64 ua] 26)).heap[w.heap.size]? = some (.cells #[.int .i64 t.kind, .string t.name, .int .u32 t.num, .int .i64 t.int_, .string t.key, .slice p n c, .int .i64 t.at_] 26) ∧ ((w.alloc (.cells #[.int .i64 t.kind, .string t.name, .int .u32 t.num, .int .i64 t.int_, .string t.key, .slice p n c, .int .i64 t.at_] 26)).alloc (.cells #[.int .i64 t.kind, .string t.name, .int .u32 t.num, .int .i64 t.int_, .string t.key, .slice p' n c', .int .i64 ua] 26)).heap[w.heap.size + 1]? = some (.cells #[.int .i64 t.kind, .string t.name, .int .u32 t.num, .int .i64 t.int_, .string t.key, .slice p' n c', .int .i64 ua] 26)) := ⟨bel (bel_alloc _ _) (bel_alloc _ _), heap_old _ _ (box_heap _ _), two_heap _ _ _⟩
      clear HQ HM0 hlenu h5 h1 h4
      go_enter Try.func16, Try.ntmps16
      go_wp2
      go_loopw [5] (fun iv wr => Below w.heap.size w wr ∧ ∃ j : Nat, j ≤ n ∧ iv = .int .i64 j ∧ wr.heap[w.heap.size]? = some (.cells #[.int .i64 t.kind, .string t.name, .int .u32 t.num, .int .i64 t.int_, .string t.key, .slice p n c, .int .i64 t.at_] 26) ∧ wr.heap[w.heap.size + 1]? = some (.cells #[.int .i64 t.kind, .string t.name, .int .u32 t.num, .int .i64 t.int_, .string t.key, .slice p' n c', .int .i64 ua] 26) ∧ Hid (∀ i (h : i < t.args.length) (h' : i < ul.length), i < j → eqT t.args[i] ul[i] = true)) (fun iv _ => n - (intOf iv).toNat)
      case atStart => exact ⟨HBX.out.1, 0, Nat.zero_le _, rfl, HBX.out.2.1, HBX.out.2.2, fun i _ _ hi => absurd hi (Nat.not_lt_zero _)⟩
      case round =>
        obtain ⟨hb, j, hj, rfl, hx, hy, hS⟩ := hrel
        have h5 := cell5 hx
        have h5' := cell5 hy
        have HX : Hid (wr.heap[w.heap.size]? = some (.cells #[.int .i64 t.kind, .string t.name, .int .u32 t.num, .int .i64 t.int_, .string t.key, .slice p n c, .int .i64 t.at_] 26)) := hx
        have HY : Hid (wr.heap[w.heap.size + 1]? = some (.cells #[.int .i64 t.kind, .string t.name, .int .u32 t.num, .int .i64 t.int_, .string t.key, .slice p' n c', .int .i64 ua] 26)) := hy
        clear hx hy HBX
        by_cases hlt0 : j < n
        · have hll : j < t.args.length := by rw [HN.out]; exact hlt0
          have hlu : j < ul.length := by rw [HM.out]; exact hlt0
          obtain ⟨b1, o1, q1, d1, rfl, ⟨x0, x1, x2, x3, x4, x5, x6⟩, kx⟩ := kid_at HK.out hb hll
          obtain ⟨b2, o2, q2, d2, rfl, ⟨y0, y1, y2, y3, y4, y5, y6⟩, ky⟩ := kid_at HK2.out hb hlu
          obtain ⟨rb, hrb⟩ : ∃ rb, eqT t.args[j] ul[j] = rb := ⟨_, rfl⟩
          have HRB : Hid (eqT t.args[j] ul[j] = rb) := hrb
          have HW : Hid (∀ v, Below wr.heap.size wr v → Calls Try.prog 16 #[.agg #[.int .i64 t.args[j].kind, .string t.args[j].name, .int .u32 t.args[j].num, .int .i64 t.args[j].int_, .string t.args[j].key, .slice q1 t.args[j].args.length d1, .int .i64 t.args[j].at_], .agg #[.int .i64 ul[j].kind, .string ul[j].name, .int .u32 ul[j].num, .int .i64 ul[j].int_, .string ul[j].key, .slice q2 ul[j].args.length d2, .int .i64 ul[j].at_]] v fun e v' => e = .returned (.bool rb) ∧ Below wr.heap.size wr v') := fun v hv =>
            (HIH.out t.args[j] ul[j] q1 q2 d1 d2 v (by have := dep_get hll; unfold dep at hd ⊢; unfold dep at this; omega) (by have := cnt_get hll; unfold cnt at hc; omega) (by have := cnt_get hlu; have h9 : 1 + cntL ul ≤ 9000 := hcu; omega) (kx.below hv) (ky.below hv)).mono fun e v' ⟨he, hb'⟩ => ⟨by rw [he, HRB.out], bel hv hb'⟩
          have HB : Hid (∀ v, Below wr.heap.size wr v → v.cell? ⟨w.heap.size, 5, none⟩ = some (.slice (some ⟨b1, o1, none⟩) n c) ∧ v.cell? ⟨w.heap.size + 1, 5, none⟩ = some (.slice (some ⟨b2, o2, none⟩) n c') ∧ (v.cell? ⟨b1, o1 + j * 7, none⟩ = some (.int .i64 t.args[j].kind) ∧ v.cell? ⟨b1, o1 + j * 7 + 1, none⟩ = some (.string t.args[j].name) ∧ v.cell? ⟨b1, o1 + j * 7 + 2, none⟩ = some (.int .u32 t.args[j].num) ∧ v.cell? ⟨b1, o1 + j * 7 + 3, none⟩ = some (.int .i64 t.args[j].int_) ∧ v.cell? ⟨b1, o1 + j * 7 + 4, none⟩ = some (.string t.args[j].key) ∧ v.cell? ⟨b1, o1 + j * 7 + 5, none⟩ = some (.slice q1 t.args[j].args.length d1) ∧ v.cell? ⟨b1, o1 + j * 7 + 6, none⟩ = some (.int .i64 t.args[j].at_)) ∧ v.cell? ⟨b2, o2 + j * 7, none⟩ = some (.int .i64 ul[j].kind) ∧ v.cell? ⟨b2, o2 + j * 7 + 1, none⟩ = some (.string ul[j].name) ∧ v.cell? ⟨b2, o2 + j * 7 + 2, none⟩ = some (.int .u32 ul[j].num) ∧ v.cell? ⟨b2, o2 + j * 7 + 3, none⟩ = some (.int .i64 ul[j].int_) ∧ v.cell? ⟨b2, o2 + j * 7 + 4, none⟩ = some (.string ul[j].key) ∧ v.cell? ⟨b2, o2 + j * 7 + 5, none⟩ = some (.slice q2 ul[j].args.length d2) ∧ v.cell? ⟨b2, o2 + j * 7 + 6, none⟩ = some (.int .i64 ul[j].at_)) := fun v hv =>
            ⟨(hv.cell (mcell_lt h5)).trans h5, (hv.cell (mcell_lt h5')).trans h5', ⟨(hv.cell (mcell_lt x0)).trans x0, (hv.cell (mcell_lt x1)).trans x1, (hv.cell (mcell_lt x2)).trans x2, (hv.cell (mcell_lt x3)).trans x3, (hv.cell (mcell_lt x4)).trans x4, (hv.cell (mcell_lt x5)).trans x5, (hv.cell (mcell_lt x6)).trans x6⟩,
              (hv.cell (mcell_lt y0)).trans y0, (hv.cell (mcell_lt y1)).trans y1, (hv.cell (mcell_lt y2)).trans y2, (hv.cell (mcell_lt y3)).trans y3, (hv.cell (mcell_lt y4)).trans y4, (hv.cell (mcell_lt y5)).trans y5, (hv.cell (mcell_lt y6)).trans y6⟩
          have i1 : (0 : Int) ≤ (j : Int) := by omega
          have i2 : (j : Int) < (n : Int) := by omega
          clear kx ky HIH HK HK2 hrb
          cases rb with
          | false =>
            go_wp2
            go_region_held3 (fun w' => w'.cell? ⟨w.heap.size, 5, none⟩ = some (.slice (some ⟨b1, o1, none⟩) n c) ∧ w'.cell? ⟨w.heap.size + 1, 5, none⟩ = some (.slice (some ⟨b2, o2, none⟩) n c') ∧ w'.cell? ⟨b1, o1 + j * 7, none⟩ = some (.int .i64 t.args[j].kind) ∧ w'.cell? ⟨b1, o1 + j * 7 + 1, none⟩ = some (.string t.args[j].name) ∧ w'.cell? ⟨b1, o1 + j * 7 + 2, none⟩ = some (.int .u32 t.args[j].num) ∧ w'.cell? ⟨b1, o1 + j * 7 + 3, none⟩ = some (.int .i64 t.args[j].int_) ∧ w'.cell? ⟨b1, o1 + j * 7 + 4, none⟩ = some (.string t.args[j].key) ∧ w'.cell? ⟨b1, o1 + j * 7 + 5, none⟩ = some (.slice q1 t.args[j].args.length d1) ∧ w'.cell? ⟨b1, o1 + j * 7 + 6, none⟩ = some (.int .i64 t.args[j].at_) ∧ w'.cell? ⟨b2, o2 + j * 7, none⟩ = some (.int .i64 ul[j].kind) ∧ w'.cell? ⟨b2, o2 + j * 7 + 1, none⟩ = some (.string ul[j].name) ∧ w'.cell? ⟨b2, o2 + j * 7 + 2, none⟩ = some (.int .u32 ul[j].num) ∧ w'.cell? ⟨b2, o2 + j * 7 + 3, none⟩ = some (.int .i64 ul[j].int_) ∧ w'.cell? ⟨b2, o2 + j * 7 + 4, none⟩ = some (.string ul[j].key) ∧ w'.cell? ⟨b2, o2 + j * 7 + 5, none⟩ = some (.slice q2 ul[j].args.length d2) ∧ w'.cell? ⟨b2, o2 + j * 7 + 6, none⟩ = some (.int .i64 ul[j].at_)) (go_keep) (first
              | (go_at_call 16; (with_reducible refine (HW.out _ ?_).mono ?_); (first | exact bel_d _ | exact bel_dn _ _ | go_grown); rintro e w3 ⟨rfl, hb3⟩; obtain ⟨g5, k5, ⟨m0, m1, m2, m3, m4, m5, m6⟩, n0, n1, n2, n3, n4, n5, n6⟩ := HB.out w3 hb3))
            go_wp2
            go_ret
            refine ⟨ret_bool ?_, bel hb hb3⟩
            rw [HEQ.out, eqL_false_of (by rw [HN.out, HM.out]) hll hlu HRB.out]
          | true =>
            go_wp2
            go_region_held3 (fun w' => w'.cell? ⟨w.heap.size, 5, none⟩ = some (.slice (some ⟨b1, o1, none⟩) n c) ∧ w'.cell? ⟨w.heap.size + 1, 5, none⟩ = some (.slice (some ⟨b2, o2, none⟩) n c') ∧ w'.cell? ⟨b1, o1 + j * 7, none⟩ = some (.int .i64 t.args[j].kind) ∧ w'.cell? ⟨b1, o1 + j * 7 + 1, none⟩ = some (.string t.args[j].name) ∧ w'.cell? ⟨b1, o1 + j * 7 + 2, none⟩ = some (.int .u32 t.args[j].num) ∧ w'.cell? ⟨b1, o1 + j * 7 + 3, none⟩ = some (.int .i64 t.args[j].int_) ∧ w'.cell? ⟨b1, o1 + j * 7 + 4, none⟩ = some (.string t.args[j].key) ∧ w'.cell? ⟨b1, o1 + j * 7 + 5, none⟩ = some (.slice q1 t.args[j].args.length d1) ∧ w'.cell? ⟨b1, o1 + j * 7 + 6, none⟩ = some (.int .i64 t.args[j].at_) ∧ w'.cell? ⟨b2, o2 + j * 7, none⟩ = some (.int .i64 ul[j].kind) ∧ w'.cell? ⟨b2, o2 + j * 7 + 1, none⟩ = some (.string ul[j].name) ∧ w'.cell? ⟨b2, o2 + j * 7 + 2, none⟩ = some (.int .u32 ul[j].num) ∧ w'.cell? ⟨b2, o2 + j * 7 + 3, none⟩ = some (.int .i64 ul[j].int_) ∧ w'.cell? ⟨b2, o2 + j * 7 + 4, none⟩ = some (.string ul[j].key) ∧ w'.cell? ⟨b2, o2 + j * 7 + 5, none⟩ = some (.slice q2 ul[j].args.length d2) ∧ w'.cell? ⟨b2, o2 + j * 7 + 6, none⟩ = some (.int .i64 ul[j].at_)) (go_keep) (first
              | (go_at_call 16; (with_reducible refine (HW.out _ ?_).mono ?_); (first | exact bel_d _ | exact bel_dn _ _ | go_grown); rintro e w3 ⟨rfl, hb3⟩; obtain ⟨g5, k5, ⟨m0, m1, m2, m3, m4, m5, m6⟩, n0, n1, n2, n3, n4, n5, n6⟩ := HB.out w3 hb3))
            go_wp2
            go_roundw
            case rel =>
              refine ⟨bel hb hb3, j + 1, by omega, by go_num, by rw [hb3.block _ (hlt HX.out)]; exact HX.out, by rw [hb3.block _ (hlt HY.out)]; exact HY.out, fun i h h' hij => ?_⟩
              by_cases e : i = j
              · subst e; exact HRB.out
              · exact hS.out i h h' (by omega)
            case measure => simp [intOf]; omega
        · have : j = n := by omega
          subst this
          go_wp2
          go_ret
          refine ⟨ret_bool ?_, hb⟩
          rw [HEQ.out, eqL_true_of (by rw [HN.out, HM.out]) fun i h h' => hS.out i h h' (by rw [← HN.out]; exact h)]

end Go.Proofs.Ytbmkddmmclndcaa
