import Derived.Test.YtpidjmgifglmiabTreeRef
/- The reference's Equal; same. -/
namespace Go.Proofs.Ytpidjmgifglmiab
open Go.RowKit
set_option linter.unusedVariables false
set_option linter.unusedSimpArgs false

theorem toList_inj {a b : ByteArray} (h : a.toList = b.toList) : a = b := by
  rw [ByteArray.toList_eq, ByteArray.toList_eq] at h
  cases a; cases b
  congr 1
  exact Array.toList_inj.1 h

def SameTo (N : Nat) : Prop := ∀ (t : Nd) (p p' : Option Addr) (c c' : Nat) (w : World), dep t ≤ N → cnt t ≤ 9000 → Kids w anyH (.slice p t.args.length c) t.args → Kids w anyH (.slice p' t.args.length c') t.args →
  Calls Try.prog 10 #[nv t (.slice p t.args.length c), nv t (.slice p' t.args.length c')] w fun e w' => e = .returned (.bool true) ∧ Below w.heap.size w w'
set_option maxRecDepth 100000 in
set_option maxHeartbeats 4000000 in
theorem same_to : ∀ N, SameTo N := by
  intro N
  induction N with
  | zero => intro t p p' c c' w hd; unfold dep at hd; omega
  | succ N ih =>
      intro t p p' c c' w hd hc hk hk'
      have hlen : t.args.length ≤ 9000 := by have := cntL_len t.args; unfold cnt at hc; omega
      obtain ⟨n, hn⟩ : ∃ n, t.args.length = n := ⟨_, rfl⟩
      have HN : Hid (t.args.length = n) := hn
      have HK : Hid (Kids w anyH (.slice p t.args.length c) t.args) := hk
      have HK2 : Hid (Kids w anyH (.slice p' t.args.length c') t.args) := hk'
      have HIH : Hid (SameTo N) := ih
      unfold nv
      rw [hn] at hlen ⊢
      have HBX : Hid (Below w.heap.size w ((w.alloc (.cells #[.int .i64 t.kind, .string t.name, .int .u32 t.num, .int .i64 t.int_, .string t.key, .slice p n c, .int .i64 t.at_] 26)).alloc (.cells #[.int .i64 t.kind, .string t.name, .int .u32 t.num, .int .i64 t.int_, .string t.key, .slice p' n c', .int .i64 t.at_] 26)) ∧ ((w.alloc (.cells #[.int .i64 t.kind, .string t.name, .int .u32 t.num, .int .i64 t.int_, .string t.key, .slice p n c, .int .i64 t.at_] 26)).alloc (.cells #[.int .i64 t.kind, .string t.name, .int .u32 t.num, .int .i64 t.int_, .string t.key, .slice p' n c', .int .i64 t.at_] 26)).heap[w.heap.size]? = some (.cells #[.int .i64 t.kind, .string t.name, .int .u32 t.num, .int .i64 t.int_, .string t.key, .slice p n c, .int .i64 t.at_] 26) ∧ ((w.alloc (.cells #[.int .i64 t.kind, .string t.name, .int .u32 t.num, .int .i64 t.int_, .string t.key, .slice p n c, .int .i64 t.at_] 26)).alloc (.cells #[.int .i64 t.kind, .string t.name, .int .u32 t.num, .int .i64 t.int_, .string t.key, .slice p' n c', .int .i64 t.at_] 26)).heap[w.heap.size + 1]? = some (.cells #[.int .i64 t.kind, .string t.name, .int .u32 t.num, .int .i64 t.int_, .string t.key, .slice p' n c', .int .i64 t.at_] 26)) := ⟨bel (bel_alloc _ _) (bel_alloc _ _), heap_old _ _ (box_heap _ _), two_heap _ _ _⟩
      clear hn hk hk' ih
      go_enter Try.func10, Try.ntmps10
      go_wp2
      go_loopw [5] (fun iv wr => Below w.heap.size w wr ∧ ∃ j : Nat, j ≤ n ∧ iv = .int .i64 j ∧ wr.heap[w.heap.size]? = some (.cells #[.int .i64 t.kind, .string t.name, .int .u32 t.num, .int .i64 t.int_, .string t.key, .slice p n c, .int .i64 t.at_] 26) ∧ wr.heap[w.heap.size + 1]? = some (.cells #[.int .i64 t.kind, .string t.name, .int .u32 t.num, .int .i64 t.int_, .string t.key, .slice p' n c', .int .i64 t.at_] 26)) (fun iv _ => n - (intOf iv).toNat)
      case atStart => exact ⟨HBX.out.1, 0, Nat.zero_le _, rfl, HBX.out.2.1, HBX.out.2.2⟩
      case round =>
        obtain ⟨hb, j, hj, rfl, hx, hy⟩ := hrel
        have h5 := cell5 hx
        have h5' := cell5 hy
        have HX : Hid (wr.heap[w.heap.size]? = some (.cells #[.int .i64 t.kind, .string t.name, .int .u32 t.num, .int .i64 t.int_, .string t.key, .slice p n c, .int .i64 t.at_] 26)) := hx
        have HY : Hid (wr.heap[w.heap.size + 1]? = some (.cells #[.int .i64 t.kind, .string t.name, .int .u32 t.num, .int .i64 t.int_, .string t.key, .slice p' n c', .int .i64 t.at_] 26)) := hy
        clear hx hy HBX
        by_cases hlt0 : j < n
        · have hll : j < t.args.length := by rw [HN.out]; exact hlt0
          have hlu : j < t.args.length := by rw [HN.out]; exact hlt0
          obtain ⟨b1, o1, q1, d1, rfl, ⟨x0, x1, x2, x3, x4, x5, x6⟩, kx⟩ := kid_at HK.out hb hll
          obtain ⟨b2, o2, q2, d2, rfl, ⟨y0, y1, y2, y3, y4, y5, y6⟩, ky⟩ := kid_at HK2.out hb hlu
          have HW : Hid (∀ v, Below wr.heap.size wr v → Calls Try.prog 10 #[.agg #[.int .i64 t.args[j].kind, .string t.args[j].name, .int .u32 t.args[j].num, .int .i64 t.args[j].int_, .string t.args[j].key, .slice q1 t.args[j].args.length d1, .int .i64 t.args[j].at_], .agg #[.int .i64 t.args[j].kind, .string t.args[j].name, .int .u32 t.args[j].num, .int .i64 t.args[j].int_, .string t.args[j].key, .slice q2 t.args[j].args.length d2, .int .i64 t.args[j].at_]] v fun e v' => e = .returned (.bool true) ∧ Below wr.heap.size wr v') := fun v hv =>
            (HIH.out t.args[j] q1 q2 d1 d2 v (by have := dep_get hll; unfold dep at hd ⊢; unfold dep at this; omega) (by have := cnt_get hll; unfold cnt at hc; omega) (kx.below hv) (ky.below hv)).mono fun e v' ⟨he, hb'⟩ => ⟨he, bel hv hb'⟩
          have HB : Hid (∀ v, Below wr.heap.size wr v → v.cell? ⟨w.heap.size, 5, none⟩ = some (.slice (some ⟨b1, o1, none⟩) n c) ∧ v.cell? ⟨w.heap.size + 1, 5, none⟩ = some (.slice (some ⟨b2, o2, none⟩) n c') ∧ (v.cell? ⟨b1, o1 + j * 7, none⟩ = some (.int .i64 t.args[j].kind) ∧ v.cell? ⟨b1, o1 + j * 7 + 1, none⟩ = some (.string t.args[j].name) ∧ v.cell? ⟨b1, o1 + j * 7 + 2, none⟩ = some (.int .u32 t.args[j].num) ∧ v.cell? ⟨b1, o1 + j * 7 + 3, none⟩ = some (.int .i64 t.args[j].int_) ∧ v.cell? ⟨b1, o1 + j * 7 + 4, none⟩ = some (.string t.args[j].key) ∧ v.cell? ⟨b1, o1 + j * 7 + 5, none⟩ = some (.slice q1 t.args[j].args.length d1) ∧ v.cell? ⟨b1, o1 + j * 7 + 6, none⟩ = some (.int .i64 t.args[j].at_)) ∧ v.cell? ⟨b2, o2 + j * 7, none⟩ = some (.int .i64 t.args[j].kind) ∧ v.cell? ⟨b2, o2 + j * 7 + 1, none⟩ = some (.string t.args[j].name) ∧ v.cell? ⟨b2, o2 + j * 7 + 2, none⟩ = some (.int .u32 t.args[j].num) ∧ v.cell? ⟨b2, o2 + j * 7 + 3, none⟩ = some (.int .i64 t.args[j].int_) ∧ v.cell? ⟨b2, o2 + j * 7 + 4, none⟩ = some (.string t.args[j].key) ∧ v.cell? ⟨b2, o2 + j * 7 + 5, none⟩ = some (.slice q2 t.args[j].args.length d2) ∧ v.cell? ⟨b2, o2 + j * 7 + 6, none⟩ = some (.int .i64 t.args[j].at_)) := fun v hv =>
            ⟨(hv.cell (mcell_lt h5)).trans h5, (hv.cell (mcell_lt h5')).trans h5', ⟨(hv.cell (mcell_lt x0)).trans x0, (hv.cell (mcell_lt x1)).trans x1, (hv.cell (mcell_lt x2)).trans x2, (hv.cell (mcell_lt x3)).trans x3, (hv.cell (mcell_lt x4)).trans x4, (hv.cell (mcell_lt x5)).trans x5, (hv.cell (mcell_lt x6)).trans x6⟩,
              (hv.cell (mcell_lt y0)).trans y0, (hv.cell (mcell_lt y1)).trans y1, (hv.cell (mcell_lt y2)).trans y2, (hv.cell (mcell_lt y3)).trans y3, (hv.cell (mcell_lt y4)).trans y4, (hv.cell (mcell_lt y5)).trans y5, (hv.cell (mcell_lt y6)).trans y6⟩
          have i1 : (0 : Int) ≤ (j : Int) := by omega
          have i2 : (j : Int) < (n : Int) := by omega
          clear kx ky HIH HK HK2
          go_wp2
          go_region_held3 (fun w' => w'.cell? ⟨w.heap.size, 5, none⟩ = some (.slice (some ⟨b1, o1, none⟩) n c) ∧ w'.cell? ⟨w.heap.size + 1, 5, none⟩ = some (.slice (some ⟨b2, o2, none⟩) n c') ∧ w'.cell? ⟨b1, o1 + j * 7, none⟩ = some (.int .i64 t.args[j].kind) ∧ w'.cell? ⟨b1, o1 + j * 7 + 1, none⟩ = some (.string t.args[j].name) ∧ w'.cell? ⟨b1, o1 + j * 7 + 2, none⟩ = some (.int .u32 t.args[j].num) ∧ w'.cell? ⟨b1, o1 + j * 7 + 3, none⟩ = some (.int .i64 t.args[j].int_) ∧ w'.cell? ⟨b1, o1 + j * 7 + 4, none⟩ = some (.string t.args[j].key) ∧ w'.cell? ⟨b1, o1 + j * 7 + 5, none⟩ = some (.slice q1 t.args[j].args.length d1) ∧ w'.cell? ⟨b1, o1 + j * 7 + 6, none⟩ = some (.int .i64 t.args[j].at_) ∧ w'.cell? ⟨b2, o2 + j * 7, none⟩ = some (.int .i64 t.args[j].kind) ∧ w'.cell? ⟨b2, o2 + j * 7 + 1, none⟩ = some (.string t.args[j].name) ∧ w'.cell? ⟨b2, o2 + j * 7 + 2, none⟩ = some (.int .u32 t.args[j].num) ∧ w'.cell? ⟨b2, o2 + j * 7 + 3, none⟩ = some (.int .i64 t.args[j].int_) ∧ w'.cell? ⟨b2, o2 + j * 7 + 4, none⟩ = some (.string t.args[j].key) ∧ w'.cell? ⟨b2, o2 + j * 7 + 5, none⟩ = some (.slice q2 t.args[j].args.length d2) ∧ w'.cell? ⟨b2, o2 + j * 7 + 6, none⟩ = some (.int .i64 t.args[j].at_)) (go_keep) (first
            | (go_at_call 10; (with_reducible refine (HW.out _ ?_).mono ?_); (first | exact bel_d _ | exact bel_dn _ _ | go_grown); rintro e w3 ⟨rfl, hb3⟩; obtain ⟨g5, k5, ⟨m0, m1, m2, m3, m4, m5, m6⟩, n0, n1, n2, n3, n4, n5, n6⟩ := HB.out w3 hb3))
          go_wp2
          go_roundw
          case rel => exact ⟨bel hb hb3, j + 1, by omega, by go_num, by rw [hb3.block _ (hlt HX.out)]; exact HX.out, by rw [hb3.block _ (hlt HY.out)]; exact HY.out⟩
          case measure => simp [intOf]; omega
        · have : j = n := by omega
          subst this
          go_wp2
          go_ret
          exact ⟨rfl, hb⟩

end Go.Proofs.Ytpidjmgifglmiab
