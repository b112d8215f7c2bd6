import Derived.Test.YtbmkddmmclndcaaPart23
/- The statements' own named. (tool/layer12/gennm.py) -/
namespace Go.Proofs.Ytbmkddmmclndcaa
open Go.RowKit
set_option linter.unusedVariables false
set_option linter.unusedSimpArgs false

def NmTo (nm : ByteArray) (v : Nd) (V0 N : Nat) : Prop := ∀ (t : Nd) (p : Option Addr) (c : Nat) (pv : Option Addr) (cv : Nat) (w : World), dep t ≤ N → cnt t ≤ 40000 → V0 ≤ w.heap.size → Kids w anyH (.slice p t.args.length c) t.args → Kids w (lowH V0) (.slice pv v.args.length cv) v.args →
  Calls Try.prog 15 #[nv t (.slice p t.args.length c), .string nm, nv v (.slice pv v.args.length cv)] w fun e w' => ∃ p' n' c', e = .returned (nv (nmN nm v t) (.slice p' n' c')) ∧ Kids w' (midH V0 w.heap.size w'.heap.size none) (.slice p' n' c') (nmN nm v t).args ∧ Below w.heap.size w w'

set_option maxRecDepth 100000 in
set_option maxHeartbeats 4000000 in
theorem nm_name (nm : ByteArray) (v : Nd) (V0 : Nat) (t : Nd) (p : Option Addr) (c : Nat) (pv : Option Addr) (cv : Nat) (w : World) (h4 : (t.kind == 4) = true) (h5 : sameB t.name nm = true) (hV : V0 ≤ w.heap.size) (hk : Kids w anyH (.slice p t.args.length c) t.args) (hkv : Kids w (lowH V0) (.slice pv v.args.length cv) v.args) :
    Calls Try.prog 15 #[nv t (.slice p t.args.length c), .string nm, nv v (.slice pv v.args.length cv)] w fun e w' => ∃ p' n' c', e = .returned (nv (nmN nm v t) (.slice p' n' c')) ∧ Kids w' (midH V0 w.heap.size w'.heap.size none) (.slice p' n' c') (nmN nm v t).args ∧ Below w.heap.size w w' := by
  rw [nmN_name h4 h5]
  have hka : (keyN v t.key).args = v.args := rfl
  have hkn : ∀ s, nv (keyN v t.key) s = .agg #[.int .i64 v.kind, .string v.name, .int .u32 v.num, .int .i64 v.int_, .string t.key, s, .int .i64 v.at_] := fun _ => rfl
  rw [hka]
  have HKN : Hid (∀ s, nv (keyN v t.key) s = .agg #[.int .i64 v.kind, .string v.name, .int .u32 v.num, .int .i64 v.int_, .string t.key, s, .int .i64 v.at_]) := hkn
  have hk4 : t.kind = 4 := by simpa using h4
  have hsm : t.name = nm := sameB_iff.1 h5
  obtain ⟨n, hn⟩ : ∃ n, t.args.length = n := ⟨_, rfl⟩
  obtain ⟨L, hL⟩ : ∃ L, v.args.length = L := ⟨_, rfl⟩
  have HN : Hid (t.args.length = n) := hn
  have HL : Hid (v.args.length = L) := hL
  have HK : Hid (Kids w anyH (.slice p t.args.length c) t.args) := hk
  have HKV : Hid (Kids w (lowH V0) (.slice pv v.args.length cv) v.args) := hkv
  obtain ⟨C, hC⟩ : ∃ C, w.heap.size + 3 = C := ⟨_, rfl⟩
  have HV0 : Hid (V0 ≤ w.heap.size ∧ w.heap.size + 3 = C) := ⟨hV, hC⟩
  obtain ⟨i0, hi0, hz0, hz1, hz2⟩ := info_parts info_Node
  rw [show nv t (.slice p t.args.length c) = .agg #[.int .i64 t.kind, .string t.name, .int .u32 t.num, .int .i64 t.int_, .string t.key, .slice p t.args.length c, .int .i64 t.at_] from rfl, show nv v (.slice pv v.args.length cv) = .agg #[.int .i64 v.kind, .string v.name, .int .u32 v.num, .int .i64 v.int_, .string v.key, .slice pv v.args.length cv, .int .i64 v.at_] from rfl]
  rw [hn, hL]
  obtain ⟨W3, hW3, hB3, hX3, hY3, hZ3, hs3⟩ : ∃ W3, ((w.alloc (.cells #[.int .i64 t.kind, .string t.name, .int .u32 t.num, .int .i64 t.int_, .string t.key, .slice p n c, .int .i64 t.at_] 26)).alloc (.cells #[.int .i64 v.kind, .string v.name, .int .u32 v.num, .int .i64 v.int_, .string v.key, .slice pv L cv, .int .i64 v.at_] 26)).alloc (.cells #[.int .i64 0, .string ⟨#[]⟩, .int .u32 0, .int .i64 0, .string ⟨#[]⟩, .slice none 0 0, .int .i64 0] 26) = W3 ∧ Below w.heap.size w W3 ∧ W3.heap[w.heap.size]? = some (.cells #[.int .i64 t.kind, .string t.name, .int .u32 t.num, .int .i64 t.int_, .string t.key, .slice p n c, .int .i64 t.at_] 26) ∧ W3.heap[w.heap.size + 1]? = some (.cells #[.int .i64 v.kind, .string v.name, .int .u32 v.num, .int .i64 v.int_, .string v.key, .slice pv L cv, .int .i64 v.at_] 26) ∧ W3.heap[w.heap.size + 2]? = some (.cells #[.int .i64 0, .string ⟨#[]⟩, .int .u32 0, .int .i64 0, .string ⟨#[]⟩, .slice none 0 0, .int .i64 0] 26) ∧ C ≤ W3.heap.size := ⟨_, rfl, bel (bel (bel_alloc _ _) (bel_alloc _ _)) (bel_alloc _ _), heap_old _ _ (heap_old _ _ (box_heap _ _)), heap_old _ _ (two_heap _ _ _), three_heap _ _ _ _, by simp; omega⟩
  have HB : Hid (Below w.heap.size w W3 ∧ C ≤ W3.heap.size) := ⟨hB3, hs3⟩
  have HW3 : Hid (W3.heap[w.heap.size]? = some (.cells #[.int .i64 t.kind, .string t.name, .int .u32 t.num, .int .i64 t.int_, .string t.key, .slice p n c, .int .i64 t.at_] 26) ∧ W3.heap[w.heap.size + 1]? = some (.cells #[.int .i64 v.kind, .string v.name, .int .u32 v.num, .int .i64 v.int_, .string v.key, .slice pv L cv, .int .i64 v.at_] 26) ∧ W3.heap[w.heap.size + 2]? = some (.cells #[.int .i64 0, .string ⟨#[]⟩, .int .u32 0, .int .i64 0, .string ⟨#[]⟩, .slice none 0 0, .int .i64 0] 26)) := ⟨hX3, hY3, hZ3⟩
  obtain ⟨⟨g0, g1, g2, g3, g4, g5, g6⟩, f0, f1, f2, f3, f4, f5, f6⟩ := seven hX3
  obtain ⟨⟨y0, y1, y2, y3, y4, y5, y6⟩, e0, e1, e2, e3, e4, e5, e6⟩ := seven hY3
  obtain ⟨⟨s0, s1, s2, s3, s4, s5, s6⟩, q0, q1, q2, q3, q4, q5, q6⟩ := seven hZ3
  have hnn : (nm.toList == nm.toList) = true := by simp
  rw [hsm] at g1 hW3 ⊢
  rw [hk4] at g0 hW3 ⊢
  clear hn hL hk hkv hC hV h4 h5 hka hkn hX3 hY3 hZ3 hs3 hB3 hi0 hz0 hz1 hz2 f0 f1 f2 f3 f4 f5 f6
  go_enter Try.func15, Try.ntmps15
  go_wp2
  refine bodyPost_ret (by simp [results, Try.results15, go_sem, s0, s1, s2, s3, s4, s5, s6, q0, q1, q2, q3, q4, q5, q6]; try rfl) rfl ?_
  have hoff1 := (Off.refl (w.heap.size + 1) W3).set 4 (.string t.key)
  obtain ⟨U, hU⟩ : ∃ U, W3.setCell ⟨w.heap.size + 1, 4, none⟩ (.string t.key) = U := ⟨_, rfl⟩
  rw [hU] at hoff1 ⊢
  have hoff2 := (((((((Off.refl (w.heap.size + 2) U).set 0 (.int .i64 v.kind)).set 1 (.string v.name)).set 2 (.int .u32 v.num)).set 3 (.int .i64 v.int_)).set 4 (.string t.key)).set 5 (.slice pv L cv)).set 6 (.int .i64 v.at_)
  have hv := HV0.out.1
  have hbf := hoff2.below (hoff1.below HB.out.1 (by omega)) (by omega)
  refine ⟨pv, L, cv, by rw [HKN.out], ?_, hbf⟩
  have hk := HKV.out.below (by exact hbf)
  rw [HL.out] at hk
  exact hk.weak fun p n c hq => hq.imp id fun hq b o hp => ⟨Nat.lt_of_lt_of_le (hq b o hp) (Nat.le_trans hv hbf.size), .inl (hq b o hp), by simp⟩

set_option maxRecDepth 100000 in
set_option maxHeartbeats 8000000 in
theorem nm_row (nm : ByteArray) (v : Nd) (V0 N : Nat) (ih : NmTo nm v V0 N) (t : Nd) (p : Option Addr) (c : Nat) (pv : Option Addr) (cv : Nat) (w : World) (hd : dep t ≤ N + 1) (hc : cnt t ≤ 40000) (hff : ((t.kind == 4) = false) ∨ ((t.kind == 4) = true ∧ sameB t.name nm = false)) (hV : V0 ≤ w.heap.size) (hk : Kids w anyH (.slice p t.args.length c) t.args) (hkv : Kids w (lowH V0) (.slice pv v.args.length cv) v.args) :
    Calls Try.prog 15 #[nv t (.slice p t.args.length c), .string nm, nv v (.slice pv v.args.length cv)] w fun e w' => ∃ p' n' c', e = .returned (nv (nmN nm v t) (.slice p' n' c')) ∧ Kids w' (midH V0 w.heap.size w'.heap.size none) (.slice p' n' c') (nmN nm v t).args ∧ Below w.heap.size w w' := by
  rw [nmN_row (hff.imp id And.right)]
  have HFA : Hid ((argsN t (t.args.map (nmN nm v))).args = t.args.map (nmN nm v)) := rfl
  have hlen : t.args.length ≤ 40000 := by have := cntL_len t.args; unfold cnt at hc; omega
  have HIH : Hid (NmTo nm v V0 N) := ih
  have HDC : Hid (dep t ≤ N + 1 ∧ cnt t ≤ 40000) := ⟨hd, hc⟩
  obtain ⟨n, hn⟩ : ∃ n, t.args.length = n := ⟨_, rfl⟩
  obtain ⟨L, hL⟩ : ∃ L, v.args.length = L := ⟨_, rfl⟩
  have HN : Hid (t.args.length = n) := hn
  have HL : Hid (v.args.length = L) := hL
  have HK : Hid (Kids w anyH (.slice p t.args.length c) t.args) := hk
  have HKV : Hid (Kids w (lowH V0) (.slice pv v.args.length cv) v.args) := hkv
  obtain ⟨C, hC⟩ : ∃ C, w.heap.size + 3 = C := ⟨_, rfl⟩
  have HV0 : Hid (V0 ≤ w.heap.size ∧ w.heap.size + 3 = C) := ⟨hV, hC⟩
  obtain ⟨i0, hi0, hz0, hz1, hz2⟩ := info_parts info_Node
  rw [show nv t (.slice p t.args.length c) = .agg #[.int .i64 t.kind, .string t.name, .int .u32 t.num, .int .i64 t.int_, .string t.key, .slice p t.args.length c, .int .i64 t.at_] from rfl, show nv v (.slice pv v.args.length cv) = .agg #[.int .i64 v.kind, .string v.name, .int .u32 v.num, .int .i64 v.int_, .string v.key, .slice pv v.args.length cv, .int .i64 v.at_] from rfl]
  rw [hn, hL]
  obtain ⟨W3, hW3, hB3, hX3, hY3, hZ3, hs3⟩ : ∃ W3, ((w.alloc (.cells #[.int .i64 t.kind, .string t.name, .int .u32 t.num, .int .i64 t.int_, .string t.key, .slice p n c, .int .i64 t.at_] 26)).alloc (.cells #[.int .i64 v.kind, .string v.name, .int .u32 v.num, .int .i64 v.int_, .string v.key, .slice pv L cv, .int .i64 v.at_] 26)).alloc (.cells #[.int .i64 0, .string ⟨#[]⟩, .int .u32 0, .int .i64 0, .string ⟨#[]⟩, .slice none 0 0, .int .i64 0] 26) = W3 ∧ Below w.heap.size w W3 ∧ W3.heap[w.heap.size]? = some (.cells #[.int .i64 t.kind, .string t.name, .int .u32 t.num, .int .i64 t.int_, .string t.key, .slice p n c, .int .i64 t.at_] 26) ∧ W3.heap[w.heap.size + 1]? = some (.cells #[.int .i64 v.kind, .string v.name, .int .u32 v.num, .int .i64 v.int_, .string v.key, .slice pv L cv, .int .i64 v.at_] 26) ∧ W3.heap[w.heap.size + 2]? = some (.cells #[.int .i64 0, .string ⟨#[]⟩, .int .u32 0, .int .i64 0, .string ⟨#[]⟩, .slice none 0 0, .int .i64 0] 26) ∧ C ≤ W3.heap.size := ⟨_, rfl, bel (bel (bel_alloc _ _) (bel_alloc _ _)) (bel_alloc _ _), heap_old _ _ (heap_old _ _ (box_heap _ _)), heap_old _ _ (two_heap _ _ _), three_heap _ _ _ _, by simp; omega⟩
  have HB : Hid (Below w.heap.size w W3 ∧ C ≤ W3.heap.size) := ⟨hB3, hs3⟩
  have HW3 : Hid (W3.heap[w.heap.size]? = some (.cells #[.int .i64 t.kind, .string t.name, .int .u32 t.num, .int .i64 t.int_, .string t.key, .slice p n c, .int .i64 t.at_] 26) ∧ W3.heap[w.heap.size + 1]? = some (.cells #[.int .i64 v.kind, .string v.name, .int .u32 v.num, .int .i64 v.int_, .string v.key, .slice pv L cv, .int .i64 v.at_] 26) ∧ W3.heap[w.heap.size + 2]? = some (.cells #[.int .i64 0, .string ⟨#[]⟩, .int .u32 0, .int .i64 0, .string ⟨#[]⟩, .slice none 0 0, .int .i64 0] 26)) := ⟨hX3, hY3, hZ3⟩
  obtain ⟨⟨g0, g1, g2, g3, g4, g5, g6⟩, f0, f1, f2, f3, f4, f5, f6⟩ := seven hX3
  rw [hn] at hlen
  clear hn hL hk hkv ih hB3 hX3 hY3 hZ3 hs3 hd hc hC hV
  rcases hff with h4 | ⟨h4, h5⟩
  · go_enter Try.func15, Try.ntmps15
    go_wp2
    clear g0 g1 g2 g3 g4 g5 g6 f0 f1 f2 f3 f4 f5 f6 hW3
    go_loopw [7, 8] (fun lv iv wr => Below w.heap.size w wr ∧ ∃ (j : Nat) (ov : Value), ov = lv ∧ j ≤ n ∧ iv = .int .i64 j ∧ C ≤ wr.heap.size ∧ LowEq C W3 wr ∧ Hid (∃ R, RowM wr V0 C ov ((t.args.take j).map (nmN nm v)) R)) (fun _ iv _ => n - (intOf iv).toNat)
    case atStart => exact ⟨HB.out.1, 0, _, rfl, Nat.zero_le _, rfl, HB.out.2, LowEq.refl _ _, [], by rw [List.take_zero]; exact RowM.nil _ _ _⟩
    case round =>
      obtain ⟨hb, j, ov, rfl, hj, rfl, hsz, hlw, R, hR⟩ := hrel
      have HLW : Hid (LowEq C W3 wr) := hlw
      have HBW : Hid (Below w.heap.size w wr) := hb
      have HCS : Hid (C ≤ wr.heap.size) := hsz
      have HC0 : Hid (w.heap.size < C) := by have := HV0.out; show _ < _; omega
      have HC1 : Hid (w.heap.size + 1 < C) := by have := HV0.out; show _ < _; omega
      have hx : wr.heap[w.heap.size]? = some (.cells #[.int .i64 t.kind, .string t.name, .int .u32 t.num, .int .i64 t.int_, .string t.key, .slice p n c, .int .i64 t.at_] 26) := (hlw _ HC0.out).trans HW3.out.1
      have hy : wr.heap[w.heap.size + 1]? = some (.cells #[.int .i64 v.kind, .string v.name, .int .u32 v.num, .int .i64 v.int_, .string v.key, .slice pv L cv, .int .i64 v.at_] 26) := (hlw _ HC1.out).trans HW3.out.2.1
      have hz : wr.heap[w.heap.size + 2]? = some (.cells #[.int .i64 0, .string ⟨#[]⟩, .int .u32 0, .int .i64 0, .string ⟨#[]⟩, .slice none 0 0, .int .i64 0] 26) := (hlw _ (by have := HV0.out; omega)).trans HW3.out.2.2
      have n5 := cell5 hx
      by_cases hlt0 : j < n
      · have hll : j < t.args.length := by rw [HN.out]; exact hlt0
        obtain ⟨b1, o1, q1, d1, rfl, ⟨x0, x1, x2, x3, x4, x5, x6⟩, kx⟩ := kid_at HK.out (bel0 w) hll
        have HCK : Hid (b1 < C) := by have h1 := mcell_lt x0; have := HV0.out; show b1 < C; simp at h1; omega
        replace x0 := (hb.cell (mcell_lt x0)).trans x0
        replace x1 := (hb.cell (mcell_lt x1)).trans x1
        replace x2 := (hb.cell (mcell_lt x2)).trans x2
        replace x3 := (hb.cell (mcell_lt x3)).trans x3
        replace x4 := (hb.cell (mcell_lt x4)).trans x4
        replace x5 := (hb.cell (mcell_lt x5)).trans x5
        replace x6 := (hb.cell (mcell_lt x6)).trans x6
        obtain ⟨⟨v0, v1, v2, v3, v4, v5, v6⟩, -⟩ := seven hy
        have HJL : Hid (((t.args.take j).map (nmN nm v)).length = j) := by show _ = _; rw [List.length_map, List.length_take]; omega
        have hw := fun (x : World) (k : Below wr.heap.size wr x) => HIH.out t.args[j] q1 d1 pv cv x (by have := dep_get hll; have := HDC.out.1; unfold dep at *; omega) (by have := cnt_get hll; have := HDC.out.2; unfold cnt at *; omega) (by have := HV0.out; have := k.size; omega) ((kx.below hb).below k) ((HKV.out.below hb).below k)
        obtain ⟨Y, hY⟩ : ∃ Y, nmN nm v t.args[j] = Y := ⟨_, rfl⟩
        have HYM : Hid ((t.args.take (j + 1)).map (nmN nm v) = (t.args.take j).map (nmN nm v) ++ [Y]) := by
          show _ = _
          rw [ntake_succ hll, List.map_append, ← hY]
          rfl
        rw [hY, HL.out] at hw
        have HW : Hid (∀ x, Below wr.heap.size wr x → Calls Try.prog 15 #[.agg #[.int .i64 t.args[j].kind, .string t.args[j].name, .int .u32 t.args[j].num, .int .i64 t.args[j].int_, .string t.args[j].key, .slice q1 t.args[j].args.length d1, .int .i64 t.args[j].at_], .string nm, .agg #[.int .i64 v.kind, .string v.name, .int .u32 v.num, .int .i64 v.int_, .string v.key, .slice pv L cv, .int .i64 v.at_]] x fun e v' => ∃ p3 n3 c3, e = .returned (.agg #[.int .i64 Y.kind, .string Y.name, .int .u32 Y.num, .int .i64 Y.int_, .string Y.key, .slice p3 n3 c3, .int .i64 Y.at_]) ∧ Kids v' (midH V0 x.heap.size v'.heap.size none) (.slice p3 n3 c3) Y.args ∧ Below x.heap.size x v') := hw
        have HR : Hid (RowM wr V0 C ov ((t.args.take j).map (nmN nm v)) R) := hR
        have i1 : (0 : Int) ≤ (j : Int) := by omega
        have i2 : (j : Int) < (n : Int) := by omega
        clear kx hw hY hx hy hz hR hlw
        go_upto_region 8 with fail
        refine wp_region_held_drew (S := (fun x => LowEq C wr x)) (by kernel_rfl) ?_ (fun hHeld => ?_)
        · ((try dsimp only); first | assumption | exact LowEq.drew _ _ | exact HL3.out | exact HLA.out | exact HL4.out)
        refine wpAnyH_take (i := 0) (v := ?_) (by simp only [List.getElem?_toArray, List.getElem?_cons_succ, List.getElem?_cons_zero]; rfl) (by kernel_rfl) (by kernel_rfl) (by kernel_rfl) (by exact fun _ _ _ h => h) (Or.inl ⟨by rfl, ?_⟩) (by assumption) ?_
        rotate_left 1
        · (intro wS hSw; have hSb : LowEq C wr wS := hSw; clear hSw; have zn := hSb.cell HC0.out n5; have zv0 := hSb.cell HC1.out v0; have zv1 := hSb.cell HC1.out v1; have zv2 := hSb.cell HC1.out v2; have zv3 := hSb.cell HC1.out v3; have zv4 := hSb.cell HC1.out v4; have zv5 := hSb.cell HC1.out v5; have zv6 := hSb.cell HC1.out v6; have zx0 := hSb.cell HCK.out x0; have zx1 := hSb.cell HCK.out x1; have zx2 := hSb.cell HCK.out x2; have zx3 := hSb.cell HCK.out x3; have zx4 := hSb.cell HCK.out x4; have zx5 := hSb.cell HCK.out x5; have zx6 := hSb.cell HCK.out x6; clear hSb; go_simp; try (with_reducible rfl))
        try simp only [Act.put, List.setIfInBounds_toArray, List.set_cons_zero, List.set_cons_succ]
        refine wpAnyH_take (i := 1) (v := ?_) (by simp only [List.getElem?_toArray, List.getElem?_cons_succ, List.getElem?_cons_zero]; rfl) (by kernel_rfl) (by kernel_rfl) (by kernel_rfl) (by exact fun _ _ _ h => h) (Or.inl ⟨by rfl, ?_⟩) (by assumption) ?_
        rotate_left 1
        · (intro wS hSw; have hSb : LowEq C wr wS := hSw; clear hSw; have zn := hSb.cell HC0.out n5; have zv0 := hSb.cell HC1.out v0; have zv1 := hSb.cell HC1.out v1; have zv2 := hSb.cell HC1.out v2; have zv3 := hSb.cell HC1.out v3; have zv4 := hSb.cell HC1.out v4; have zv5 := hSb.cell HC1.out v5; have zv6 := hSb.cell HC1.out v6; have zx0 := hSb.cell HCK.out x0; have zx1 := hSb.cell HCK.out x1; have zx2 := hSb.cell HCK.out x2; have zx3 := hSb.cell HCK.out x3; have zx4 := hSb.cell HCK.out x4; have zx5 := hSb.cell HCK.out x5; have zx6 := hSb.cell HCK.out x6; clear hSb; go_simp; try (with_reducible rfl))
        try simp only [Act.put, List.setIfInBounds_toArray, List.set_cons_zero, List.set_cons_succ]
        refine wpAnyH_take (i := 2) (v := ?_) (by simp only [List.getElem?_toArray, List.getElem?_cons_succ, List.getElem?_cons_zero]; rfl) (by kernel_rfl) (by kernel_rfl) (by kernel_rfl) (by exact fun _ _ _ h => h) (Or.inl ⟨by rfl, ?_⟩) (by assumption) ?_
        rotate_left 1
        · (intro wS hSw; have hSb : LowEq C wr wS := hSw; clear hSw; have zn := hSb.cell HC0.out n5; have zv0 := hSb.cell HC1.out v0; have zv1 := hSb.cell HC1.out v1; have zv2 := hSb.cell HC1.out v2; have zv3 := hSb.cell HC1.out v3; have zv4 := hSb.cell HC1.out v4; have zv5 := hSb.cell HC1.out v5; have zv6 := hSb.cell HC1.out v6; have zx0 := hSb.cell HCK.out x0; have zx1 := hSb.cell HCK.out x1; have zx2 := hSb.cell HCK.out x2; have zx3 := hSb.cell HCK.out x3; have zx4 := hSb.cell HCK.out x4; have zx5 := hSb.cell HCK.out x5; have zx6 := hSb.cell HCK.out x6; clear hSb; go_simp; try (with_reducible rfl))
        try simp only [Act.put, List.setIfInBounds_toArray, List.set_cons_zero, List.set_cons_succ]
        refine wpAnyH_take (i := 3) (v := ?_) (by simp only [List.getElem?_toArray, List.getElem?_cons_succ, List.getElem?_cons_zero]; rfl) (by kernel_rfl) (by kernel_rfl) (by kernel_rfl) (by exact fun _ _ _ h => h) (Or.inl ⟨by rfl, ?_⟩) (by assumption) ?_
        rotate_left 1
        · (intro wS hSw; have hSb : LowEq C wr wS := hSw; clear hSw; have zn := hSb.cell HC0.out n5; have zv0 := hSb.cell HC1.out v0; have zv1 := hSb.cell HC1.out v1; have zv2 := hSb.cell HC1.out v2; have zv3 := hSb.cell HC1.out v3; have zv4 := hSb.cell HC1.out v4; have zv5 := hSb.cell HC1.out v5; have zv6 := hSb.cell HC1.out v6; have zx0 := hSb.cell HCK.out x0; have zx1 := hSb.cell HCK.out x1; have zx2 := hSb.cell HCK.out x2; have zx3 := hSb.cell HCK.out x3; have zx4 := hSb.cell HCK.out x4; have zx5 := hSb.cell HCK.out x5; have zx6 := hSb.cell HCK.out x6; clear hSb; go_simp; try (with_reducible rfl))
        try simp only [Act.put, List.setIfInBounds_toArray, List.set_cons_zero, List.set_cons_succ]
        refine wpAnyH_take (i := 4) (v := ?_) (by simp only [List.getElem?_toArray, List.getElem?_cons_succ, List.getElem?_cons_zero]; rfl) (by kernel_rfl) (by kernel_rfl) (by kernel_rfl) (by exact fun _ _ _ h => h) (Or.inl ⟨by rfl, ?_⟩) (by assumption) ?_
        rotate_left 1
        · (intro wS hSw; have hSb : LowEq C wr wS := hSw; clear hSw; have zn := hSb.cell HC0.out n5; have zv0 := hSb.cell HC1.out v0; have zv1 := hSb.cell HC1.out v1; have zv2 := hSb.cell HC1.out v2; have zv3 := hSb.cell HC1.out v3; have zv4 := hSb.cell HC1.out v4; have zv5 := hSb.cell HC1.out v5; have zv6 := hSb.cell HC1.out v6; have zx0 := hSb.cell HCK.out x0; have zx1 := hSb.cell HCK.out x1; have zx2 := hSb.cell HCK.out x2; have zx3 := hSb.cell HCK.out x3; have zx4 := hSb.cell HCK.out x4; have zx5 := hSb.cell HCK.out x5; have zx6 := hSb.cell HCK.out x6; clear hSb; go_simp; try (with_reducible rfl))
        try simp only [Act.put, List.setIfInBounds_toArray, List.set_cons_zero, List.set_cons_succ]
        refine wpAnyH_take (i := 5) (v := ?_) (by simp only [List.getElem?_toArray, List.getElem?_cons_succ, List.getElem?_cons_zero]; rfl) (by kernel_rfl) (by kernel_rfl) (by kernel_rfl) (by exact fun _ _ _ h => h) (Or.inl ⟨by rfl, ?_⟩) (by assumption) ?_
        rotate_left 1
        · (intro wS hSw; have hSb : LowEq C wr wS := hSw; clear hSw; have zn := hSb.cell HC0.out n5; have zv0 := hSb.cell HC1.out v0; have zv1 := hSb.cell HC1.out v1; have zv2 := hSb.cell HC1.out v2; have zv3 := hSb.cell HC1.out v3; have zv4 := hSb.cell HC1.out v4; have zv5 := hSb.cell HC1.out v5; have zv6 := hSb.cell HC1.out v6; have zx0 := hSb.cell HCK.out x0; have zx1 := hSb.cell HCK.out x1; have zx2 := hSb.cell HCK.out x2; have zx3 := hSb.cell HCK.out x3; have zx4 := hSb.cell HCK.out x4; have zx5 := hSb.cell HCK.out x5; have zx6 := hSb.cell HCK.out x6; clear hSb; go_simp; try (with_reducible rfl))
        try simp only [Act.put, List.setIfInBounds_toArray, List.set_cons_zero, List.set_cons_succ]
        refine wpAnyH_take (i := 6) (v := ?_) (by simp only [List.getElem?_toArray, List.getElem?_cons_succ, List.getElem?_cons_zero]; rfl) (by kernel_rfl) (by kernel_rfl) (by kernel_rfl) (by exact fun _ _ _ h => h) (Or.inl ⟨by rfl, ?_⟩) (by assumption) ?_
        rotate_left 1
        · (intro wS hSw; have hSb : LowEq C wr wS := hSw; clear hSw; have zn := hSb.cell HC0.out n5; have zv0 := hSb.cell HC1.out v0; have zv1 := hSb.cell HC1.out v1; have zv2 := hSb.cell HC1.out v2; have zv3 := hSb.cell HC1.out v3; have zv4 := hSb.cell HC1.out v4; have zv5 := hSb.cell HC1.out v5; have zv6 := hSb.cell HC1.out v6; have zx0 := hSb.cell HCK.out x0; have zx1 := hSb.cell HCK.out x1; have zx2 := hSb.cell HCK.out x2; have zx3 := hSb.cell HCK.out x3; have zx4 := hSb.cell HCK.out x4; have zx5 := hSb.cell HCK.out x5; have zx6 := hSb.cell HCK.out x6; clear hSb; go_simp; try (with_reducible rfl))
        try simp only [Act.put, List.setIfInBounds_toArray, List.set_cons_zero, List.set_cons_succ]
        refine wpAnyH_take (i := 7) (v := ?_) (by simp only [List.getElem?_toArray, List.getElem?_cons_succ, List.getElem?_cons_zero]; rfl) (by kernel_rfl) (by kernel_rfl) (by kernel_rfl) (by exact fun _ _ _ h => h) (Or.inl ⟨by rfl, ?_⟩) (by assumption) ?_
        rotate_left 1
        · (intro wS hSw; have hSb : LowEq C wr wS := hSw; clear hSw; have zn := hSb.cell HC0.out n5; have zv0 := hSb.cell HC1.out v0; have zv1 := hSb.cell HC1.out v1; have zv2 := hSb.cell HC1.out v2; have zv3 := hSb.cell HC1.out v3; have zv4 := hSb.cell HC1.out v4; have zv5 := hSb.cell HC1.out v5; have zv6 := hSb.cell HC1.out v6; have zx0 := hSb.cell HCK.out x0; have zx1 := hSb.cell HCK.out x1; have zx2 := hSb.cell HCK.out x2; have zx3 := hSb.cell HCK.out x3; have zx4 := hSb.cell HCK.out x4; have zx5 := hSb.cell HCK.out x5; have zx6 := hSb.cell HCK.out x6; clear hSb; go_simp; try (with_reducible rfl))
        try simp only [Act.put, List.setIfInBounds_toArray, List.set_cons_zero, List.set_cons_succ]
        clear hHeld
        refine wpAnyH_ready (rs := [8]) (by kernel_rfl) (by simp) ?_
        refine AllReadyH.cons (i := 8) (by simp only [List.getElem?_toArray, List.getElem?_cons_succ, List.getElem?_cons_zero]; rfl) (fun K hK => ?_) AllReadyH.nil
        go_simp
        (go_at_call 15; (with_reducible refine (HW.out _ (bel_d _)).mono ?_); rintro e w3 ⟨p3, n3, c3, rfl, hk3, hb3⟩; have hb3' := bel (bel_d wr) hb3; have HB3 : Hid (Below wr.heap.size wr w3) := hb3'; have HK3 : Hid (Kids w3 (midH V0 wr.heap.size w3.heap.size none) (.slice p3 n3 c3) Y.args) := hk3; have HR3 : Hid (RowM w3 V0 C ov ((t.args.take j).map (nmN nm v)) R) := HR.out.below hb3'; have HZ3 : Hid (C ≤ w3.heap.size) := (Nat.le_trans HCS.out hb3'.size); have HL3 : Hid (LowEq C wr w3) := LowEq.of hb3' HCS.out; clear hk3 hb3 hb3')
        try (go_wp2_with fail)
        refine hK.out _ _ ?_ (fun hHeld => ?_)
        · ((try dsimp only); first | assumption | exact LowEq.drew _ _ | exact HL3.out | exact HLA.out | exact HL4.out)
        clear hK K
        try simp only [Act.put, List.setIfInBounds_toArray, List.set_cons_zero, List.set_cons_succ]
        clear hHeld
        refine wpAnyH_ready (rs := [9]) (by kernel_rfl) (by simp) ?_
        refine AllReadyH.cons (i := 9) (by simp only [List.getElem?_toArray, List.getElem?_cons_succ, List.getElem?_cons_zero]; rfl) (fun K hK => ?_) AllReadyH.nil
        go_simp
        have HLA : Hid (LowEq C wr (w3.alloc (.cells #[.int .i64 Y.kind, .string Y.name, .int .u32 Y.num, .int .i64 Y.int_, .string Y.key, .slice p3 n3 c3, .int .i64 Y.at_] 26))) := LowEq.of (bel HB3.out (bel_alloc _ _)) HCS.out
        refine hK.out _ _ ?_ (fun hHeld => ?_)
        · ((try dsimp only); first | assumption | exact LowEq.drew _ _ | exact HL3.out | exact HLA.out | exact HL4.out)
        clear hK K
        try simp only [Act.put, List.setIfInBounds_toArray, List.set_cons_zero, List.set_cons_succ]
        clear hHeld
        refine wpAnyH_ready (rs := [10]) (by kernel_rfl) (by simp) ?_
        refine AllReadyH.cons (i := 10) (by simp only [List.getElem?_toArray, List.getElem?_cons_succ, List.getElem?_cons_zero]; rfl) (fun K hK => ?_) AllReadyH.nil
        refine step_append_lies _ rfl _ _ 24 rfl C 26 i0 _ 7 88 Try.underlying24 hi0 hz0 hz1 hz2 rfl (by decide) ov j (cellsN R) rfl (World.ownsRow.alloc (show w3.ownsRow C 26 7 ov j (cellsN R) from by have := HR3.out.2.1; rw [HJL.out] at this; exact this) _) ⟨w3.heap.size, 0, none⟩ 1 1 [.int .i64 Y.kind, .string Y.name, .int .u32 Y.num, .int .i64 Y.int_, .string Y.key, .slice p3 n3 c3, .int .i64 Y.at_] rfl rfl (World.news_of_block (cs := #[.int .i64 Y.kind, .string Y.name, .int .u32 Y.num, .int .i64 Y.int_, .string Y.key, .slice p3 n3 c3, .int .i64 Y.at_]) (t := 26) (fr := (0, 0)) (box_heapA w3 _)) (by simp [Value.oneCell']) (by decide) (by unfold maxLen; omega) (by omega) (by simp; have := HZ3.out; omega) (w3.heap.size + 1) (by simp) ?_
        intro g cap w4 hown4 hg4 hat4 hlt4
        have hro : ∀ k, ov.ownBlock = some k → C ≤ k ∧ k < wr.heap.size := fun k hk => HR.out.2.1.lt k hk
        have HR4 : Hid (∃ R, RowM w4 V0 C (.slice (some ⟨g, 0, none⟩) (j + 1) cap) ((t.args.take (j + 1)).map (nmN nm v)) R) := by
          have := RowM.push (t := Y) (s := .slice p3 n3 c3) HR3.out (bel_alloc w3 (.cells #[.int .i64 Y.kind, .string Y.name, .int .u32 Y.num, .int .i64 Y.int_, .string Y.key, .slice p3 n3 c3, .int .i64 Y.at_] 26)) (HK3.out.weak fun p n c hq => hq.imp id fun hq b o hp => ⟨(hq b o hp).1, (by have h1 := (hq b o hp).2.1; have h2 := HCS.out; omega), fun e => by have h1 := hro b e.symm; have h2 := (hq b o hp).2.1; have h3 := HV0.out; omega⟩) hg4 (by simpa using hat4) (by rw [HJL.out]; exact hown4)
          rw [HJL.out] at this
          show ∃ R, RowM _ _ _ _ _ _
          rw [HYM.out]
          exact ⟨_, this⟩
        have HL4 : Hid (LowEq C wr w4) := fun x hx => by
          rw [hg4.block x (by simp; have := HZ3.out; omega) (fun e => by have := (hro x e.symm).1; omega)]
          exact HLA.out x hx
        have HS4 : Hid (C ≤ w4.heap.size) := by
          have h1 := hg4.size
          have h2 := HZ3.out
          simp at h1
          show C ≤ _
          omega
        have HB4 : Hid (Below w.heap.size w w4) := Below.grown (bel (bel HBW.out HB3.out) (bel_alloc w3 (.cells #[.int .i64 Y.kind, .string Y.name, .int .u32 Y.num, .int .i64 Y.int_, .string Y.key, .slice p3 n3 c3, .int .i64 Y.at_] 26))) hg4 (by simp; have := HZ3.out; have := HV0.out; omega) (fun k hk => by have := (hro k hk).1; have := HV0.out; omega)
        clear hown4 hg4 hat4 hro
        refine hK.out _ _ ?_ (fun hHeld => ?_)
        · ((try dsimp only); first | assumption | exact LowEq.drew _ _ | exact HL3.out | exact HLA.out | exact HL4.out)
        clear hK K
        try simp only [Act.put, List.setIfInBounds_toArray, List.set_cons_zero, List.set_cons_succ]
        refine wpAnyH_take (i := 11) (v := ?_) (by simp only [List.getElem?_toArray, List.getElem?_cons_succ, List.getElem?_cons_zero]; rfl) (by kernel_rfl) (by kernel_rfl) (by kernel_rfl) (by exact fun _ _ _ h => h) (Or.inl ⟨by rfl, ?_⟩) (by assumption) ?_
        rotate_left 1
        · (intro wS hSw; have hSb : LowEq C wr wS := hSw; clear hSw; have zn := hSb.cell HC0.out n5; have zv0 := hSb.cell HC1.out v0; have zv1 := hSb.cell HC1.out v1; have zv2 := hSb.cell HC1.out v2; have zv3 := hSb.cell HC1.out v3; have zv4 := hSb.cell HC1.out v4; have zv5 := hSb.cell HC1.out v5; have zv6 := hSb.cell HC1.out v6; have zx0 := hSb.cell HCK.out x0; have zx1 := hSb.cell HCK.out x1; have zx2 := hSb.cell HCK.out x2; have zx3 := hSb.cell HCK.out x3; have zx4 := hSb.cell HCK.out x4; have zx5 := hSb.cell HCK.out x5; have zx6 := hSb.cell HCK.out x6; clear hSb; go_simp; try (with_reducible rfl))
        try simp only [Act.put, List.setIfInBounds_toArray, List.set_cons_zero, List.set_cons_succ]
        refine wpAnyH_done (by kernel_rfl) ?_ _
        clear hHeld
        go_wp2
        go_roundw
        case rel => exact ⟨HB4.out, j + 1, _, rfl, by omega, by go_num, HS4.out, (fun q hq => (HL4.out q hq).trans (HLW.out q hq)), HR4.out⟩
        case measure => simp [intOf]; omega
      · have : j = n := by omega
        subst this
        have e : t.args.take j = t.args := List.take_of_length_le (by rw [HN.out]; exact Nat.le_refl _)
        rw [e, ← HFA.out] at hR
        have hkk := hR.kids
        obtain ⟨pk, ck, hov, -⟩ := id hkk
        rw [hov] at hkk
        subst hov
        obtain ⟨M, hM⟩ : ∃ M, (argsN t (t.args.map (nmN nm v))).args.length = M := ⟨_, rfl⟩
        have HKK : Hid (Kids wr (midH V0 C wr.heap.size none) (.slice pk M ck) (argsN t (t.args.map (nmN nm v))).args) := by rw [← hM]; exact hkk
        rw [hM]
        obtain ⟨⟨r0, r1, r2, r3, r4, r5, r6⟩, q0, q1, q2, q3, q4, q5, q6⟩ := seven hz
        obtain ⟨⟨o0, o1, o2, o3, o4, o5, o6⟩, f0, f1, f2, f3, f4, f5, f6⟩ := seven hx
        clear hkk hR hx hy hz HIH HK HB e hM hlw
        go_wp2
        refine bodyPost_ret (by simp [results, Try.results15, go_sem, *]; try rfl) rfl ?_
        have hoff1 := (Off.refl w.heap.size wr).set 5 (.slice pk M ck)
        have hoff2 := ((((((((Off.refl (w.heap.size + 2) (wr.setCell ⟨w.heap.size, 5, none⟩ (.slice pk M ck))).set 0 (.int .i64 t.kind)).set 1 (.string t.name)).set 2 (.int .u32 t.num)).set 3 (.int .i64 t.int_)).set 4 (.string t.key)).set 5 (.slice pk M ck)).set 6 (.int .i64 t.at_))
        have hv := HV0.out
        refine ⟨_, _, _, rfl, ((HKK.out.offM fun b hb => ?_).weak fun p n c hq => hq.imp id fun hq b o hp => ⟨?_, ?_, by simp⟩), hoff2.below (hoff1.below hb (Nat.le_refl _)) (by omega)⟩
        · exact (hoff2.2.2.2.2 b (by omega)).trans (hoff1.2.2.2.2 b (by omega))
        · exact Nat.lt_of_lt_of_le (hq b o hp).1 (by have h2 := hoff1.2.2.2.1; have h3 := hoff2.2.2.2.1; exact Nat.le_of_eq (h3.trans h2).symm)
        · have := (hq b o hp).2.1; omega
  · unfold sameB at h5
    go_enter Try.func15, Try.ntmps15
    go_wp2
    clear g0 g1 g2 g3 g4 g5 g6 f0 f1 f2 f3 f4 f5 f6 hW3
    go_loopw [7, 8] (fun lv iv wr => Below w.heap.size w wr ∧ ∃ (j : Nat) (ov : Value), ov = lv ∧ j ≤ n ∧ iv = .int .i64 j ∧ C ≤ wr.heap.size ∧ LowEq C W3 wr ∧ Hid (∃ R, RowM wr V0 C ov ((t.args.take j).map (nmN nm v)) R)) (fun _ iv _ => n - (intOf iv).toNat)
    case atStart => exact ⟨HB.out.1, 0, _, rfl, Nat.zero_le _, rfl, HB.out.2, LowEq.refl _ _, [], by rw [List.take_zero]; exact RowM.nil _ _ _⟩
    case round =>
      obtain ⟨hb, j, ov, rfl, hj, rfl, hsz, hlw, R, hR⟩ := hrel
      have HLW : Hid (LowEq C W3 wr) := hlw
      have HBW : Hid (Below w.heap.size w wr) := hb
      have HCS : Hid (C ≤ wr.heap.size) := hsz
      have HC0 : Hid (w.heap.size < C) := by have := HV0.out; show _ < _; omega
      have HC1 : Hid (w.heap.size + 1 < C) := by have := HV0.out; show _ < _; omega
      have hx : wr.heap[w.heap.size]? = some (.cells #[.int .i64 t.kind, .string t.name, .int .u32 t.num, .int .i64 t.int_, .string t.key, .slice p n c, .int .i64 t.at_] 26) := (hlw _ HC0.out).trans HW3.out.1
      have hy : wr.heap[w.heap.size + 1]? = some (.cells #[.int .i64 v.kind, .string v.name, .int .u32 v.num, .int .i64 v.int_, .string v.key, .slice pv L cv, .int .i64 v.at_] 26) := (hlw _ HC1.out).trans HW3.out.2.1
      have hz : wr.heap[w.heap.size + 2]? = some (.cells #[.int .i64 0, .string ⟨#[]⟩, .int .u32 0, .int .i64 0, .string ⟨#[]⟩, .slice none 0 0, .int .i64 0] 26) := (hlw _ (by have := HV0.out; omega)).trans HW3.out.2.2
      have n5 := cell5 hx
      by_cases hlt0 : j < n
      · have hll : j < t.args.length := by rw [HN.out]; exact hlt0
        obtain ⟨b1, o1, q1, d1, rfl, ⟨x0, x1, x2, x3, x4, x5, x6⟩, kx⟩ := kid_at HK.out (bel0 w) hll
        have HCK : Hid (b1 < C) := by have h1 := mcell_lt x0; have := HV0.out; show b1 < C; simp at h1; omega
        replace x0 := (hb.cell (mcell_lt x0)).trans x0
        replace x1 := (hb.cell (mcell_lt x1)).trans x1
        replace x2 := (hb.cell (mcell_lt x2)).trans x2
        replace x3 := (hb.cell (mcell_lt x3)).trans x3
        replace x4 := (hb.cell (mcell_lt x4)).trans x4
        replace x5 := (hb.cell (mcell_lt x5)).trans x5
        replace x6 := (hb.cell (mcell_lt x6)).trans x6
        obtain ⟨⟨v0, v1, v2, v3, v4, v5, v6⟩, -⟩ := seven hy
        have HJL : Hid (((t.args.take j).map (nmN nm v)).length = j) := by show _ = _; rw [List.length_map, List.length_take]; omega
        have hw := fun (x : World) (k : Below wr.heap.size wr x) => HIH.out t.args[j] q1 d1 pv cv x (by have := dep_get hll; have := HDC.out.1; unfold dep at *; omega) (by have := cnt_get hll; have := HDC.out.2; unfold cnt at *; omega) (by have := HV0.out; have := k.size; omega) ((kx.below hb).below k) ((HKV.out.below hb).below k)
        obtain ⟨Y, hY⟩ : ∃ Y, nmN nm v t.args[j] = Y := ⟨_, rfl⟩
        have HYM : Hid ((t.args.take (j + 1)).map (nmN nm v) = (t.args.take j).map (nmN nm v) ++ [Y]) := by
          show _ = _
          rw [ntake_succ hll, List.map_append, ← hY]
          rfl
        rw [hY, HL.out] at hw
        have HW : Hid (∀ x, Below wr.heap.size wr x → Calls Try.prog 15 #[.agg #[.int .i64 t.args[j].kind, .string t.args[j].name, .int .u32 t.args[j].num, .int .i64 t.args[j].int_, .string t.args[j].key, .slice q1 t.args[j].args.length d1, .int .i64 t.args[j].at_], .string nm, .agg #[.int .i64 v.kind, .string v.name, .int .u32 v.num, .int .i64 v.int_, .string v.key, .slice pv L cv, .int .i64 v.at_]] x fun e v' => ∃ p3 n3 c3, e = .returned (.agg #[.int .i64 Y.kind, .string Y.name, .int .u32 Y.num, .int .i64 Y.int_, .string Y.key, .slice p3 n3 c3, .int .i64 Y.at_]) ∧ Kids v' (midH V0 x.heap.size v'.heap.size none) (.slice p3 n3 c3) Y.args ∧ Below x.heap.size x v') := hw
        have HR : Hid (RowM wr V0 C ov ((t.args.take j).map (nmN nm v)) R) := hR
        have i1 : (0 : Int) ≤ (j : Int) := by omega
        have i2 : (j : Int) < (n : Int) := by omega
        clear kx hw hY hx hy hz hR hlw
        go_upto_region 8 with fail
        refine wp_region_held_drew (S := (fun x => LowEq C wr x)) (by kernel_rfl) ?_ (fun hHeld => ?_)
        · ((try dsimp only); first | assumption | exact LowEq.drew _ _ | exact HL3.out | exact HLA.out | exact HL4.out)
        refine wpAnyH_take (i := 0) (v := ?_) (by simp only [List.getElem?_toArray, List.getElem?_cons_succ, List.getElem?_cons_zero]; rfl) (by kernel_rfl) (by kernel_rfl) (by kernel_rfl) (by exact fun _ _ _ h => h) (Or.inl ⟨by rfl, ?_⟩) (by assumption) ?_
        rotate_left 1
        · (intro wS hSw; have hSb : LowEq C wr wS := hSw; clear hSw; have zn := hSb.cell HC0.out n5; have zv0 := hSb.cell HC1.out v0; have zv1 := hSb.cell HC1.out v1; have zv2 := hSb.cell HC1.out v2; have zv3 := hSb.cell HC1.out v3; have zv4 := hSb.cell HC1.out v4; have zv5 := hSb.cell HC1.out v5; have zv6 := hSb.cell HC1.out v6; have zx0 := hSb.cell HCK.out x0; have zx1 := hSb.cell HCK.out x1; have zx2 := hSb.cell HCK.out x2; have zx3 := hSb.cell HCK.out x3; have zx4 := hSb.cell HCK.out x4; have zx5 := hSb.cell HCK.out x5; have zx6 := hSb.cell HCK.out x6; clear hSb; go_simp; try (with_reducible rfl))
        try simp only [Act.put, List.setIfInBounds_toArray, List.set_cons_zero, List.set_cons_succ]
        refine wpAnyH_take (i := 1) (v := ?_) (by simp only [List.getElem?_toArray, List.getElem?_cons_succ, List.getElem?_cons_zero]; rfl) (by kernel_rfl) (by kernel_rfl) (by kernel_rfl) (by exact fun _ _ _ h => h) (Or.inl ⟨by rfl, ?_⟩) (by assumption) ?_
        rotate_left 1
        · (intro wS hSw; have hSb : LowEq C wr wS := hSw; clear hSw; have zn := hSb.cell HC0.out n5; have zv0 := hSb.cell HC1.out v0; have zv1 := hSb.cell HC1.out v1; have zv2 := hSb.cell HC1.out v2; have zv3 := hSb.cell HC1.out v3; have zv4 := hSb.cell HC1.out v4; have zv5 := hSb.cell HC1.out v5; have zv6 := hSb.cell HC1.out v6; have zx0 := hSb.cell HCK.out x0; have zx1 := hSb.cell HCK.out x1; have zx2 := hSb.cell HCK.out x2; have zx3 := hSb.cell HCK.out x3; have zx4 := hSb.cell HCK.out x4; have zx5 := hSb.cell HCK.out x5; have zx6 := hSb.cell HCK.out x6; clear hSb; go_simp; try (with_reducible rfl))
        try simp only [Act.put, List.setIfInBounds_toArray, List.set_cons_zero, List.set_cons_succ]
        refine wpAnyH_take (i := 2) (v := ?_) (by simp only [List.getElem?_toArray, List.getElem?_cons_succ, List.getElem?_cons_zero]; rfl) (by kernel_rfl) (by kernel_rfl) (by kernel_rfl) (by exact fun _ _ _ h => h) (Or.inl ⟨by rfl, ?_⟩) (by assumption) ?_
        rotate_left 1
        · (intro wS hSw; have hSb : LowEq C wr wS := hSw; clear hSw; have zn := hSb.cell HC0.out n5; have zv0 := hSb.cell HC1.out v0; have zv1 := hSb.cell HC1.out v1; have zv2 := hSb.cell HC1.out v2; have zv3 := hSb.cell HC1.out v3; have zv4 := hSb.cell HC1.out v4; have zv5 := hSb.cell HC1.out v5; have zv6 := hSb.cell HC1.out v6; have zx0 := hSb.cell HCK.out x0; have zx1 := hSb.cell HCK.out x1; have zx2 := hSb.cell HCK.out x2; have zx3 := hSb.cell HCK.out x3; have zx4 := hSb.cell HCK.out x4; have zx5 := hSb.cell HCK.out x5; have zx6 := hSb.cell HCK.out x6; clear hSb; go_simp; try (with_reducible rfl))
        try simp only [Act.put, List.setIfInBounds_toArray, List.set_cons_zero, List.set_cons_succ]
        refine wpAnyH_take (i := 3) (v := ?_) (by simp only [List.getElem?_toArray, List.getElem?_cons_succ, List.getElem?_cons_zero]; rfl) (by kernel_rfl) (by kernel_rfl) (by kernel_rfl) (by exact fun _ _ _ h => h) (Or.inl ⟨by rfl, ?_⟩) (by assumption) ?_
        rotate_left 1
        · (intro wS hSw; have hSb : LowEq C wr wS := hSw; clear hSw; have zn := hSb.cell HC0.out n5; have zv0 := hSb.cell HC1.out v0; have zv1 := hSb.cell HC1.out v1; have zv2 := hSb.cell HC1.out v2; have zv3 := hSb.cell HC1.out v3; have zv4 := hSb.cell HC1.out v4; have zv5 := hSb.cell HC1.out v5; have zv6 := hSb.cell HC1.out v6; have zx0 := hSb.cell HCK.out x0; have zx1 := hSb.cell HCK.out x1; have zx2 := hSb.cell HCK.out x2; have zx3 := hSb.cell HCK.out x3; have zx4 := hSb.cell HCK.out x4; have zx5 := hSb.cell HCK.out x5; have zx6 := hSb.cell HCK.out x6; clear hSb; go_simp; try (with_reducible rfl))
        try simp only [Act.put, List.setIfInBounds_toArray, List.set_cons_zero, List.set_cons_succ]
        refine wpAnyH_take (i := 4) (v := ?_) (by simp only [List.getElem?_toArray, List.getElem?_cons_succ, List.getElem?_cons_zero]; rfl) (by kernel_rfl) (by kernel_rfl) (by kernel_rfl) (by exact fun _ _ _ h => h) (Or.inl ⟨by rfl, ?_⟩) (by assumption) ?_
        rotate_left 1
        · (intro wS hSw; have hSb : LowEq C wr wS := hSw; clear hSw; have zn := hSb.cell HC0.out n5; have zv0 := hSb.cell HC1.out v0; have zv1 := hSb.cell HC1.out v1; have zv2 := hSb.cell HC1.out v2; have zv3 := hSb.cell HC1.out v3; have zv4 := hSb.cell HC1.out v4; have zv5 := hSb.cell HC1.out v5; have zv6 := hSb.cell HC1.out v6; have zx0 := hSb.cell HCK.out x0; have zx1 := hSb.cell HCK.out x1; have zx2 := hSb.cell HCK.out x2; have zx3 := hSb.cell HCK.out x3; have zx4 := hSb.cell HCK.out x4; have zx5 := hSb.cell HCK.out x5; have zx6 := hSb.cell HCK.out x6; clear hSb; go_simp; try (with_reducible rfl))
        try simp only [Act.put, List.setIfInBounds_toArray, List.set_cons_zero, List.set_cons_succ]
        refine wpAnyH_take (i := 5) (v := ?_) (by simp only [List.getElem?_toArray, List.getElem?_cons_succ, List.getElem?_cons_zero]; rfl) (by kernel_rfl) (by kernel_rfl) (by kernel_rfl) (by exact fun _ _ _ h => h) (Or.inl ⟨by rfl, ?_⟩) (by assumption) ?_
        rotate_left 1
        · (intro wS hSw; have hSb : LowEq C wr wS := hSw; clear hSw; have zn := hSb.cell HC0.out n5; have zv0 := hSb.cell HC1.out v0; have zv1 := hSb.cell HC1.out v1; have zv2 := hSb.cell HC1.out v2; have zv3 := hSb.cell HC1.out v3; have zv4 := hSb.cell HC1.out v4; have zv5 := hSb.cell HC1.out v5; have zv6 := hSb.cell HC1.out v6; have zx0 := hSb.cell HCK.out x0; have zx1 := hSb.cell HCK.out x1; have zx2 := hSb.cell HCK.out x2; have zx3 := hSb.cell HCK.out x3; have zx4 := hSb.cell HCK.out x4; have zx5 := hSb.cell HCK.out x5; have zx6 := hSb.cell HCK.out x6; clear hSb; go_simp; try (with_reducible rfl))
        try simp only [Act.put, List.setIfInBounds_toArray, List.set_cons_zero, List.set_cons_succ]
        refine wpAnyH_take (i := 6) (v := ?_) (by simp only [List.getElem?_toArray, List.getElem?_cons_succ, List.getElem?_cons_zero]; rfl) (by kernel_rfl) (by kernel_rfl) (by kernel_rfl) (by exact fun _ _ _ h => h) (Or.inl ⟨by rfl, ?_⟩) (by assumption) ?_
        rotate_left 1
        · (intro wS hSw; have hSb : LowEq C wr wS := hSw; clear hSw; have zn := hSb.cell HC0.out n5; have zv0 := hSb.cell HC1.out v0; have zv1 := hSb.cell HC1.out v1; have zv2 := hSb.cell HC1.out v2; have zv3 := hSb.cell HC1.out v3; have zv4 := hSb.cell HC1.out v4; have zv5 := hSb.cell HC1.out v5; have zv6 := hSb.cell HC1.out v6; have zx0 := hSb.cell HCK.out x0; have zx1 := hSb.cell HCK.out x1; have zx2 := hSb.cell HCK.out x2; have zx3 := hSb.cell HCK.out x3; have zx4 := hSb.cell HCK.out x4; have zx5 := hSb.cell HCK.out x5; have zx6 := hSb.cell HCK.out x6; clear hSb; go_simp; try (with_reducible rfl))
        try simp only [Act.put, List.setIfInBounds_toArray, List.set_cons_zero, List.set_cons_succ]
        refine wpAnyH_take (i := 7) (v := ?_) (by simp only [List.getElem?_toArray, List.getElem?_cons_succ, List.getElem?_cons_zero]; rfl) (by kernel_rfl) (by kernel_rfl) (by kernel_rfl) (by exact fun _ _ _ h => h) (Or.inl ⟨by rfl, ?_⟩) (by assumption) ?_
        rotate_left 1
        · (intro wS hSw; have hSb : LowEq C wr wS := hSw; clear hSw; have zn := hSb.cell HC0.out n5; have zv0 := hSb.cell HC1.out v0; have zv1 := hSb.cell HC1.out v1; have zv2 := hSb.cell HC1.out v2; have zv3 := hSb.cell HC1.out v3; have zv4 := hSb.cell HC1.out v4; have zv5 := hSb.cell HC1.out v5; have zv6 := hSb.cell HC1.out v6; have zx0 := hSb.cell HCK.out x0; have zx1 := hSb.cell HCK.out x1; have zx2 := hSb.cell HCK.out x2; have zx3 := hSb.cell HCK.out x3; have zx4 := hSb.cell HCK.out x4; have zx5 := hSb.cell HCK.out x5; have zx6 := hSb.cell HCK.out x6; clear hSb; go_simp; try (with_reducible rfl))
        try simp only [Act.put, List.setIfInBounds_toArray, List.set_cons_zero, List.set_cons_succ]
        clear hHeld
        refine wpAnyH_ready (rs := [8]) (by kernel_rfl) (by simp) ?_
        refine AllReadyH.cons (i := 8) (by simp only [List.getElem?_toArray, List.getElem?_cons_succ, List.getElem?_cons_zero]; rfl) (fun K hK => ?_) AllReadyH.nil
        go_simp
        (go_at_call 15; (with_reducible refine (HW.out _ (bel_d _)).mono ?_); rintro e w3 ⟨p3, n3, c3, rfl, hk3, hb3⟩; have hb3' := bel (bel_d wr) hb3; have HB3 : Hid (Below wr.heap.size wr w3) := hb3'; have HK3 : Hid (Kids w3 (midH V0 wr.heap.size w3.heap.size none) (.slice p3 n3 c3) Y.args) := hk3; have HR3 : Hid (RowM w3 V0 C ov ((t.args.take j).map (nmN nm v)) R) := HR.out.below hb3'; have HZ3 : Hid (C ≤ w3.heap.size) := (Nat.le_trans HCS.out hb3'.size); have HL3 : Hid (LowEq C wr w3) := LowEq.of hb3' HCS.out; clear hk3 hb3 hb3')
        try (go_wp2_with fail)
        refine hK.out _ _ ?_ (fun hHeld => ?_)
        · ((try dsimp only); first | assumption | exact LowEq.drew _ _ | exact HL3.out | exact HLA.out | exact HL4.out)
        clear hK K
        try simp only [Act.put, List.setIfInBounds_toArray, List.set_cons_zero, List.set_cons_succ]
        clear hHeld
        refine wpAnyH_ready (rs := [9]) (by kernel_rfl) (by simp) ?_
        refine AllReadyH.cons (i := 9) (by simp only [List.getElem?_toArray, List.getElem?_cons_succ, List.getElem?_cons_zero]; rfl) (fun K hK => ?_) AllReadyH.nil
        go_simp
        have HLA : Hid (LowEq C wr (w3.alloc (.cells #[.int .i64 Y.kind, .string Y.name, .int .u32 Y.num, .int .i64 Y.int_, .string Y.key, .slice p3 n3 c3, .int .i64 Y.at_] 26))) := LowEq.of (bel HB3.out (bel_alloc _ _)) HCS.out
        refine hK.out _ _ ?_ (fun hHeld => ?_)
        · ((try dsimp only); first | assumption | exact LowEq.drew _ _ | exact HL3.out | exact HLA.out | exact HL4.out)
        clear hK K
        try simp only [Act.put, List.setIfInBounds_toArray, List.set_cons_zero, List.set_cons_succ]
        clear hHeld
        refine wpAnyH_ready (rs := [10]) (by kernel_rfl) (by simp) ?_
        refine AllReadyH.cons (i := 10) (by simp only [List.getElem?_toArray, List.getElem?_cons_succ, List.getElem?_cons_zero]; rfl) (fun K hK => ?_) AllReadyH.nil
        refine step_append_lies _ rfl _ _ 24 rfl C 26 i0 _ 7 88 Try.underlying24 hi0 hz0 hz1 hz2 rfl (by decide) ov j (cellsN R) rfl (World.ownsRow.alloc (show w3.ownsRow C 26 7 ov j (cellsN R) from by have := HR3.out.2.1; rw [HJL.out] at this; exact this) _) ⟨w3.heap.size, 0, none⟩ 1 1 [.int .i64 Y.kind, .string Y.name, .int .u32 Y.num, .int .i64 Y.int_, .string Y.key, .slice p3 n3 c3, .int .i64 Y.at_] rfl rfl (World.news_of_block (cs := #[.int .i64 Y.kind, .string Y.name, .int .u32 Y.num, .int .i64 Y.int_, .string Y.key, .slice p3 n3 c3, .int .i64 Y.at_]) (t := 26) (fr := (0, 0)) (box_heapA w3 _)) (by simp [Value.oneCell']) (by decide) (by unfold maxLen; omega) (by omega) (by simp; have := HZ3.out; omega) (w3.heap.size + 1) (by simp) ?_
        intro g cap w4 hown4 hg4 hat4 hlt4
        have hro : ∀ k, ov.ownBlock = some k → C ≤ k ∧ k < wr.heap.size := fun k hk => HR.out.2.1.lt k hk
        have HR4 : Hid (∃ R, RowM w4 V0 C (.slice (some ⟨g, 0, none⟩) (j + 1) cap) ((t.args.take (j + 1)).map (nmN nm v)) R) := by
          have := RowM.push (t := Y) (s := .slice p3 n3 c3) HR3.out (bel_alloc w3 (.cells #[.int .i64 Y.kind, .string Y.name, .int .u32 Y.num, .int .i64 Y.int_, .string Y.key, .slice p3 n3 c3, .int .i64 Y.at_] 26)) (HK3.out.weak fun p n c hq => hq.imp id fun hq b o hp => ⟨(hq b o hp).1, (by have h1 := (hq b o hp).2.1; have h2 := HCS.out; omega), fun e => by have h1 := hro b e.symm; have h2 := (hq b o hp).2.1; have h3 := HV0.out; omega⟩) hg4 (by simpa using hat4) (by rw [HJL.out]; exact hown4)
          rw [HJL.out] at this
          show ∃ R, RowM _ _ _ _ _ _
          rw [HYM.out]
          exact ⟨_, this⟩
        have HL4 : Hid (LowEq C wr w4) := fun x hx => by
          rw [hg4.block x (by simp; have := HZ3.out; omega) (fun e => by have := (hro x e.symm).1; omega)]
          exact HLA.out x hx
        have HS4 : Hid (C ≤ w4.heap.size) := by
          have h1 := hg4.size
          have h2 := HZ3.out
          simp at h1
          show C ≤ _
          omega
        have HB4 : Hid (Below w.heap.size w w4) := Below.grown (bel (bel HBW.out HB3.out) (bel_alloc w3 (.cells #[.int .i64 Y.kind, .string Y.name, .int .u32 Y.num, .int .i64 Y.int_, .string Y.key, .slice p3 n3 c3, .int .i64 Y.at_] 26))) hg4 (by simp; have := HZ3.out; have := HV0.out; omega) (fun k hk => by have := (hro k hk).1; have := HV0.out; omega)
        clear hown4 hg4 hat4 hro
        refine hK.out _ _ ?_ (fun hHeld => ?_)
        · ((try dsimp only); first | assumption | exact LowEq.drew _ _ | exact HL3.out | exact HLA.out | exact HL4.out)
        clear hK K
        try simp only [Act.put, List.setIfInBounds_toArray, List.set_cons_zero, List.set_cons_succ]
        refine wpAnyH_take (i := 11) (v := ?_) (by simp only [List.getElem?_toArray, List.getElem?_cons_succ, List.getElem?_cons_zero]; rfl) (by kernel_rfl) (by kernel_rfl) (by kernel_rfl) (by exact fun _ _ _ h => h) (Or.inl ⟨by rfl, ?_⟩) (by assumption) ?_
        rotate_left 1
        · (intro wS hSw; have hSb : LowEq C wr wS := hSw; clear hSw; have zn := hSb.cell HC0.out n5; have zv0 := hSb.cell HC1.out v0; have zv1 := hSb.cell HC1.out v1; have zv2 := hSb.cell HC1.out v2; have zv3 := hSb.cell HC1.out v3; have zv4 := hSb.cell HC1.out v4; have zv5 := hSb.cell HC1.out v5; have zv6 := hSb.cell HC1.out v6; have zx0 := hSb.cell HCK.out x0; have zx1 := hSb.cell HCK.out x1; have zx2 := hSb.cell HCK.out x2; have zx3 := hSb.cell HCK.out x3; have zx4 := hSb.cell HCK.out x4; have zx5 := hSb.cell HCK.out x5; have zx6 := hSb.cell HCK.out x6; clear hSb; go_simp; try (with_reducible rfl))
        try simp only [Act.put, List.setIfInBounds_toArray, List.set_cons_zero, List.set_cons_succ]
        refine wpAnyH_done (by kernel_rfl) ?_ _
        clear hHeld
        go_wp2
        go_roundw
        case rel => exact ⟨HB4.out, j + 1, _, rfl, by omega, by go_num, HS4.out, (fun q hq => (HL4.out q hq).trans (HLW.out q hq)), HR4.out⟩
        case measure => simp [intOf]; omega
      · have : j = n := by omega
        subst this
        have e : t.args.take j = t.args := List.take_of_length_le (by rw [HN.out]; exact Nat.le_refl _)
        rw [e, ← HFA.out] at hR
        have hkk := hR.kids
        obtain ⟨pk, ck, hov, -⟩ := id hkk
        rw [hov] at hkk
        subst hov
        obtain ⟨M, hM⟩ : ∃ M, (argsN t (t.args.map (nmN nm v))).args.length = M := ⟨_, rfl⟩
        have HKK : Hid (Kids wr (midH V0 C wr.heap.size none) (.slice pk M ck) (argsN t (t.args.map (nmN nm v))).args) := by rw [← hM]; exact hkk
        rw [hM]
        obtain ⟨⟨r0, r1, r2, r3, r4, r5, r6⟩, q0, q1, q2, q3, q4, q5, q6⟩ := seven hz
        obtain ⟨⟨o0, o1, o2, o3, o4, o5, o6⟩, f0, f1, f2, f3, f4, f5, f6⟩ := seven hx
        clear hkk hR hx hy hz HIH HK HB e hM hlw
        go_wp2
        refine bodyPost_ret (by simp [results, Try.results15, go_sem, *]; try rfl) rfl ?_
        have hoff1 := (Off.refl w.heap.size wr).set 5 (.slice pk M ck)
        have hoff2 := ((((((((Off.refl (w.heap.size + 2) (wr.setCell ⟨w.heap.size, 5, none⟩ (.slice pk M ck))).set 0 (.int .i64 t.kind)).set 1 (.string t.name)).set 2 (.int .u32 t.num)).set 3 (.int .i64 t.int_)).set 4 (.string t.key)).set 5 (.slice pk M ck)).set 6 (.int .i64 t.at_))
        have hv := HV0.out
        refine ⟨_, _, _, rfl, ((HKK.out.offM fun b hb => ?_).weak fun p n c hq => hq.imp id fun hq b o hp => ⟨?_, ?_, by simp⟩), hoff2.below (hoff1.below hb (Nat.le_refl _)) (by omega)⟩
        · exact (hoff2.2.2.2.2 b (by omega)).trans (hoff1.2.2.2.2 b (by omega))
        · exact Nat.lt_of_lt_of_le (hq b o hp).1 (by have h2 := hoff1.2.2.2.1; have h3 := hoff2.2.2.2.1; exact Nat.le_of_eq (h3.trans h2).symm)
        · have := (hq b o hp).2.1; omega

theorem nm_to (nm : ByteArray) (v : Nd) (V0 : Nat) : ∀ N, NmTo nm v V0 N := by
  intro N
  induction N with
  | zero => intro t p c pv cv w hd; unfold dep at hd; omega
  | succ N ih =>
    intro t p c pv cv w hd hc hV hk hkv
    cases h4 : (t.kind == 4) with
    | false => exact nm_row nm v V0 N ih t p c pv cv w hd hc (.inl h4) hV hk hkv
    | true =>
      cases h5 : sameB t.name nm with
      | false => exact nm_row nm v V0 N ih t p c pv cv w hd hc (.inr ⟨h4, h5⟩) hV hk hkv
      | true => exact nm_name nm v V0 t p c pv cv w h4 h5 hV hk hkv

end Go.Proofs.Ytbmkddmmclndcaa
/- AL3: sizes of what is written, the let in a box. -/
namespace Go.Proofs.Ytbmkddmmclndcaa
open Go.RowKit
set_option linter.unusedVariables false
set_option linter.unusedSimpArgs false

theorem ok_nmL {nm : ByteArray} {v : Nd} (hv : ok1 v) : ∀ l : List Nd, okL l → okL (nmL nm v l) := by
  apply forest (P := fun l => okL l → okL (nmL nm v l))
  · intro h; rw [nmL_nil]; exact okL_nil
  · intro t r h1 h2 h
    rw [okL_cons] at h
    rw [nmL_cons, okL_cons]
    refine ⟨?_, h2 h.2⟩
    unfold nmN nmOne
    by_cases c : (t.kind == 4 && sameB t.name nm) = true
    · rw [if_pos c]
      exact ⟨⟨hv.1.1, h.1.1.2.1, hv.1.2.2⟩, hv.2⟩
    · rw [if_neg c]
      exact ⟨h.1.1, h1 h.1.2⟩
theorem ok_nm {nm : ByteArray} {v t : Nd} (hv : ok1 v) (ht : ok1 t) : ok1 (nmN nm v t) := by
  have := ok_nmL (nm := nm) hv [t] ((okL_cons _ _).2 ⟨ht, okL_nil⟩)
  rw [nmL_cons, okL_cons] at this
  exact this.1
theorem cnt_nmL {nm : ByteArray} {v : Nd} : ∀ l : List Nd, cntL (nmL nm v l) ≤ cntL l * cnt v := by
  apply forest (P := fun l => cntL (nmL nm v l) ≤ cntL l * cnt v)
  · rw [nmL_nil]; simp [cntL]
  · intro t r h1 h2
    rw [nmL_cons, cntL_cons, cntL_cons, Nat.add_mul]
    have hv : 1 ≤ cnt v := by unfold cnt; omega
    have h3 : cnt (nmN nm v t) ≤ cnt t * cnt v := by
      have ht : cnt t = 1 + cntL t.args := rfl
      rw [ht, Nat.add_mul, Nat.one_mul]
      unfold nmN nmOne
      by_cases c : (t.kind == 4 && sameB t.name nm) = true
      · rw [if_pos c]
        have : cnt (keyN v t.key) = cnt v := rfl
        omega
      · rw [if_neg c]
        have : cnt (argsN t (nmL nm v t.args)) = 1 + cntL (nmL nm v t.args) := rfl
        omega
    have ht : cnt t = 1 + cntL t.args := rfl
    omega
theorem cnt_nm {nm : ByteArray} {v t : Nd} : cnt (nmN nm v t) ≤ cnt t * cnt v := by
  have := cnt_nmL (nm := nm) (v := v) [t]
  rw [nmL_cons, nmL_nil, cntL_cons, cntL_cons] at this
  simpa [cntL] using this
theorem ok_let {nm : ByteArray} {v p : Nd} (hn : nm.size ≤ 140737488351232) (hv : ok1 v) (hp : ok1 p) : ok1 (letN nm v p) :=
  ⟨⟨hn, by show (⟨#[]⟩ : ByteArray).size ≤ _; decide, by show (0 : Int) ≤ 0; decide, by show (0 : Int) < _; decide⟩, (okL_cons _ _).2 ⟨hv, (okL_cons _ _).2 ⟨hp, okL_nil⟩⟩⟩
theorem cnt_let (nm : ByteArray) (v p : Nd) : cnt (letN nm v p) = 1 + (cnt v + cnt p) := by
  show 1 + cntL [v, p] = _
  rw [cntL_cons, cntL_cons]
  simp [cntL]
theorem exp_cnt (t : Nd) : cnt (expP t).tree ≤ 4096 := by
  rcases exp_cases t with ⟨-, h⟩ | ⟨-, -, -, h, h2⟩
  · rw [h, show cnt noneN = 1 from cnt_leaf]; decide
  · rw [h2]; exact (check_facts h).2.1
/-- Heads that lie in any block but one. -/
def neH (O : Nat) : Heads := fun p n c => n = 0 ∨ ∀ b o, p = some ⟨b, o, none⟩ → b ≠ O
theorem Kids.ne_new {w : World} {Q : Heads} {v : Value} {l : List Nd} (h : Kids w Q v l) {O : Nat} (hO : w.heap.size ≤ O) : Kids w (neH O) v l := h.low.weak fun p n c hq => hq.imp id fun hq b o hp => by have := hq b o hp; omega
theorem Kids.ne_old {w : World} {C S : Nat} {v : Value} {l : List Nd} (h : Kids w (kidH C S none) v l) {O : Nat} (hO : O < C) : Kids w (neH O) v l := h.weak fun p n c hq => .inr fun b o hp => by have := (hq b o hp).1; omega
theorem Kids.ne_off {w w' : World} {O : Nat} {v : Value} {l : List Nd} (h : Kids w (neH O) v l) (k : Off O w w') : Kids w' (neH O) v l :=
  h.keepN fun p n c b o j u hn hq hp hj => by
    rcases hq with hq | hq
    · omega
    · rw [World.cell?_of_block (w := w) (a := ⟨b, o + j, none⟩) (k.2.2.2.2 b (hq b o hp))]
      exact hj
/-- Two nodes in a row. -/
theorem row_two {w : World} {Q : Heads} {g : Nat} {v p : Nd} {s1 s2 : Value} (hg : w.heap[g]? = some (.cells #[.int .i64 v.kind, .string v.name, .int .u32 v.num, .int .i64 v.int_, .string v.key, s1, .int .i64 v.at_, .int .i64 p.kind, .string p.name, .int .u32 p.num, .int .i64 p.int_, .string p.key, s2, .int .i64 p.at_] 26)) (h1 : Kids w Q s1 v.args) (h2 : Kids w Q s2 p.args) (hq : Q (some ⟨g, 0, none⟩) 2 2) : Kids w Q (.slice (some ⟨g, 0, none⟩) 2 2) [v, p] := by
  have key : ∀ k (x : Value), (#[.int .i64 v.kind, .string v.name, .int .u32 v.num, .int .i64 v.int_, .string v.key, s1, .int .i64 v.at_, .int .i64 p.kind, .string p.name, .int .u32 p.num, .int .i64 p.int_, .string p.key, s2, .int .i64 p.at_] : Array Value)[k]? = some x → w.cell? ⟨g, k, none⟩ = some x := fun k x hx => by
    simp only [World.cell?, hg]
    exact hx
  refine ⟨some ⟨g, 0, none⟩, 2, rfl, hq, .inr ⟨g, 0, rfl, KA_cons.2 ⟨⟨key 0 _ rfl, key 1 _ rfl, key 2 _ rfl, key 3 _ rfl, key 4 _ rfl, key 6 _ rfl, s1, key 5 _ rfl, h1⟩, KA_cons.2 ⟨⟨key 7 _ rfl, key 8 _ rfl, key 9 _ rfl, key 10 _ rfl, key 11 _ rfl, key 13 _ rfl, s2, key 12 _ rfl, h2⟩, KA_nil _ _ _ _⟩⟩⟩⟩
/-- The let in its box. -/
def LetB (W : World) (nm : ByteArray) (v p : Nd) (O : Nat) (x : World) : Prop := Below W.heap.size W x ∧ ∃ g, x.heap[O]? = some (.cells #[.int .i64 6, .string nm, .int .u32 0, .int .i64 0, .string ⟨#[]⟩, .slice (some ⟨g, 0, none⟩) 2 2, .int .i64 0] 26) ∧ Kids x anyH (.slice (some ⟨g, 0, none⟩) 2 2) [v, p]
theorem let_box {W x : World} {nm : ByteArray} {v p : Nd} {O g : Nat} {s1 s2 a0 a1 a2 a3 a4 a5 a6 : Value} (hb : Below W.heap.size W x) (hO : W.heap.size ≤ O) (hx : x.heap[O]? = some (.cells #[a0, a1, a2, a3, a4, a5, a6] 26)) (hgO : g ≠ O)
    (hg : x.heap[g]? = some (.cells #[.int .i64 v.kind, .string v.name, .int .u32 v.num, .int .i64 v.int_, .string v.key, s1, .int .i64 v.at_, .int .i64 p.kind, .string p.name, .int .u32 p.num, .int .i64 p.int_, .string p.key, s2, .int .i64 p.at_] 26)) (h1 : Kids x (neH O) s1 v.args) (h2 : Kids x (neH O) s2 p.args) :
    LetB W nm v p O (((((((x.setCell ⟨O, 0, none⟩ (.int .i64 6)).setCell ⟨O, 1, none⟩ (.string nm)).setCell ⟨O, 2, none⟩ (.int .u32 0)).setCell ⟨O, 3, none⟩ (.int .i64 0)).setCell ⟨O, 4, none⟩ (.string ⟨#[]⟩)).setCell ⟨O, 5, none⟩ (.slice (some ⟨g, 0, none⟩) 2 2)).setCell ⟨O, 6, none⟩ (.int .i64 0)) := by
  have k := (((((((Off.refl O x).set 0 (.int .i64 6)).set 1 (.string nm)).set 2 (.int .u32 0)).set 3 (.int .i64 0)).set 4 (.string ⟨#[]⟩)).set 5 (.slice (some ⟨g, 0, none⟩) 2 2)).set 6 (.int .i64 0)
  refine ⟨k.below hb hO, g, put_sevenA hx _ _ _ _ _ _ _, (row_two (Q := neH O) ((k.2.2.2.2 g hgO).trans hg) (h1.ne_off k) (h2.ne_off k) (.inr fun b o e => by cases e; exact hgO)).weak fun _ _ _ _ => trivial⟩

end Go.Proofs.Ytbmkddmmclndcaa
