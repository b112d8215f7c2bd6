import Derived.Test.YtpidjmgifglmiaaTreeSure
import Derived.Test.YtpidjmgifglmiaaTreeRefFind
import Derived.Test.YtpidjmgifglmiaaTreeRefEq
/- The walk of TreeFinds. -/
namespace Go.Proofs.Ytpidjmgifglmiaa
open Go.RowKit
set_option linter.unusedVariables false
set_option linter.unusedSimpArgs false

theorem findP_cnt : ∀ (xs : List Int) (t u : Nd), findP xs t = some u → cnt u ≤ cnt t
  | [], t, u, h => by
    rw [findP] at h
    cases h
    exact Nat.le_refl _
  | i :: r, t, u, h => by
    rw [findP] at h
    by_cases h0 : 0 ≤ i
    · rw [if_pos h0] at h
      by_cases h1 : i.toNat < t.args.length
      · rw [List.getElem?_eq_getElem h1] at h
        have h2 := findP_cnt r _ u h
        have h3 := cnt_get h1
        unfold cnt at h3 ⊢
        unfold cnt at h2
        omega
      · rw [List.getElem?_eq_none (by omega)] at h
        cases h
    · rw [if_neg h0] at h
      cases h
theorem findD_cnt (xs : List Int) (t : Nd) (h : cnt t ≤ 9000) : cnt ((findP xs t).getD zeroNd) ≤ 9000 := by
  cases hf : findP xs t with
  | none =>
    show 1 + cntL [] ≤ 9000
    rw [cntL_nil]
    decide
  | some u => exact Nat.le_trans (findP_cnt xs t u hf) h
/-- A node that lies boxed, with its arguments. -/
def Bx (v : World) (G : Nat) (t : Nd) (s : Value) : Prop := v.heap[G]? = some (.cells #[.int .i64 t.kind, .string t.name, .int .u32 t.num, .int .i64 t.int_, .string t.key, s, .int .i64 t.at_] 26) ∧ Kids v anyH s t.args
theorem Bx.below {v v' : World} {G : Nat} {t : Nd} {s : Value} (h : Bx v G t s) (k : Below v.heap.size v v') : Bx v' G t s := ⟨by rw [k.block _ (hlt h.1)]; exact h.1, h.2.below k⟩
theorem Bx.cells {v : World} {G : Nat} {t : Nd} {s : Value} (h : Bx v G t s) : v.cell? ⟨G, 0, none⟩ = some (.int .i64 t.kind) ∧ v.cell? ⟨G, 1, none⟩ = some (.string t.name) ∧ v.cell? ⟨G, 2, none⟩ = some (.int .u32 t.num) ∧ v.cell? ⟨G, 3, none⟩ = some (.int .i64 t.int_) ∧ v.cell? ⟨G, 4, none⟩ = some (.string t.key) ∧ v.cell? ⟨G, 5, none⟩ = some (s) ∧ v.cell? ⟨G, 6, none⟩ = some (.int .i64 t.at_) := ⟨cell_heap h.1 0, cell_heap h.1 1, cell_heap h.1 2, cell_heap h.1 3, cell_heap h.1 4, cell_heap h.1 5, cell_heap h.1 6⟩
theorem Bx.mk (v : World) (t : Nd) (s : Value) (h : Kids v anyH s t.args) : Bx (v.alloc (.cells #[.int .i64 t.kind, .string t.name, .int .u32 t.num, .int .i64 t.int_, .string t.key, s, .int .i64 t.at_] 26)) v.heap.size t s := ⟨box_heap _ _, h.below (bel_alloc _ _)⟩

set_option maxRecDepth 100000 in
set_option maxHeartbeats 8000000 in
theorem walk_TreeFinds (t : Nd) (p : Option Addr) (c : Nat) (hok : ok1 t) (xs : List Int) (hxs : xs.length ≤ 35184372088832) (w : World) (hk : Kids w anyH (.slice p t.args.length c) t.args) (pv : Value) (hp : Path w pv xs) :
    Calls Try.prog 6 #[nv t (.slice p t.args.length c), pv] w fun e w' => e = .returned (.bool true) ∧ Below w.heap.size w w' := by
  have hb0 := bel_alloc w (.cells #[.int .i64 t.kind, .string t.name, .int .u32 t.num, .int .i64 t.int_, .string t.key, .slice p t.args.length c, .int .i64 t.at_] 26)
  have hx0 := box_heap w (.cells #[.int .i64 t.kind, .string t.name, .int .u32 t.num, .int .i64 t.int_, .string t.key, .slice p t.args.length c, .int .i64 t.at_] 26)
  have HG : Hid (∀ v, Below w.heap.size w v → Calls Try.prog 9 #[.agg #[.int .i64 t.kind, .string t.name, .int .u32 t.num, .int .i64 t.int_, .string t.key, .slice p t.args.length c, .int .i64 t.at_]] v fun e v' => e = .returned (.bool (decide (9000 < cnt t))) ∧ Below v.heap.size v v') := fun v hv => big_any t p c v (hk.below hv)
  have HW0 : Hid (Below w.heap.size w (w.alloc (.cells #[.int .i64 t.kind, .string t.name, .int .u32 t.num, .int .i64 t.int_, .string t.key, .slice p t.args.length c, .int .i64 t.at_] 26))) := hb0
  unfold nv
  by_cases hbig : 9000 < cnt t
  · have e : decide (9000 < cnt t) = true := by simpa using hbig
    rw [e] at HG
    clear e hbig hk hok hx0 hb0 hp hxs
    go_enter Try.func6, Try.ntmps6
    go_wp2_with (first
      | (go_at_call 9; (with_reducible refine (HG.out _ HW0.out).mono ?_); rintro e w1 ⟨rfl, hb1⟩)
      | (go_at_call 10; (with_reducible refine (sure_any _).mono ?_); rintro e w2 ⟨rfl, hb2⟩))
    go_ret
    exact ⟨rfl, bel HW0.out (bel hb1 hb2)⟩
  have e : decide (9000 < cnt t) = false := by simpa using hbig
  rw [e] at HG
  have hc : cnt t ≤ 9000 := by omega
  have HX : Hid (∀ v, Below (w.alloc (.cells #[.int .i64 t.kind, .string t.name, .int .u32 t.num, .int .i64 t.int_, .string t.key, .slice p t.args.length c, .int .i64 t.at_] 26)).heap.size (w.alloc (.cells #[.int .i64 t.kind, .string t.name, .int .u32 t.num, .int .i64 t.int_, .string t.key, .slice p t.args.length c, .int .i64 t.at_] 26)) v → v.heap[w.heap.size]? = some (.cells #[.int .i64 t.kind, .string t.name, .int .u32 t.num, .int .i64 t.int_, .string t.key, .slice p t.args.length c, .int .i64 t.at_] 26) ∧ Kids v anyH (.slice p t.args.length c) t.args) := fun v hv => ⟨by rw [hv.block _ (hlt hx0)]; exact hx0, hk.below (bel hb0 hv)⟩
  have HOK : Hid (ok1 t ∧ cnt t ≤ 9000) := ⟨hok, hc⟩
  have HP : Hid (Path w pv xs ∧ xs.length ≤ 35184372088832) := ⟨hp, hxs⟩
  clear e hbig hk hok hx0 hb0 hc hp hxs
  go_enter Try.func6, Try.ntmps6
  go_upto_region 3 with (go_at_call 9; (with_reducible refine (HG.out _ HW0.out).mono ?_); rintro e w1 ⟨rfl, hb1⟩)
  obtain ⟨hx1, hk1⟩ := HX.out w1 hb1
  have hbw : Below w.heap.size w w1 := bel HW0.out hb1
  obtain ⟨hok, hc⟩ := HOK.out
  clear HX HG HW0 HOK
  obtain ⟨hp, hxs⟩ := HP.out
  have hp1 := hp.below hbw
  have hcu := findD_cnt xs t hc
  obtain ⟨u, hu⟩ : ∃ u, (findP xs t).getD zeroNd = u := ⟨_, rfl⟩
  obtain ⟨ok, hokk⟩ : ∃ ok, (findP xs t).isSome = ok := ⟨_, rfl⟩
  rw [hu] at hcu
  have HN1 : Hid (Bx w1 w.heap.size t (.slice p t.args.length c)) := ⟨hx1, hk1⟩
  have HF : Hid (∀ v, Below w1.heap.size w1 v → Calls Try.prog 26 #[.agg #[.int .i64 t.kind, .string t.name, .int .u32 t.num, .int .i64 t.int_, .string t.key, .slice p t.args.length c, .int .i64 t.at_], pv] v fun e v' => ∃ q m d, e = .returned (.tuple #[.agg #[.int .i64 u.kind, .string u.name, .int .u32 u.num, .int .i64 u.int_, .string u.key, .slice q m d, .int .i64 u.at_], .bool ok]) ∧ Kids v' anyH (.slice q m d) u.args ∧ Below v.heap.size v v') := fun v hv => (find_any t _ pv xs v hxs hc hok (hk1.below hv) (hp1.below hv)).mono fun e v' ⟨q, m, d, he, hkk, hb⟩ => ⟨q, m, d, by rw [he, hu, hokk]; rfl, by rw [hu] at hkk; exact hkk, hb⟩
  have HRF : Hid (∀ v, Below w1.heap.size w1 v → Calls Try.prog 27 #[.agg #[.int .i64 t.kind, .string t.name, .int .u32 t.num, .int .i64 t.int_, .string t.key, .slice p t.args.length c, .int .i64 t.at_], pv] v fun e v' => ∃ q m d, e = .returned (.tuple #[.agg #[.int .i64 u.kind, .string u.name, .int .u32 u.num, .int .i64 u.int_, .string u.key, .slice q m d, .int .i64 u.at_], .bool ok]) ∧ Kids v' anyH (.slice q m d) u.args ∧ Below v.heap.size v v') := fun v hv => (rfind_any t p c pv xs v hxs hc (hk1.below hv) (hp1.below hv)).mono fun e v' ⟨q, m, d, he, hkk, hb⟩ => ⟨q, m, d, by rw [he, hu, hokk]; rfl, by rw [hu] at hkk; exact hkk, hb⟩
  have HFN : Hid (∀ v, Below w1.heap.size w1 v → Calls Try.prog 26 #[.agg #[.int .i64 t.kind, .string t.name, .int .u32 t.num, .int .i64 t.int_, .string t.key, .slice p t.args.length c, .int .i64 t.at_], .slice none 0 0] v fun e v' => ∃ q m d, e = .returned (.tuple #[.agg #[.int .i64 t.kind, .string t.name, .int .u32 t.num, .int .i64 t.int_, .string t.key, .slice q m d, .int .i64 t.at_], .bool true]) ∧ Kids v' anyH (.slice q m d) t.args ∧ Below v.heap.size v v') := fun v hv => (find_any t _ (.slice none 0 0) [] v (by simp) hc hok (hk1.below hv) ⟨none, 0, rfl, .inl rfl⟩).mono fun e v' ⟨q, m, d, he, hkk, hb⟩ => ⟨q, m, d, he, hkk, hb⟩
  have HSU : Hid (∀ (v : World) (q : Option Addr) (m d : Nat) (q' : Option Addr) (m' d' : Nat), Kids v anyH (.slice q m d) u.args → Kids v anyH (.slice q' m' d') u.args → Calls Try.prog 14 #[.agg #[.int .i64 u.kind, .string u.name, .int .u32 u.num, .int .i64 u.int_, .string u.key, .slice q m d, .int .i64 u.at_], .agg #[.int .i64 u.kind, .string u.name, .int .u32 u.num, .int .i64 u.int_, .string u.key, .slice q' m' d', .int .i64 u.at_]] v fun e v' => e = .returned (.bool true) ∧ Below v.heap.size v v') := fun v q m d q' m' d' ha hb => by
    obtain ⟨_, _, e1, -⟩ := id ha
    obtain ⟨_, _, e2, -⟩ := id hb
    simp only [Value.slice.injEq] at e1 e2
    obtain ⟨-, rfl, -⟩ := e1
    obtain ⟨-, rfl, -⟩ := e2
    exact same_to (dep u) u q q' d d' v (Nat.le_refl _) hcu ha hb
  have HST : Hid (∀ (v : World) (q : Option Addr) (m d : Nat), Kids v anyH (.slice q m d) t.args → Kids v anyH (.slice p t.args.length c) t.args → Calls Try.prog 14 #[.agg #[.int .i64 t.kind, .string t.name, .int .u32 t.num, .int .i64 t.int_, .string t.key, .slice q m d, .int .i64 t.at_], .agg #[.int .i64 t.kind, .string t.name, .int .u32 t.num, .int .i64 t.int_, .string t.key, .slice p t.args.length c, .int .i64 t.at_]] v fun e v' => e = .returned (.bool true) ∧ Below v.heap.size v v') := fun v q m d ha hb => by
    obtain ⟨_, _, e1, -⟩ := id ha
    simp only [Value.slice.injEq] at e1
    obtain ⟨-, rfl, -⟩ := e1
    exact same_to (dep t) t q p d c v (Nat.le_refl _) hc ha hb
  have HBW : Hid (Below w.heap.size w w1) := hbw
  obtain ⟨z0, z1, z2, z3, z4, z5, z6⟩ := HN1.out.cells
  clear hp hxs hp1 hcu hu hokk hx1 hk1 hok hc hbw hb1 HP
  go_upto_region 4 with (go_at_call 26; (with_reducible refine (HF.out _ (bel0 _)).mono ?_); rintro e w2 ⟨q1, m1, d1, rfl, hk2, hb2⟩)
  have HA1 : Hid (Bx (w2.alloc (.cells #[.int .i64 u.kind, .string u.name, .int .u32 u.num, .int .i64 u.int_, .string u.key, .slice q1 m1 d1, .int .i64 u.at_] 26)) w2.heap.size u (.slice q1 m1 d1)) := Bx.mk w2 u _ hk2
  have HB1 : Hid (Below w1.heap.size w1 (w2.alloc (.cells #[.int .i64 u.kind, .string u.name, .int .u32 u.num, .int .i64 u.int_, .string u.key, .slice q1 m1 d1, .int .i64 u.at_] 26))) := bel hb2 (bel_alloc _ _)
  obtain ⟨V1, hV⟩ : ∃ V, w2.alloc (.cells #[.int .i64 u.kind, .string u.name, .int .u32 u.num, .int .i64 u.int_, .string u.key, .slice q1 m1 d1, .int .i64 u.at_] 26) = V := ⟨_, rfl⟩
  obtain ⟨G1, hG⟩ : ∃ G, w2.heap.size = G := ⟨_, rfl⟩
  rw [hV, hG] at HA1
  rw [hV] at HB1
  rw [hV, hG]
  clear hV hG hk2 hb2 z0 z1 z2 z3 z4 z5 z6
  obtain ⟨z0, z1, z2, z3, z4, z5, z6⟩ := (HN1.out.below HB1.out).cells
  go_upto_region 5 with (go_at_call 27; (with_reducible refine (HRF.out _ HB1.out).mono ?_); rintro e w3 ⟨q2, m2, d2, rfl, hk3, hb3⟩)
  have HA2 : Hid (Bx (w3.alloc (.cells #[.int .i64 u.kind, .string u.name, .int .u32 u.num, .int .i64 u.int_, .string u.key, .slice q2 m2 d2, .int .i64 u.at_] 26)) w3.heap.size u (.slice q2 m2 d2)) := Bx.mk w3 u _ hk3
  have HB2 : Hid (Below V1.heap.size V1 (w3.alloc (.cells #[.int .i64 u.kind, .string u.name, .int .u32 u.num, .int .i64 u.int_, .string u.key, .slice q2 m2 d2, .int .i64 u.at_] 26))) := bel hb3 (bel_alloc _ _)
  obtain ⟨V2, hV⟩ : ∃ V, w3.alloc (.cells #[.int .i64 u.kind, .string u.name, .int .u32 u.num, .int .i64 u.int_, .string u.key, .slice q2 m2 d2, .int .i64 u.at_] 26) = V := ⟨_, rfl⟩
  obtain ⟨G2, hG⟩ : ∃ G, w3.heap.size = G := ⟨_, rfl⟩
  rw [hV, hG] at HA2
  rw [hV] at HB2
  rw [hV, hG]
  clear hV hG hk3 hb3 z0 z1 z2 z3 z4 z5 z6
  obtain ⟨z0, z1, z2, z3, z4, z5, z6⟩ := (HN1.out.below (bel HB1.out HB2.out)).cells
  go_upto_region 6 with (go_at_call 26; (with_reducible refine (HFN.out _ (bel HB1.out HB2.out)).mono ?_); rintro e w4 ⟨q3, m3, d3, rfl, hk4, hb4⟩)
  have HA3 : Hid (Bx (w4.alloc (.cells #[.int .i64 t.kind, .string t.name, .int .u32 t.num, .int .i64 t.int_, .string t.key, .slice q3 m3 d3, .int .i64 t.at_] 26)) w4.heap.size t (.slice q3 m3 d3)) := Bx.mk w4 t _ hk4
  have HB3 : Hid (Below V2.heap.size V2 (w4.alloc (.cells #[.int .i64 t.kind, .string t.name, .int .u32 t.num, .int .i64 t.int_, .string t.key, .slice q3 m3 d3, .int .i64 t.at_] 26))) := bel hb4 (bel_alloc _ _)
  obtain ⟨V3, hV⟩ : ∃ V, w4.alloc (.cells #[.int .i64 t.kind, .string t.name, .int .u32 t.num, .int .i64 t.int_, .string t.key, .slice q3 m3 d3, .int .i64 t.at_] 26) = V := ⟨_, rfl⟩
  obtain ⟨G3, hG⟩ : ∃ G, w4.heap.size = G := ⟨_, rfl⟩
  rw [hV, hG] at HA3
  rw [hV] at HB3
  rw [hV, hG]
  clear hV hG hk4 hb4 z0 z1 z2 z3 z4 z5 z6 HF HRF HFN
  have HK : Hid (∀ v, Below V3.heap.size V3 v → (Kids v anyH (.slice q1 m1 d1) u.args ∧ Kids v anyH (.slice q2 m2 d2) u.args ∧ Kids v anyH (.slice q3 m3 d3) t.args ∧ Kids v anyH (.slice p t.args.length c) t.args) ∧ (v.cell? ⟨w.heap.size, 0, none⟩ = some (.int .i64 t.kind) ∧ v.cell? ⟨w.heap.size, 1, none⟩ = some (.string t.name) ∧ v.cell? ⟨w.heap.size, 2, none⟩ = some (.int .u32 t.num) ∧ v.cell? ⟨w.heap.size, 3, none⟩ = some (.int .i64 t.int_) ∧ v.cell? ⟨w.heap.size, 4, none⟩ = some (.string t.key) ∧ v.cell? ⟨w.heap.size, 5, none⟩ = some (.slice p t.args.length c) ∧ v.cell? ⟨w.heap.size, 6, none⟩ = some (.int .i64 t.at_)) ∧ (v.cell? ⟨G3, 0, none⟩ = some (.int .i64 t.kind) ∧ v.cell? ⟨G3, 1, none⟩ = some (.string t.name) ∧ v.cell? ⟨G3, 2, none⟩ = some (.int .u32 t.num) ∧ v.cell? ⟨G3, 3, none⟩ = some (.int .i64 t.int_) ∧ v.cell? ⟨G3, 4, none⟩ = some (.string t.key) ∧ v.cell? ⟨G3, 5, none⟩ = some (.slice q3 m3 d3) ∧ v.cell? ⟨G3, 6, none⟩ = some (.int .i64 t.at_))) := fun v hv =>
    ⟨⟨(HA1.out.below (bel HB2.out (bel HB3.out hv))).2, (HA2.out.below (bel HB3.out hv)).2, (HA3.out.below hv).2, (HN1.out.below (bel HB1.out (bel HB2.out (bel HB3.out hv)))).2⟩, (HN1.out.below (bel HB1.out (bel HB2.out (bel HB3.out hv)))).cells, (HA3.out.below hv).cells⟩
  obtain ⟨z0, z1, z2, z3, z4, z5, z6⟩ := (HA1.out.below (bel HB2.out HB3.out)).cells
  obtain ⟨y0, y1, y2, y3, y4, y5, y6⟩ := (HA2.out.below HB3.out).cells
  have HE : Hid (∀ v, Below V3.heap.size V3 v → Below w.heap.size w v) := fun v hv => bel HBW.out (bel HB1.out (bel HB2.out (bel HB3.out hv)))
  clear HA1 HA2 HA3 HN1 HB1 HB2 HB3 HBW
  go_wp2_with (first
    | (go_at_call 14; (with_reducible refine (HSU.out _ _ _ _ _ _ _ (HK.out _ (bel0 _)).1.1 (HK.out _ (bel0 _)).1.2.1).mono ?_); rintro e w5 ⟨rfl, hb5⟩; clear z0 z1 z2 z3 z4 z5 z6 y0 y1 y2 y3 y4 y5 y6; obtain ⟨-, ⟨z0, z1, z2, z3, z4, z5, z6⟩, ⟨y0, y1, y2, y3, y4, y5, y6⟩⟩ := HK.out w5 hb5)
    | (go_at_call 14; (with_reducible refine (HST.out _ _ _ _ (HK.out _ hb5).1.2.2.1 (HK.out _ hb5).1.2.2.2).mono ?_); rintro e w6 ⟨rfl, hb6⟩)
    | (go_at_call 10; (with_reducible refine (sure_any _).mono ?_); rintro e w7 ⟨rfl, hb7⟩))
  go_ret
  exact ⟨rfl, HE.out _ (bel hb5 (bel hb6 hb7))⟩

end Go.Proofs.Ytpidjmgifglmiaa
