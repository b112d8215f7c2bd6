import Derived.Test.YtnhpnmilgcjeaaaDoorMaskSets
/- MaskOwn. -/
namespace Go.Proofs.YtnhpnmilgcjeaaaDoor
open Go.RowKit
set_option linter.unusedVariables false
set_option linter.unusedSimpArgs false

/-- The last of a row of one's own. -/
theorem own_last {w : World} {B n : Nat} {v : Value} {xs : List Value} (h : w.ownsRow B 3 1 v (n + 3) (xs ++ [.int .i64 1, .int .i64 2, .int .i64 3])) (h3 : 0 < n + 3) : ∃ g cap, v = .slice (some ⟨g, 0, none⟩) (n + 3) cap ∧ w.cell? ⟨g, n + 2, none⟩ = some (.int .i64 3) := by
  obtain ⟨hl, h⟩ := h
  rcases h with ⟨hv, hn⟩ | ⟨g, cap, cur, hv, hB, hg, hc1, hc2, hsz, htk⟩
  · omega
  · refine ⟨g, cap, hv, ?_⟩
    have hxl : xs.length = n := by simp at hl; omega
    have : (xs ++ [Value.int .i64 1, .int .i64 2, .int .i64 3])[n + 2]? = some (.int .i64 3) := by
      rw [List.getElem?_append_right (by omega), hxl, show n + 2 - n = 2 by omega]; rfl
    rw [← this, ← htk, List.getElem?_take_of_lt (by omega)]
    simp [World.cell?, hg]
def SomeI (w : World) (B : Nat) (v : Value) (n : Nat) : Prop := ∃ xs, w.ownsRow B 3 1 v n xs
theorem someI_row {w : World} {B g n cap : Nat} (h : SomeI w B (.slice (some ⟨g, 0, none⟩) n cap) n) : B ≤ g ∧ n ≤ cap ∧ cap ≤ maxLen ∧ ∃ f, w.rowIs g 3 cap f := by
  obtain ⟨xs, hl, h⟩ := h
  rcases h with ⟨hv, _⟩ | ⟨g', cap', cur, hv, hB, hg, h1, h2, h3, h4⟩
  · cases hv
  · cases hv
    exact ⟨hB, h1, h2, fun i => cur.getD i (.bool false), cur, hg, by simpa using h3, fun i hi => by simp [Array.getD, h3, hi]⟩
theorem row_someI {w : World} {B g n cap : Nat} {f : Nat → Value} (h : w.rowIs g 3 cap f) (hB : B ≤ g) (h1 : n ≤ cap) (h2 : cap ≤ maxLen) : SomeI w B (.slice (some ⟨g, 0, none⟩) n cap) n := by
  obtain ⟨cur, hg, h3, h4⟩ := h
  exact ⟨cur.toList.take n, by rw [List.length_take, Array.length_toList, h3]; omega, .inr ⟨g, cap, cur, rfl, hB, hg, h1, h2, by simpa using h3, by simp⟩⟩
def SpI (w3 : World) (B g n cap : Nat) (w : World) : Prop := SomeI w B (.slice (some ⟨g, 0, none⟩) n cap) n ∧ w3.grownBy w (some g)
theorem SpI.set {w3 w : World} {B g n cap : Nat} (h : SpI w3 B g n cap w) (k : Nat) (v : Value) : SpI w3 B g n cap (w.setCell ⟨g, k, none⟩ v) := by
  obtain ⟨hB, h1, h2, f, hf⟩ := someI_row h.1
  refine ⟨row_someI (hf.set k v) hB h1 h2, h.2.os, h.2.tape, h.2.output, by simpa using h.2.size, fun j hj hne => ?_⟩
  rw [Go.Deep.blk_setCell_other _ _ _ _ (fun e => hne (by rw [e]))]
  exact h.2.block j hj hne

set_option maxRecDepth 100000 in
set_option maxHeartbeats 4000000 in
theorem walk_MaskOwn (t : Nd) (p : Option Addr) (c : Nat) (hok : ok1 t) (pp : Option Addr) (cc : Nat) (ps : List Par) (hml : ps.length ≤ 4398046510976) (hmn : ∀ q ∈ ps, q.name.size ≤ 140737488351232) (hz : pp = none → ps.length = 0 ∧ cc = 0) (w : World) (hk : Kids w anyH (.slice p t.args.length c) t.args) (hr : Row w pp ps) :
    Calls Tryd.prog 7 #[nv t (.slice p t.args.length c), .slice pp ps.length cc] w fun e w' => e = .returned (.bool true) ∧ Below w.heap.size w w' := by
  obtain ⟨i0, hi0, hz0, hz1, hz2⟩ := info_parts info_int
  have HBG : Hid (∀ v, Below w.heap.size w v → Calls Tryd.prog 11 #[.agg #[.int .i64 t.kind, .string t.name, .int .u32 t.num, .int .i64 t.int_, .string t.key, .slice p t.args.length c, .int .i64 t.at_]] v fun e w' => e = .returned (.bool (decide (9000 < cnt t))) ∧ Below v.heap.size v w') := big_box hk
  have HB0 : Hid (Below w.heap.size w (w.alloc (.cells #[.int .i64 t.kind, .string t.name, .int .u32 t.num, .int .i64 t.int_, .string t.key, .slice p t.args.length c, .int .i64 t.at_] 29))) := bel_alloc _ _
  have HBX : Hid ((w.alloc (.cells #[.int .i64 t.kind, .string t.name, .int .u32 t.num, .int .i64 t.int_, .string t.key, .slice p t.args.length c, .int .i64 t.at_] 29)).heap[w.heap.size]? = some (.cells #[.int .i64 t.kind, .string t.name, .int .u32 t.num, .int .i64 t.int_, .string t.key, .slice p t.args.length c, .int .i64 t.at_] 29)) := box_heap w _
  unfold nv
  by_cases hc : 9000 < cnt t
  · have e1 : decide (9000 < cnt t) = true := decide_eq_true hc
    rw [e1] at HBG
    clear hk hr hok hmn hz hc e1
    go_enter Tryd.func7, Tryd.ntmps7
    go_wp2_with (first
      | (go_at_call 11; (with_reducible refine (HBG.out _ HB0.out).mono ?_); rintro e w1 ⟨rfl, hb1⟩)
      | (go_at_call 10; refine (sure_any _).mono ?_; rintro e w3 ⟨rfl, hb3⟩))
    go_ret
    exact ⟨rfl, bel (bel HB0.out hb1) hb3⟩
  · have e1 : decide (9000 < cnt t) = false := decide_eq_false hc
    rw [e1] at HBG
    have hS : SetsOf t p c ps pp cc w (setP ps t) := sets_of (by omega) hok hml hmn hk hr
    have hll := set_len ps t
    have hbd := set_bounds ps t
    obtain ⟨R, hR⟩ : ∃ R, setP ps t = R := ⟨_, rfl⟩
    rw [hR] at hS hll hbd
    obtain ⟨L, E, F⟩ := R
    have HS : Hid (SetsOf t p c ps pp cc w ⟨L, E, F⟩) := hS
    have HLL : Hid (L.length ≤ 140737488351232) := Nat.le_trans hll (by omega)
    obtain ⟨n, hn⟩ : ∃ n, L.length = n := ⟨_, rfl⟩
    have HNN : Hid (L.length = n) := hn
    have hn2 : n ≤ 4398046510976 := by rw [← hn]; exact Nat.le_trans hll hml
    have hw1 : IntKind.i64.wrap ((n : Int) + 3 - 1) = (n : Int) + 2 := by rw [IntKind.wrap_i64]; omega
    have hw2 : IntKind.i64.wrap ((n : Int) + 2) = (n : Int) + 2 := by rw [IntKind.wrap_i64]; omega
    have n0 : (0 : Int) ≤ (n : Int) + 2 := by omega
    have n1 : (n : Int) + 2 < (n : Int) + 3 := by omega
    simp only at hbd
    clear hk hr hok hmn hz hc e1 hR hS hll hn
    go_enter Tryd.func7, Tryd.ntmps7
    go_upto_region 4 with (first
      | (go_at_call 11; (with_reducible refine (HBG.out _ HB0.out).mono ?_); rintro e w1 ⟨rfl, hb1⟩; have HB1 : Hid (Below w.heap.size w w1) := bel HB0.out hb1; have HX1 : w1.heap[w.heap.size]? = some (.cells #[.int .i64 t.kind, .string t.name, .int .u32 t.num, .int .i64 t.int_, .string t.key, .slice p t.args.length c, .int .i64 t.at_] 29) := (by rw [hb1.block _ (hlt HBX.out)]; exact HBX.out); have HBX1 : Hid (w1.heap[w.heap.size]? = some (.cells #[.int .i64 t.kind, .string t.name, .int .u32 t.num, .int .i64 t.int_, .string t.key, .slice p t.args.length c, .int .i64 t.at_] 29)) := HX1; obtain ⟨⟨g0, g1, g2, g3, g4, g5, g6⟩, -⟩ := seven HX1; clear HX1)
      | (go_at_call 12; (with_reducible refine (HS.out.set _ HB1.out).mono ?_); rintro e w2 ⟨vA, rfl, ho2, hb2⟩; have HB2 : Hid (Below w.heap.size w w2) := bel HB1.out hb2; have HA : Hid (OwnI w2 w1.heap.size vA L) := ho2; have HBX2 : Hid (w2.heap[w.heap.size]? = some (.cells #[.int .i64 t.kind, .string t.name, .int .u32 t.num, .int .i64 t.int_, .string t.key, .slice p t.args.length c, .int .i64 t.at_] 29)) := (by show _ = _; rw [hb2.block _ (hlt HBX1.out)]; exact HBX1.out); clear ho2))
    have hs1 : w.heap.size + 1 ≤ w1.heap.size := hlt HBX1.out
    have hcase := HA.out.2
    have HA2 := HA.out
    unfold OwnI at HA2
    rw [HNN.out] at hcase HA2
    clear g0 g1 g2 g3 g4 g5 g6
    rcases hcase with ⟨rfl, h0⟩ | ⟨g, cap, cur, rfl, hB, hg, h1, h2, h3, h4⟩
    · subst h0
      go_wp2
      go_loopw [8] (fun iv wr => wr = w2 ∧ iv = .int .i64 0) (fun _ _ => 0)
      case atStart => exact ⟨rfl, rfl⟩
      case round =>
        obtain ⟨rfl, rfl⟩ := hrel
        obtain ⟨xs, hxs⟩ := (show SomeI wr (w.heap.size + 1) (.slice none 0 0) 0 from ⟨[], World.ownsRow_nil _ _ _ _⟩)
        have HX : Hid (wr.ownsRow (w.heap.size + 1) 3 1 (.slice none 0 0) 0 xs) := hxs
        have HBW := HB2.out
        have HBXR : Hid (wr.heap[w.heap.size]? = some (.cells #[.int .i64 t.kind, .string t.name, .int .u32 t.num, .int .i64 t.int_, .string t.key, .slice p t.args.length c, .int .i64 t.at_] 29)) := HBX2
        clear hxs HA HA2
        have HB5A : Hid (Below w.heap.size w wr) := HBW
        obtain ⟨⟨g0, g1, g2, g3, g4, g5', g6⟩, -⟩ := seven HBXR.out
        have szr : w.heap.size + 1 ≤ wr.heap.size := hlt HBXR.out
        go_wp2_with (first
          | (at_builtin; refine wpList_append_own_at _ rfl _ _ 32 rfl (w.heap.size + 1) 3 i0 _ 1 8 Tryd.underlying32 hi0 hz0 hz1 hz2 rfl (by decide) (.slice none 0 0) 0 xs rfl (World.ownsRow.alloc HX.out _) ⟨wr.heap.size, 0, none⟩ 3 3 [.int .i64 1, .int .i64 2, .int .i64 3] rfl rfl (World.news_of_block (cs := #[.int .i64 1, .int .i64 2, .int .i64 3]) (t := 3) (fr := (0, 0)) (box_heap wr _)) (by simp [Value.oneCell']) (by unfold maxLen; omega) (by omega) (by simp; omega) ?_; intro v5 w5 hown5 hgrow5 hnil hat; obtain ⟨gg, cap5, rfl, hcell⟩ := own_last hown5 (by simp); have HB5 : Hid (Below w.heap.size w w5) := Below.grown (HB5A.out.alloc (by omega) _) hgrow5 (by simp; omega) (fun k e => by have := (HX.out.lt k e).1; omega); have HBX5 : w5.heap[w.heap.size]? = some (.cells #[.int .i64 t.kind, .string t.name, .int .u32 t.num, .int .i64 t.int_, .string t.key, .slice p t.args.length c, .int .i64 t.at_] 29) := (by rw [hgrow5.block _ (by simp; omega) (fun e => by have := (HX.out.lt _ e.symm).1; omega), (bel_alloc wr _).block _ (by omega)]; exact HBXR.out); have HBX5' : Hid (w5.heap[w.heap.size]? = some (.cells #[.int .i64 t.kind, .string t.name, .int .u32 t.num, .int .i64 t.int_, .string t.key, .slice p t.args.length c, .int .i64 t.at_] 29)) := HBX5; clear g0 g1 g2 g3 g4 g5' g6; obtain ⟨⟨g0, g1, g2, g3, g4, g5', g6⟩, -⟩ := seven HBX5; clear hown5 hgrow5 hnil hat HBX5)
          | (go_at_call 12; (with_reducible refine (HS.out.set _ HB5.out).mono ?_); rintro e w6 ⟨v6, rfl, ho6, hb6⟩; have HB6 : Hid (Below w.heap.size w w6) := bel HB5.out hb6; have R6 : Hid (RdN w6 v6 L) := ho6.rd; clear g0 g1 g2 g3 g4 g5' g6; have HX6 : w6.heap[w.heap.size]? = some (.cells #[.int .i64 t.kind, .string t.name, .int .u32 t.num, .int .i64 t.int_, .string t.key, .slice p t.args.length c, .int .i64 t.at_] 29) := (by rw [hb6.block _ (hlt HBX5'.out)]; exact HBX5'.out); obtain ⟨⟨g0, g1, g2, g3, g4, g5', g6⟩, -⟩ := seven HX6; have hc6 := mkeep hb6 hcell; clear HX6 ho6)
          | (go_at_call 13; (with_reducible refine (HS.out.rset _ HB6.out).mono ?_); rintro e w7 ⟨v7, rfl, ho7, hb7⟩; have R7 : Hid (RdN w7 v6 L ∧ RdN w7 v7 L) := ⟨R6.out.below hb7, ho7.rd⟩; have hc7 := mkeep hb7 hc6; clear ho7)
          | (go_at_call 14; (with_reducible refine (same_any _ _ L HLL.out _ R7.out.1 R7.out.2).mono ?_); rintro e w8 ⟨rfl, hb8⟩; have hc8 := mkeep hb8 hc7)
          | (go_at_call 10; refine (sure_any _).mono ?_; rintro e w9 ⟨rfl, hb9⟩))
        go_ret
        exact ⟨rfl, bel (bel (bel HB6.out hb7) hb8) hb9⟩
    · have hsp : SpI w2 (w.heap.size + 1) g n cap w2 := by
        refine ⟨⟨ints L, ?_⟩, World.grownBy.refl _ _⟩
        refine ⟨HA2.1, ?_⟩
        rcases HA2.2 with hv | ⟨g', cap', cur', hv, hB', hr'⟩
        · exact .inl hv
        · exact .inr ⟨g', cap', cur', hv, by omega, hr'⟩
      have HSP : Hid (SpI w2 (w.heap.size + 1) g n cap w2) := hsp
      clear hsp h4 h3 hg HA HA2 hB
      go_wp2
      go_loopw [8] (fun iv wr => SpI w2 (w.heap.size + 1) g n cap wr ∧ ∃ i : Nat, i ≤ n ∧ iv = .int .i64 i) (fun iv _ => n - (intOf iv).toNat)
      case atStart => exact ⟨HSP.out, 0, Nat.zero_le _, rfl⟩
      case round =>
        obtain ⟨hsp, i, hi, rfl⟩ := hrel
        have HS2 : Hid (SpI w2 (w.heap.size + 1) g n cap wr) := hsp
        clear hsp
        by_cases hlt0 : i < n
        · obtain ⟨hB, _, _, f, hf⟩ := someI_row HS2.out.1
          have c0 := hf.cell (i := i) (by omega)
          have f0 := hf.frozen i
          have i1 : (0 : Int) ≤ (i : Int) := by omega
          have i2 : (i : Int) < (n : Int) := by omega
          clear hf
          go_wp2
          go_roundw
          case rel => exact ⟨HS2.out.set _ _, i + 1, by omega, by go_num⟩
          case measure => simp [intOf]; omega
        · have : i = n := by omega
          subst this
          obtain ⟨hB, _, _, f, hf⟩ := someI_row HS2.out.1
          obtain ⟨xs, hxs⟩ := HS2.out.1
          have HX : Hid (wr.ownsRow (w.heap.size + 1) 3 1 (.slice (some ⟨g, 0, none⟩) i cap) i xs) := hxs
          have HBW : Below w.heap.size w wr := Below.grown HB2.out HS2.out.2 (by have := HB2.out.size; omega) (fun k e => by cases e; omega)
          have HBXR : Hid (wr.heap[w.heap.size]? = some (.cells #[.int .i64 t.kind, .string t.name, .int .u32 t.num, .int .i64 t.int_, .string t.key, .slice p t.args.length c, .int .i64 t.at_] 29)) := by
            show _ = _
            rw [HS2.out.2.block _ (hlt HBX2.out) (fun e => by have := Option.some.inj e; omega)]
            exact HBX2.out
          clear hxs hf hB
          have HB5A : Hid (Below w.heap.size w wr) := HBW
          obtain ⟨⟨g0, g1, g2, g3, g4, g5', g6⟩, -⟩ := seven HBXR.out
          have szr : w.heap.size + 1 ≤ wr.heap.size := hlt HBXR.out
          go_wp2_with (first
            | (at_builtin; refine wpList_append_own_at _ rfl _ _ 32 rfl (w.heap.size + 1) 3 i0 _ 1 8 Tryd.underlying32 hi0 hz0 hz1 hz2 rfl (by decide) (.slice (some ⟨g, 0, none⟩) i cap) i xs rfl (World.ownsRow.alloc HX.out _) ⟨wr.heap.size, 0, none⟩ 3 3 [.int .i64 1, .int .i64 2, .int .i64 3] rfl rfl (World.news_of_block (cs := #[.int .i64 1, .int .i64 2, .int .i64 3]) (t := 3) (fr := (0, 0)) (box_heap wr _)) (by simp [Value.oneCell']) (by unfold maxLen; omega) (by omega) (by simp; omega) ?_; intro v5 w5 hown5 hgrow5 hnil hat; obtain ⟨gg, cap5, rfl, hcell⟩ := own_last hown5 (by simp); have HB5 : Hid (Below w.heap.size w w5) := Below.grown (HB5A.out.alloc (by omega) _) hgrow5 (by simp; omega) (fun k e => by have := (HX.out.lt k e).1; omega); have HBX5 : w5.heap[w.heap.size]? = some (.cells #[.int .i64 t.kind, .string t.name, .int .u32 t.num, .int .i64 t.int_, .string t.key, .slice p t.args.length c, .int .i64 t.at_] 29) := (by rw [hgrow5.block _ (by simp; omega) (fun e => by have := (HX.out.lt _ e.symm).1; omega), (bel_alloc wr _).block _ (by omega)]; exact HBXR.out); have HBX5' : Hid (w5.heap[w.heap.size]? = some (.cells #[.int .i64 t.kind, .string t.name, .int .u32 t.num, .int .i64 t.int_, .string t.key, .slice p t.args.length c, .int .i64 t.at_] 29)) := HBX5; clear g0 g1 g2 g3 g4 g5' g6; obtain ⟨⟨g0, g1, g2, g3, g4, g5', g6⟩, -⟩ := seven HBX5; clear hown5 hgrow5 hnil hat HBX5)
            | (go_at_call 12; (with_reducible refine (HS.out.set _ HB5.out).mono ?_); rintro e w6 ⟨v6, rfl, ho6, hb6⟩; have HB6 : Hid (Below w.heap.size w w6) := bel HB5.out hb6; have R6 : Hid (RdN w6 v6 L) := ho6.rd; clear g0 g1 g2 g3 g4 g5' g6; have HX6 : w6.heap[w.heap.size]? = some (.cells #[.int .i64 t.kind, .string t.name, .int .u32 t.num, .int .i64 t.int_, .string t.key, .slice p t.args.length c, .int .i64 t.at_] 29) := (by rw [hb6.block _ (hlt HBX5'.out)]; exact HBX5'.out); obtain ⟨⟨g0, g1, g2, g3, g4, g5', g6⟩, -⟩ := seven HX6; have hc6 := mkeep hb6 hcell; clear HX6 ho6)
            | (go_at_call 13; (with_reducible refine (HS.out.rset _ HB6.out).mono ?_); rintro e w7 ⟨v7, rfl, ho7, hb7⟩; have R7 : Hid (RdN w7 v6 L ∧ RdN w7 v7 L) := ⟨R6.out.below hb7, ho7.rd⟩; have hc7 := mkeep hb7 hc6; clear ho7)
            | (go_at_call 14; (with_reducible refine (same_any _ _ L HLL.out _ R7.out.1 R7.out.2).mono ?_); rintro e w8 ⟨rfl, hb8⟩; have hc8 := mkeep hb8 hc7)
            | (go_at_call 10; refine (sure_any _).mono ?_; rintro e w9 ⟨rfl, hb9⟩))
          go_ret
          exact ⟨rfl, bel (bel (bel HB6.out hb7) hb8) hb9⟩

end Go.Proofs.YtnhpnmilgcjeaaaDoor
