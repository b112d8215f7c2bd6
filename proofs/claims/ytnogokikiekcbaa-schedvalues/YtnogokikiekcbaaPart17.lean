import Derived.Test.YtnogokikiekcbaaPart16
/- The reference's count, Check. -/
namespace Go.Proofs.Ytnogokikiekcbaa
open Go.RowKit
set_option linter.unusedVariables false
set_option linter.unusedSimpArgs false

/-- What the reference's count says. -/
def cntR (d m : Nat) (t : Sc) : Int := match may d m t with
  | none => 4097
  | some k => (m : Int) - k
def RCntA (t : Sc) : Prop := ∀ (d m : Nat) (a c e : Value) (w : World), d ≤ 64 → m ≤ 4096 → sok t → SV w t a c e →
  Calls Try.prog 33 #[.agg #[.int .i64 t.op, a, c, e], .int .i64 (65 - (d : Int)), .int .i64 (m : Int)] w fun e w' => e = .returned (.int .i64 (cntR d m t)) ∧ Below w.heap.size w w'

set_option maxRecDepth 100000 in
set_option maxHeartbeats 8000000 in
theorem rcount_to : ∀ t, RCntA t := by
  apply stree
  intro t ih d m a c e w hd hm hok hS
  have HIH : Hid (∀ k ∈ t.kids, RCntA k) := ih
  have HOK : Hid (sok t) := hok
  have hx := box_heap w (.cells #[.int .i64 t.op, a, c, e] 26)
  have hb0 := bel_alloc w (.cells #[.int .i64 t.op, a, c, e] 26)
  obtain ⟨W, hW⟩ : ∃ W, w.alloc (.cells #[.int .i64 t.op, a, c, e] 26) = W := ⟨_, rfl⟩
  rw [hW] at hx hb0
  have hSW := hS.below hb0
  have HB0 : Hid (Below w.heap.size w W) := hb0
  have HX : Hid (∀ v, Below W.heap.size W v → v.cell? ⟨w.heap.size, 0, none⟩ = some (.int .i64 t.op) ∧ v.cell? ⟨w.heap.size, 1, none⟩ = some a ∧ v.cell? ⟨w.heap.size, 2, none⟩ = some c ∧ v.cell? ⟨w.heap.size, 3, none⟩ = some e) := fun v hv =>
    ⟨bcell (cell_heap hx 0) hv, bcell (cell_heap hx 1) hv, bcell (cell_heap hx 2) hv, bcell (cell_heap hx 3) hv⟩
  obtain ⟨F, hF⟩ : ∃ F, fitsP t = F := ⟨_, rfl⟩
  have HRW : Hid (∀ v, Below W.heap.size W v → Calls Try.prog 65 #[.agg #[.int .i64 t.op, a, c, e]] v fun e w' => e = .returned (.bool F) ∧ Below v.heap.size v w') := fun v hv => by rw [← hF]; exact rrow_any t a c e hok v (hSW.below hv)
  obtain ⟨pk, ck, rfl, hrk⟩ := hSW.kids
  have HK : Hid (t.kids = [] ∨ ∃ b o, pk = some ⟨b, o, none⟩ ∧ SL W b o t.kids) := hrk
  obtain ⟨N, hN⟩ : ∃ N, t.kids.length = N := ⟨_, rfl⟩
  have HN : Hid (t.kids.length = N) := hN
  have hNl : N ≤ 17592186043904 := by rw [← hN]; exact hok.1.2.2.2.2.2
  rw [hN] at HX HRW hW ⊢
  obtain ⟨x0, x1, x2, x3⟩ := HX.out W (bel0 W)
  obtain ⟨D, hD⟩ : ∃ D : Int, 65 - (d : Int) = D := ⟨_, rfl⟩
  rw [hD]
  obtain ⟨Z, hZ⟩ : ∃ Z, cntR d m t = Z := ⟨_, rfl⟩
  have HZ : Hid (cntR d m t = Z) := hZ
  rw [hZ]
  clear hS hSW hx hb0 hrk hN hok ih hZ
  by_cases h1 : d = 0
  · have HR : Hid (4097 = Z) := by show _ = Z; rw [← HZ.out]; unfold cntR; rw [may_zero d m t (.inl h1)]
    have z1 : 64 < D := by omega
    clear HIH HK HZ HRW hF hD h1
    go_enter Try.func33, Try.ntmps33
    go_wp2
    go_ret
    exact ⟨ret_int HR.out, HB0.out⟩
  have z1 : ¬ 64 < D := by omega
  by_cases h2 : m = 0
  · have HR : Hid (4097 = Z) := by show _ = Z; rw [← HZ.out]; unfold cntR; rw [may_zero d m t (.inr (.inl h2))]
    have z2 : (m : Int) < 1 := by omega
    clear HIH HK HZ HRW hF hD h1 h2
    go_enter Try.func33, Try.ntmps33
    go_wp2
    go_ret
    exact ⟨ret_int HR.out, HB0.out⟩
  have z2 : ¬ (m : Int) < 1 := by omega
  have hbW : Below W.heap.size W W := bel0 W
  cases F
  · have HR : Hid (4097 = Z) := by show _ = Z; rw [← HZ.out]; unfold cntR; rw [may_zero d m t (.inr (.inr hF))]
    clear HIH HK HZ hF hD h1 h2
    go_enter Try.func33, Try.ntmps33
    go_wp2_with (go_at_call 65; (with_reducible refine (HRW.out _ hbW).mono ?_); rintro e w1 ⟨rfl, hb1⟩)
    go_ret
    exact ⟨ret_int HR.out, bel HB0.out hb1⟩
  · obtain ⟨d', hd'⟩ : ∃ d', d - 1 = d' := ⟨_, rfl⟩
    obtain ⟨m', hm'⟩ : ∃ m', m - 1 = m' := ⟨_, rfl⟩
    have HR : Hid (Z = match mayL d' m' t.kids with | none => 4097 | some k => (m : Int) - k) := by
      show Z = _
      rw [← HZ.out]
      unfold cntR
      rw [may_go d m t h1 h2 hF, hd', hm']
    have hDD : IntKind.i64.wrap (D + 1) = 65 - (d' : Int) := by rw [IntKind.wrap_i64]; omega
    have hdl : d' ≤ 64 := by omega
    have hmm : m' + 1 = m := by omega
    clear HZ hF hD h1 h2 hd' hm'
    go_enter Try.func33, Try.ntmps33
    go_wp2_with (go_at_call 65; (with_reducible refine (HRW.out _ hbW).mono ?_); rintro e w1 ⟨rfl, hb1⟩)
    clear x0 x1 x2 x3 hbW
    go_loopw [7, 8] (fun nv iv wr => Below W.heap.size W wr ∧ ∃ (j q : Nat), j ≤ N ∧ iv = .int .i64 j ∧ q ≤ m' ∧ nv = .int .i64 ((m : Int) - q) ∧ Hid (mayL d' m' (t.kids.take j) = some q)) (fun _ iv _ => N - (intOf iv).toNat)
    case atStart => exact ⟨hb1, 0, m', Nat.zero_le _, rfl, Nat.le_refl _, by rw [show (m : Int) - (m' : Int) = 1 by omega], (by show _ = _; rw [List.take_zero, mayL_nil])⟩
    case round =>
      obtain ⟨hb, j, q, hj, rfl, hqm, rfl, HS⟩ := hrel
      obtain ⟨x0, x1, x2, x3⟩ := HX.out wr hb
      by_cases hlt0 : j < N
      · have hll : j < t.kids.length := by rw [HN.out]; exact hlt0
        obtain ⟨b1, o1, rfl, hsl⟩ : ∃ b o, pk = some ⟨b, o, none⟩ ∧ SL W b o t.kids := by
          rcases HK.out with h | h
          · rw [h] at hll; exact absurd hll (Nat.not_lt_zero _)
          · exact h
        obtain ⟨a1, a2, a3, y0, y1, y2, y3, hv⟩ := ((SL_get hsl hll).below hb).val
        have hcl := HIH.out t.kids[j] (List.getElem_mem hll) d' q a1 a2 a3 wr hdl (by omega) (sok_kid HOK.out hll) hv
        have hst := mayL_step hll d' m' q HS.out
        obtain ⟨Y, hY⟩ : ∃ Y, t.kids[j] = Y := ⟨_, rfl⟩
        rw [hY] at hcl hst y0
        have HCL : Hid (Calls Try.prog 33 #[.agg #[.int .i64 Y.op, a1, a2, a3], .int .i64 (65 - (d' : Int)), .int .i64 (q : Int)] wr fun e w' => e = .returned (.int .i64 (cntR d' q Y)) ∧ Below wr.heap.size wr w') := hcl
        have w1 : IntKind.i64.wrap ((m : Int) - ((m : Int) - (q : Int))) = (q : Int) := by rw [IntKind.wrap_i64]; omega
        have w1' : (m : Int) - ((m : Int) - (q : Int)) = (q : Int) := by omega
        have i1 : (0 : Int) ≤ (j : Int) := by omega
        have i2 : (j : Int) < (N : Int) := by omega
        have w9 : IntKind.i64.wrap (q : Int) = (q : Int) := by rw [IntKind.wrap_i64]; omega
        cases hM : may d' q Y with
        | none =>
          rw [hM] at hst
          have HX2 : Hid (4097 = Z) := by show _ = Z; rw [HR.out, mayL_stop d' m' hst]
          have hcr : cntR d' q Y = 4097 := by unfold cntR; rw [hM]
          rw [hcr] at HCL
          have w2 : IntKind.i64.wrap ((m : Int) - (q : Int) + 4097) = (m : Int) - (q : Int) + 4097 := by rw [IntKind.wrap_i64]; omega
          have z3 : (m : Int) < (m : Int) - (q : Int) + 4097 := by omega
          clear hcl hst hM HIH HS HR hv hsl hY HK hcr
          go_wp2_with (go_at_call 33; (with_reducible refine HCL.out.mono ?_); rintro e w3 ⟨rfl, hb3⟩)
          go_ret
          exact ⟨ret_int HX2.out, bel HB0.out (bel hb hb3)⟩
        | some k =>
          rw [hM] at hst
          have HNX : Hid (mayL d' m' (t.kids.take (j + 1)) = some k) := hst
          have hkq : k ≤ q := by have := may_le hM; omega
          have hcr : cntR d' q Y = (q : Int) - k := by unfold cntR; rw [hM]
          rw [hcr] at HCL
          have w2 : IntKind.i64.wrap ((m : Int) - (q : Int) + ((q : Int) - (k : Int))) = (m : Int) - (k : Int) := by rw [IntKind.wrap_i64]; omega
          have w2' : (m : Int) - (q : Int) + ((q : Int) - (k : Int)) = (m : Int) - (k : Int) := by omega
          have w3' : IntKind.i64.wrap ((m : Int) - (k : Int)) = (m : Int) - (k : Int) := by rw [IntKind.wrap_i64]; omega
          have z3 : ¬ (m : Int) < (m : Int) - (k : Int) := by omega
          clear hcl hst hM HIH HS HR hv hsl hY HK hcr
          go_wp2_with (go_at_call 33; (with_reducible refine HCL.out.mono ?_); rintro e w3 ⟨rfl, hb3⟩)
          go_roundw
          case rel => exact ⟨bel hb hb3, j + 1, k, by omega, by go_num, by omega, rfl, HNX.out⟩
          case measure => simp [intOf]; omega
      · have hjN : j = N := by omega
        have z9 : ¬ (j : Int) < (N : Int) := by omega
        have HX2 : Hid ((m : Int) - (q : Int) = Z) := by
          show _ = Z
          have h1 := HS.out
          rw [hjN, List.take_of_length_le (by rw [HN.out]; exact Nat.le_refl _)] at h1
          rw [HR.out, h1]
        clear HIH HS HR HK hjN
        go_wp2
        go_ret
        exact ⟨ret_int HX2.out, bel HB0.out hb⟩

set_option maxRecDepth 100000 in
set_option maxHeartbeats 1000000 in
theorem rcheck_any (t : Sc) (a c d : Value) (hok : sok t) (w : World) (hS : SV w t a c d) :
    Calls Try.prog 15 #[.agg #[.int .i64 t.op, a, c, d]] w fun e w' => e = .returned (.int .i64 (if okS t = true then 0 else 1)) ∧ Below w.heap.size w w' := by
  have hbx := box_heap w (.cells #[.int .i64 t.op, a, c, d] 26)
  have hb0 := bel_alloc w (.cells #[.int .i64 t.op, a, c, d] 26)
  obtain ⟨W, hW⟩ : ∃ W, w.alloc (.cells #[.int .i64 t.op, a, c, d] 26) = W := ⟨_, rfl⟩
  rw [hW] at hbx hb0
  have hcl := rcount_to t 64 4096 a c d W (Nat.le_refl _) (Nat.le_refl _) hok (hS.below hb0)
  obtain ⟨C, hC⟩ : ∃ C, cntR 64 4096 t = C := ⟨_, rfl⟩
  rw [hC] at hcl
  have hiff : (okS t = true → ¬ (4096 : Int) < C) ∧ (okS t = false → (4096 : Int) < C) := by
    rw [← hC]
    unfold cntR okS
    cases h : may 64 4096 t with
    | none => exact ⟨(fun h => by cases h), (fun _ => by show (4096 : Int) < 4097; decide)⟩
    | some k => exact ⟨(fun _ => by show ¬ (4096 : Int) < ((4096 : Nat) : Int) - (k : Int); omega), (fun h => by cases h)⟩
  have HW : Hid (Calls Try.prog 33 #[.agg #[.int .i64 t.op, a, c, d], .int .i64 1, .int .i64 4096] W fun e v' => e = .returned (.int .i64 C) ∧ Below W.heap.size W v') := hcl
  have g0 := cell_heap hbx 0
  have g1 := cell_heap hbx 1
  have g2 := cell_heap hbx 2
  have g3 := cell_heap hbx 3
  obtain ⟨K, hK⟩ : ∃ K, okS t = K := ⟨_, rfl⟩
  rw [hK] at hiff ⊢
  clear hcl hC hS hbx hK
  cases K
  · have z := hiff.2 rfl
    clear hiff
    go_enter Try.func15, Try.ntmps15
    go_wp2_with (go_at_call 33; (with_reducible refine HW.out.mono ?_); rintro e w3 ⟨rfl, hb3⟩)
    go_ret
    exact ⟨rfl, bel hb0 hb3⟩
  · have z := hiff.1 rfl
    clear hiff
    go_enter Try.func15, Try.ntmps15
    go_wp2_with (go_at_call 33; (with_reducible refine HW.out.mono ?_); rintro e w3 ⟨rfl, hb3⟩)
    go_ret
    exact ⟨rfl, bel hb0 hb3⟩

end Go.Proofs.Ytnogokikiekcbaa
/- The reference's at: rows as it builds them. -/
namespace Go.Proofs.Ytnogokikiekcbaa
open Go.RowKit
set_option linter.unusedVariables false
set_option linter.unusedSimpArgs false

theorem own_row {w : World} {base : Nat} {e : TypeId} {k : IntKind} {v : Value} {l : List Int} (h : w.ownsRow base e 1 v l.length (l.map (.int k))) : Row w k v l := by
  rcases h.2 with ⟨rfl, h0⟩ | ⟨g, cap, cur, rfl, hb, hg, hc1, hc2, hsz, htk⟩
  · have : l = [] := List.eq_nil_of_length_eq_zero h0
    subst this
    exact ⟨none, 0, rfl, .inl rfl⟩
  · refine ⟨_, _, rfl, .inr ⟨g, 0, rfl, fun i hi => ?_⟩⟩
    have : (cur.toList.take (l.length * 1))[i]? = (l.map (Value.int k))[i]? := by rw [htk]
    rw [List.getElem?_take_of_lt (by omega), List.getElem?_map, List.getElem?_eq_getElem hi] at this
    rw [Nat.zero_add]
    simp [World.cell?, hg]
    simpa using this
/-- What the reference's at says of a schedule. -/
def RAtA (t : Sc) : Prop := ∀ (n : Int) (a c d : Value) (w : World), 0 ≤ n → n ≤ 2147483647 → sok t → allT t → SV w t a c d →
  Calls Try.prog 31 #[.agg #[.int .i64 t.op, a, c, d], .int .i64 n] w fun e w' => e = .returned (.int .i64 (valT t n)) ∧ Below w.heap.size w w'

end Go.Proofs.Ytnogokikiekcbaa
/- The reference's at, rows 1, 7. -/
namespace Go.Proofs.Ytnogokikiekcbaa
open Go.RowKit
set_option linter.unusedVariables false
set_option linter.unusedSimpArgs false

set_option maxRecDepth 100000 in
set_option maxHeartbeats 8000000 in
theorem rat_1 (t : Sc) (hop : t.op = 1) (n : Int) (hn0 : 0 ≤ n) (hn1 : n ≤ 2147483647) (a c d : Value) (hok : sok t) (hNl : t.nums.length ≤ 2147483648) (n0 : Int) (hns : t.nums = [n0]) (w : World) (hS : SV w t a c d) :
    Calls Try.prog 31 #[.agg #[.int .i64 t.op, a, c, d], .int .i64 n] w fun e w' => e = .returned (.int .i64 (n0)) ∧ Below w.heap.size w w' := by
  have HOP : Hid (t.op = 1) := hop
  have hx := box_heap w (.cells #[.int .i64 t.op, a, c, d] 26)
  have hb0 := bel_alloc w (.cells #[.int .i64 t.op, a, c, d] 26)
  obtain ⟨W, hW⟩ : ∃ W, w.alloc (.cells #[.int .i64 t.op, a, c, d] 26) = W := ⟨_, rfl⟩
  rw [hW] at hx hb0
  have hSW := hS.below hb0
  have HB0 : Hid (Below w.heap.size w W) := hb0
  have HX : Hid (∀ v, Below W.heap.size W v → v.cell? ⟨w.heap.size, 0, none⟩ = some (.int .i64 t.op) ∧ v.cell? ⟨w.heap.size, 1, none⟩ = some a ∧ v.cell? ⟨w.heap.size, 2, none⟩ = some c ∧ v.cell? ⟨w.heap.size, 3, none⟩ = some d) := fun v hv =>
    ⟨bcell (cell_heap hx 0) hv, bcell (cell_heap hx 1) hv, bcell (cell_heap hx 2) hv, bcell (cell_heap hx 3) hv⟩
  obtain ⟨pn, cn, rfl, hrn⟩ := hSW.nums
  have HRN : Hid (t.nums = [] ∨ ∃ b o, pn = some ⟨b, o, none⟩ ∧ ∀ i (h : i < t.nums.length), W.cell? ⟨b, o + i, none⟩ = some (.int .u32 t.nums[i])) := hrn
  have HSI : Hid (Row W .i64 c t.ints) := hSW.ints
  have HSK : Hid (SK W d t.kids) := hSW.kids
  have HPT : Hid (∀ x ∈ t.nums, Pat x) := fun x hx => hok.1.2.1 x hx
  obtain ⟨ti, hi2, hz2a, hz2b, hz2c⟩ := info_parts info_I8
  obtain ⟨N, hN⟩ : ∃ N, t.nums.length = N := ⟨_, rfl⟩
  have HN : Hid (t.nums.length = N) := hN
  rw [hN] at HX hNl hW ⊢
  clear hS hSW hx hb0 hrn hN hop hok
  go_enter Try.func31, Try.ntmps31
  go_wp2
  go_loopw [5, 6] (fun lv iv wr => Below W.heap.size W wr ∧ ∃ (j : Nat) (ov : Value), ov = lv ∧ j ≤ N ∧ iv = .int .i64 j ∧ Hid (wr.ownsRow W.heap.size 3 1 ov j ((t.nums.take j).map (.int .i64)))) (fun _ iv _ => N - (intOf iv).toNat)
  case atStart => exact ⟨bel0 W, 0, _, rfl, Nat.zero_le _, rfl, (by show World.ownsRow _ _ _ _ _ _ _; rw [List.take_zero]; exact World.ownsRow_nil W _ _ 1)⟩
  case round =>
    obtain ⟨hb, j, ov, rfl, hj, rfl, HO⟩ := hrel
    obtain ⟨x0, x1, x2, x3⟩ := HX.out wr hb
    by_cases hlt0 : j < N
    · have hll : j < t.nums.length := by rw [HN.out]; exact hlt0
      obtain ⟨b, o, rfl, c1⟩ : ∃ b o, pn = some ⟨b, o, none⟩ ∧ wr.cell? ⟨b, o + j, none⟩ = some (.int .u32 t.nums[j]) := by
        rcases HRN.out with h | ⟨b, o, e, h⟩
        · rw [h] at hll; exact absurd hll (Nat.not_lt_zero _)
        · exact ⟨b, o, e, bcell (h j hll) hb⟩
      have hpx : Pat t.nums[j] := HPT.out _ (List.getElem_mem hll)
      have HTK : Hid ((t.nums.take (j + 1)).map (Value.int .i64) = (t.nums.take j).map (Value.int .i64) ++ [.int .i64 t.nums[j]]) := by show _ = _; rw [List.take_succ_eq_append_getElem hll, List.map_append]; rfl
      obtain ⟨y, hy⟩ : ∃ y, t.nums[j] = y := ⟨_, rfl⟩
      rw [hy] at c1 hpx HTK
      have ey : IntKind.i64.wrap y = y := by have := hpx.1; have := hpx.2; rw [IntKind.wrap_i64]; omega
      have i1 : (0 : Int) ≤ (j : Int) := by omega
      have i2' : (j : Int) < (N : Int) := by omega
      have hsz := hb.size
      clear hy HRN HSI HSK hpx
      go_wp2_with (at_builtin; refine wpList_append_lies _ rfl _ _ 23 rfl W.heap.size 3 ti _ 1 8 Try.underlying23 hi2 hz2a hz2b hz2c rfl (by decide) ov j ((t.nums.take j).map (Value.int .i64)) rfl (World.ownsRow.alloc HO.out _) ⟨wr.heap.size, 0, none⟩ 1 1 [.int .i64 y] rfl rfl (World.news_of_block (cs := #[.int .i64 y]) (t := 3) (fr := (0, 0)) (box_heap wr _)) (by simp [Value.oneCell']) (by decide) (by unfold maxLen; omega) (by omega) (by simp; omega) (wr.heap.size + 1) (by simp) ?_; intro g cap w4 hown4 hgrow hat hlt4)
      have HB4 : Hid (Below W.heap.size W w4) := Below.grown (bel hb (bel_alloc wr (.cells #[.int .i64 y] 3))) hgrow (by simp; omega) (fun k hk => (HO.out.lt k hk).1)
      have HO4 : Hid (w4.ownsRow W.heap.size 3 1 (.slice (some ⟨g, 0, none⟩) (j + 1) cap) (j + 1) ((t.nums.take (j + 1)).map (Value.int .i64))) := by show World.ownsRow _ _ _ _ _ _ _; rw [HTK.out]; exact hown4
      clear hown4 hgrow hat hlt4
      go_wp2
      go_roundw
      case rel => exact ⟨HB4.out, j + 1, _, rfl, by omega, by go_num, HO4.out⟩
      case measure => simp [intOf]; omega
    · have hjN : j = N := by omega
      have hrow : Row wr .i64 ov t.nums := by
        have h1 := HO.out
        rw [hjN] at h1
        rw [List.take_of_length_le (by rw [HN.out]; exact Nat.le_refl _), ← HN.out] at h1
        exact own_row h1
      have z9 : ¬ (j : Int) < (N : Int) := by omega
      have hop := HOP.out
      rw [hop] at x0 HX
      have HSIr : Hid (Row wr .i64 c t.ints) := HSI.out.below hb
      have HSKr : Hid (SK wr d t.kids) := HSK.out.below hb
      clear HO hlt0 hjN HRN HSI HSK hop HOP HPT hi2 hz2a hz2b hz2c
      obtain ⟨pl, cl, hcbl, hrbl⟩ := hrow
      rw [hns] at hcbl hrbl
      obtain ⟨bl, ol, rfl, hsbl⟩ : ∃ b o, pl = some ⟨b, o, none⟩ ∧ wr.cell? ⟨b, o, none⟩ = some (.int .i64 n0) := by
        rcases hrbl with h | ⟨b, o, e, h⟩
        · cases h
        · exact ⟨b, o, e, h 0 (by simp)⟩
      have dn0 := hsbl
      subst hcbl
      have HC : Hid (∀ v, Below wr.heap.size wr v → True ∧ v.cell? ⟨bl, ol, none⟩ = some (.int .i64 n0)) := fun v hv => ⟨trivial, bcell dn0 hv⟩
      clear x2 x3 dn0
      have HB : Below wr.heap.size wr wr := bel0 wr
      obtain ⟨-, dn0⟩ := HC.out wr HB
      all_goals go_wp2
      all_goals go_ret
      all_goals exact ⟨rfl, bel HB0.out (bel hb HB)⟩

set_option maxRecDepth 100000 in
set_option maxHeartbeats 8000000 in
theorem rat_7 (t : Sc) (hop : t.op = 7) (n : Int) (hn0 : 0 ≤ n) (hn1 : n ≤ 2147483647) (a c d : Value) (hok : sok t) (hNl : t.nums.length ≤ 2147483648) (n0 i0 : Int) (hns : t.nums = [n0]) (his : t.ints = [i0]) (p0 : Pat n0) (hs : 1 ≤ i0 ∧ i0 ≤ 2147483647) (w : World) (hS : SV w t a c d) :
    Calls Try.prog 31 #[.agg #[.int .i64 t.op, a, c, d], .int .i64 n] w fun e w' => e = .returned (.int .i64 (invV n0 i0 n)) ∧ Below w.heap.size w w' := by
  have HOP : Hid (t.op = 7) := hop
  have hx := box_heap w (.cells #[.int .i64 t.op, a, c, d] 26)
  have hb0 := bel_alloc w (.cells #[.int .i64 t.op, a, c, d] 26)
  obtain ⟨W, hW⟩ : ∃ W, w.alloc (.cells #[.int .i64 t.op, a, c, d] 26) = W := ⟨_, rfl⟩
  rw [hW] at hx hb0
  have hSW := hS.below hb0
  have HB0 : Hid (Below w.heap.size w W) := hb0
  have HX : Hid (∀ v, Below W.heap.size W v → v.cell? ⟨w.heap.size, 0, none⟩ = some (.int .i64 t.op) ∧ v.cell? ⟨w.heap.size, 1, none⟩ = some a ∧ v.cell? ⟨w.heap.size, 2, none⟩ = some c ∧ v.cell? ⟨w.heap.size, 3, none⟩ = some d) := fun v hv =>
    ⟨bcell (cell_heap hx 0) hv, bcell (cell_heap hx 1) hv, bcell (cell_heap hx 2) hv, bcell (cell_heap hx 3) hv⟩
  obtain ⟨pn, cn, rfl, hrn⟩ := hSW.nums
  have HRN : Hid (t.nums = [] ∨ ∃ b o, pn = some ⟨b, o, none⟩ ∧ ∀ i (h : i < t.nums.length), W.cell? ⟨b, o + i, none⟩ = some (.int .u32 t.nums[i])) := hrn
  have HSI : Hid (Row W .i64 c t.ints) := hSW.ints
  have HSK : Hid (SK W d t.kids) := hSW.kids
  have HPT : Hid (∀ x ∈ t.nums, Pat x) := fun x hx => hok.1.2.1 x hx
  obtain ⟨ti, hi2, hz2a, hz2b, hz2c⟩ := info_parts info_I8
  obtain ⟨N, hN⟩ : ∃ N, t.nums.length = N := ⟨_, rfl⟩
  have HN : Hid (t.nums.length = N) := hN
  rw [hN] at HX hNl hW ⊢
  obtain ⟨M, hM⟩ : ∃ M, max n i0 = M := ⟨_, rfl⟩
  have hMb : 0 ≤ M ∧ M ≤ 2147483647 := by omega
  have HV : Hid (invV n0 i0 n = fmul n0 (fsqrt (fdiv (ffrom i0) (ffrom M)))) := by show _ = _; unfold invV; rw [hM]; rfl
  rw [HV.out]
  clear HV
  clear hS hSW hx hb0 hrn hN hop hok
  go_enter Try.func31, Try.ntmps31
  go_wp2
  go_loopw [5, 6] (fun lv iv wr => Below W.heap.size W wr ∧ ∃ (j : Nat) (ov : Value), ov = lv ∧ j ≤ N ∧ iv = .int .i64 j ∧ Hid (wr.ownsRow W.heap.size 3 1 ov j ((t.nums.take j).map (.int .i64)))) (fun _ iv _ => N - (intOf iv).toNat)
  case atStart => exact ⟨bel0 W, 0, _, rfl, Nat.zero_le _, rfl, (by show World.ownsRow _ _ _ _ _ _ _; rw [List.take_zero]; exact World.ownsRow_nil W _ _ 1)⟩
  case round =>
    obtain ⟨hb, j, ov, rfl, hj, rfl, HO⟩ := hrel
    obtain ⟨x0, x1, x2, x3⟩ := HX.out wr hb
    by_cases hlt0 : j < N
    · have hll : j < t.nums.length := by rw [HN.out]; exact hlt0
      obtain ⟨b, o, rfl, c1⟩ : ∃ b o, pn = some ⟨b, o, none⟩ ∧ wr.cell? ⟨b, o + j, none⟩ = some (.int .u32 t.nums[j]) := by
        rcases HRN.out with h | ⟨b, o, e, h⟩
        · rw [h] at hll; exact absurd hll (Nat.not_lt_zero _)
        · exact ⟨b, o, e, bcell (h j hll) hb⟩
      have hpx : Pat t.nums[j] := HPT.out _ (List.getElem_mem hll)
      have HTK : Hid ((t.nums.take (j + 1)).map (Value.int .i64) = (t.nums.take j).map (Value.int .i64) ++ [.int .i64 t.nums[j]]) := by show _ = _; rw [List.take_succ_eq_append_getElem hll, List.map_append]; rfl
      obtain ⟨y, hy⟩ : ∃ y, t.nums[j] = y := ⟨_, rfl⟩
      rw [hy] at c1 hpx HTK
      have ey : IntKind.i64.wrap y = y := by have := hpx.1; have := hpx.2; rw [IntKind.wrap_i64]; omega
      have i1 : (0 : Int) ≤ (j : Int) := by omega
      have i2' : (j : Int) < (N : Int) := by omega
      have hsz := hb.size
      clear hy HRN HSI HSK hpx
      go_wp2_with (at_builtin; refine wpList_append_lies _ rfl _ _ 23 rfl W.heap.size 3 ti _ 1 8 Try.underlying23 hi2 hz2a hz2b hz2c rfl (by decide) ov j ((t.nums.take j).map (Value.int .i64)) rfl (World.ownsRow.alloc HO.out _) ⟨wr.heap.size, 0, none⟩ 1 1 [.int .i64 y] rfl rfl (World.news_of_block (cs := #[.int .i64 y]) (t := 3) (fr := (0, 0)) (box_heap wr _)) (by simp [Value.oneCell']) (by decide) (by unfold maxLen; omega) (by omega) (by simp; omega) (wr.heap.size + 1) (by simp) ?_; intro g cap w4 hown4 hgrow hat hlt4)
      have HB4 : Hid (Below W.heap.size W w4) := Below.grown (bel hb (bel_alloc wr (.cells #[.int .i64 y] 3))) hgrow (by simp; omega) (fun k hk => (HO.out.lt k hk).1)
      have HO4 : Hid (w4.ownsRow W.heap.size 3 1 (.slice (some ⟨g, 0, none⟩) (j + 1) cap) (j + 1) ((t.nums.take (j + 1)).map (Value.int .i64))) := by show World.ownsRow _ _ _ _ _ _ _; rw [HTK.out]; exact hown4
      clear hown4 hgrow hat hlt4
      go_wp2
      go_roundw
      case rel => exact ⟨HB4.out, j + 1, _, rfl, by omega, by go_num, HO4.out⟩
      case measure => simp [intOf]; omega
    · have hjN : j = N := by omega
      have hrow : Row wr .i64 ov t.nums := by
        have h1 := HO.out
        rw [hjN] at h1
        rw [List.take_of_length_le (by rw [HN.out]; exact Nat.le_refl _), ← HN.out] at h1
        exact own_row h1
      have z9 : ¬ (j : Int) < (N : Int) := by omega
      have hop := HOP.out
      rw [hop] at x0 HX
      have HSIr : Hid (Row wr .i64 c t.ints) := HSI.out.below hb
      have HSKr : Hid (SK wr d t.kids) := HSK.out.below hb
      clear HO hlt0 hjN HRN HSI HSK hop HOP HPT hi2 hz2a hz2b hz2c
      obtain ⟨pl, cl, hcbl, hrbl⟩ := hrow
      rw [hns] at hcbl hrbl
      obtain ⟨bl, ol, rfl, hsbl⟩ : ∃ b o, pl = some ⟨b, o, none⟩ ∧ wr.cell? ⟨b, o, none⟩ = some (.int .i64 n0) := by
        rcases hrbl with h | ⟨b, o, e, h⟩
        · cases h
        · exact ⟨b, o, e, h 0 (by simp)⟩
      have dn0 := hsbl
      subst hcbl
      obtain ⟨pi, ci, hcbi, hrbi⟩ := HSIr.out
      rw [his] at hcbi hrbi
      obtain ⟨bi, oi, rfl, hsbi⟩ : ∃ b o, pi = some ⟨b, o, none⟩ ∧ wr.cell? ⟨b, o, none⟩ = some (.int .i64 i0) := by
        rcases hrbi with h | ⟨b, o, e, h⟩
        · cases h
        · exact ⟨b, o, e, h 0 (by simp)⟩
      have di0 := hsbi
      subst hcbi
      have HC : Hid (∀ v, Below wr.heap.size wr v → v.cell? ⟨w.heap.size, 2, none⟩ = some (.slice (some ⟨bi, oi, none⟩) 1 ci) ∧ v.cell? ⟨bl, ol, none⟩ = some (.int .i64 n0) ∧ v.cell? ⟨bi, oi, none⟩ = some (.int .i64 i0)) := fun v hv => ⟨bcell x2 hv, bcell dn0 hv, bcell di0 hv⟩
      clear x2 x3 dn0 di0
      have HB : Below wr.heap.size wr wr := bel0 wr
      obtain ⟨e2, dn0, di0⟩ := HC.out wr HB
      go_wp2
      all_goals go_region_held3 (fun w' => w'.cell? ⟨w.heap.size, 2, none⟩ = some (.slice (some ⟨bi, oi, none⟩) 1 ci) ∧ w'.cell? ⟨bl, ol, none⟩ = some (.int .i64 n0) ∧ w'.cell? ⟨bi, oi, none⟩ = some (.int .i64 i0)) (go_keep) (first | (go_at_call 61; refine (r_from (by constructor <;> omega) _).mono ?_; rintro e wx ⟨rfl, hbx⟩; have HB : Below wr.heap.size wr wx := (by first | exact bel HB hbx | exact bel (bel HB (bel_d _)) hbx | exact bel (bel (bel HB (bel_d _)) (bel_d _)) hbx); obtain ⟨e2, dn0, di0⟩ := HC.out wx HB) | (go_at_call 60; refine (r_div (by with_reducible first | assumption | exact pat_add _ _ | exact pat_sub _ _ | exact pat_mul _ _ | exact pat_div _ _ | exact pat_sqrt _ | exact pat_from _ | exact pat_rat _ _ | exact pat_qrt _ | exact pat_qrN _ _ | exact pat_0 | exact pat_1 | exact pat_h) (by with_reducible first | assumption | exact pat_add _ _ | exact pat_sub _ _ | exact pat_mul _ _ | exact pat_div _ _ | exact pat_sqrt _ | exact pat_from _ | exact pat_rat _ _ | exact pat_qrt _ | exact pat_qrN _ _ | exact pat_0 | exact pat_1 | exact pat_h) _).mono ?_; rintro e wx ⟨rfl, hbx⟩; have HB : Below wr.heap.size wr wx := (by first | exact bel HB hbx | exact bel (bel HB (bel_d _)) hbx | exact bel (bel (bel HB (bel_d _)) (bel_d _)) hbx); obtain ⟨e2, dn0, di0⟩ := HC.out wx HB))
      all_goals go_wp2
      all_goals go_region_held3 (fun w' => w'.cell? ⟨w.heap.size, 2, none⟩ = some (.slice (some ⟨bi, oi, none⟩) 1 ci) ∧ w'.cell? ⟨bl, ol, none⟩ = some (.int .i64 n0) ∧ w'.cell? ⟨bi, oi, none⟩ = some (.int .i64 i0)) (go_keep) (first | (go_at_call 63; refine (r_sqrt (by with_reducible first | assumption | exact pat_add _ _ | exact pat_sub _ _ | exact pat_mul _ _ | exact pat_div _ _ | exact pat_sqrt _ | exact pat_from _ | exact pat_rat _ _ | exact pat_qrt _ | exact pat_qrN _ _ | exact pat_0 | exact pat_1 | exact pat_h) _).mono ?_; rintro e wx ⟨rfl, hbx⟩; have HB : Below wr.heap.size wr wx := (by first | exact bel HB hbx | exact bel (bel HB (bel_d _)) hbx | exact bel (bel (bel HB (bel_d _)) (bel_d _)) hbx); obtain ⟨e2, dn0, di0⟩ := HC.out wx HB) | (go_at_call 26; refine (r_mul (by with_reducible first | assumption | exact pat_add _ _ | exact pat_sub _ _ | exact pat_mul _ _ | exact pat_div _ _ | exact pat_sqrt _ | exact pat_from _ | exact pat_rat _ _ | exact pat_qrt _ | exact pat_qrN _ _ | exact pat_0 | exact pat_1 | exact pat_h) (by with_reducible first | assumption | exact pat_add _ _ | exact pat_sub _ _ | exact pat_mul _ _ | exact pat_div _ _ | exact pat_sqrt _ | exact pat_from _ | exact pat_rat _ _ | exact pat_qrt _ | exact pat_qrN _ _ | exact pat_0 | exact pat_1 | exact pat_h) _).mono ?_; rintro e wx ⟨rfl, hbx⟩; have HB : Below wr.heap.size wr wx := (by first | exact bel HB hbx | exact bel (bel HB (bel_d _)) hbx | exact bel (bel (bel HB (bel_d _)) (bel_d _)) hbx); obtain ⟨e2, dn0, di0⟩ := HC.out wx HB))
      all_goals go_wp2
      all_goals go_ret
      all_goals exact ⟨rfl, bel HB0.out (bel hb HB)⟩

end Go.Proofs.Ytnogokikiekcbaa
/- The reference's at, rows 2. -/
namespace Go.Proofs.Ytnogokikiekcbaa
open Go.RowKit
set_option linter.unusedVariables false
set_option linter.unusedSimpArgs false

set_option maxRecDepth 100000 in
set_option maxHeartbeats 8000000 in
theorem rat_2 (t : Sc) (hop : t.op = 2) (n : Int) (hn0 : 0 ≤ n) (hn1 : n ≤ 2147483647) (a c d : Value) (hok : sok t) (hNl : t.nums.length ≤ 2147483648) (n0 n1 i0 i1 i2 : Int) (hns : t.nums = [n0, n1]) (his : t.ints = [i0, i1, i2]) (p0 : Pat n0) (p1 : Pat n1) (hq : 1 ≤ i0 ∧ i0 ≤ 1024) (hs : 1 ≤ i1 ∧ i1 ≤ 2147483647) (hg : 0 ≤ i2 ∧ i2 ≤ 2147483647) (w : World) (hS : SV w t a c d) :
    Calls Try.prog 31 #[.agg #[.int .i64 t.op, a, c, d], .int .i64 n] w fun e w' => e = .returned (.int .i64 (polyV n0 n1 i0 i1 i2 n)) ∧ Below w.heap.size w w' := by
  have HOP : Hid (t.op = 2) := hop
  have hx := box_heap w (.cells #[.int .i64 t.op, a, c, d] 26)
  have hb0 := bel_alloc w (.cells #[.int .i64 t.op, a, c, d] 26)
  obtain ⟨W, hW⟩ : ∃ W, w.alloc (.cells #[.int .i64 t.op, a, c, d] 26) = W := ⟨_, rfl⟩
  rw [hW] at hx hb0
  have hSW := hS.below hb0
  have HB0 : Hid (Below w.heap.size w W) := hb0
  have HX : Hid (∀ v, Below W.heap.size W v → v.cell? ⟨w.heap.size, 0, none⟩ = some (.int .i64 t.op) ∧ v.cell? ⟨w.heap.size, 1, none⟩ = some a ∧ v.cell? ⟨w.heap.size, 2, none⟩ = some c ∧ v.cell? ⟨w.heap.size, 3, none⟩ = some d) := fun v hv =>
    ⟨bcell (cell_heap hx 0) hv, bcell (cell_heap hx 1) hv, bcell (cell_heap hx 2) hv, bcell (cell_heap hx 3) hv⟩
  obtain ⟨pn, cn, rfl, hrn⟩ := hSW.nums
  have HRN : Hid (t.nums = [] ∨ ∃ b o, pn = some ⟨b, o, none⟩ ∧ ∀ i (h : i < t.nums.length), W.cell? ⟨b, o + i, none⟩ = some (.int .u32 t.nums[i])) := hrn
  have HSI : Hid (Row W .i64 c t.ints) := hSW.ints
  have HSK : Hid (SK W d t.kids) := hSW.kids
  have HPT : Hid (∀ x ∈ t.nums, Pat x) := fun x hx => hok.1.2.1 x hx
  obtain ⟨ti, hi2, hz2a, hz2b, hz2c⟩ := info_parts info_I8
  obtain ⟨N, hN⟩ : ∃ N, t.nums.length = N := ⟨_, rfl⟩
  have HN : Hid (t.nums.length = N) := hN
  rw [hN] at HX hNl hW ⊢
  have w1 : IntKind.i64.wrap (n - i2) = n - i2 := by rw [IntKind.wrap_i64]; omega
  obtain ⟨M, hM⟩ : ∃ M, min (max (n - i2) 0) i1 = M := ⟨_, rfl⟩
  have hMb : 0 ≤ M ∧ M ≤ 2147483647 := by omega
  have HV : Hid (polyV n0 n1 i0 i1 i2 n = fadd (fmul (fsub n0 n1) (fpow (fsub 1065353216 (rat M i1)) i0)) n1) := by show _ = _; unfold polyV; rw [hM]
  rw [HV.out]
  clear HV
  have hpw := pat_pow i0 (pat_sub 1065353216 (rat M i1))
  unfold rat at hpw ⊢
  clear hS hSW hx hb0 hrn hN hop hok
  go_enter Try.func31, Try.ntmps31
  go_wp2
  go_loopw [5, 6] (fun lv iv wr => Below W.heap.size W wr ∧ ∃ (j : Nat) (ov : Value), ov = lv ∧ j ≤ N ∧ iv = .int .i64 j ∧ Hid (wr.ownsRow W.heap.size 3 1 ov j ((t.nums.take j).map (.int .i64)))) (fun _ iv _ => N - (intOf iv).toNat)
  case atStart => exact ⟨bel0 W, 0, _, rfl, Nat.zero_le _, rfl, (by show World.ownsRow _ _ _ _ _ _ _; rw [List.take_zero]; exact World.ownsRow_nil W _ _ 1)⟩
  case round =>
    obtain ⟨hb, j, ov, rfl, hj, rfl, HO⟩ := hrel
    obtain ⟨x0, x1, x2, x3⟩ := HX.out wr hb
    by_cases hlt0 : j < N
    · have hll : j < t.nums.length := by rw [HN.out]; exact hlt0
      obtain ⟨b, o, rfl, c1⟩ : ∃ b o, pn = some ⟨b, o, none⟩ ∧ wr.cell? ⟨b, o + j, none⟩ = some (.int .u32 t.nums[j]) := by
        rcases HRN.out with h | ⟨b, o, e, h⟩
        · rw [h] at hll; exact absurd hll (Nat.not_lt_zero _)
        · exact ⟨b, o, e, bcell (h j hll) hb⟩
      have hpx : Pat t.nums[j] := HPT.out _ (List.getElem_mem hll)
      have HTK : Hid ((t.nums.take (j + 1)).map (Value.int .i64) = (t.nums.take j).map (Value.int .i64) ++ [.int .i64 t.nums[j]]) := by show _ = _; rw [List.take_succ_eq_append_getElem hll, List.map_append]; rfl
      obtain ⟨y, hy⟩ : ∃ y, t.nums[j] = y := ⟨_, rfl⟩
      rw [hy] at c1 hpx HTK
      have ey : IntKind.i64.wrap y = y := by have := hpx.1; have := hpx.2; rw [IntKind.wrap_i64]; omega
      have i1 : (0 : Int) ≤ (j : Int) := by omega
      have i2' : (j : Int) < (N : Int) := by omega
      have hsz := hb.size
      clear hy HRN HSI HSK hpx
      go_wp2_with (at_builtin; refine wpList_append_lies _ rfl _ _ 23 rfl W.heap.size 3 ti _ 1 8 Try.underlying23 hi2 hz2a hz2b hz2c rfl (by decide) ov j ((t.nums.take j).map (Value.int .i64)) rfl (World.ownsRow.alloc HO.out _) ⟨wr.heap.size, 0, none⟩ 1 1 [.int .i64 y] rfl rfl (World.news_of_block (cs := #[.int .i64 y]) (t := 3) (fr := (0, 0)) (box_heap wr _)) (by simp [Value.oneCell']) (by decide) (by unfold maxLen; omega) (by omega) (by simp; omega) (wr.heap.size + 1) (by simp) ?_; intro g cap w4 hown4 hgrow hat hlt4)
      have HB4 : Hid (Below W.heap.size W w4) := Below.grown (bel hb (bel_alloc wr (.cells #[.int .i64 y] 3))) hgrow (by simp; omega) (fun k hk => (HO.out.lt k hk).1)
      have HO4 : Hid (w4.ownsRow W.heap.size 3 1 (.slice (some ⟨g, 0, none⟩) (j + 1) cap) (j + 1) ((t.nums.take (j + 1)).map (Value.int .i64))) := by show World.ownsRow _ _ _ _ _ _ _; rw [HTK.out]; exact hown4
      clear hown4 hgrow hat hlt4
      go_wp2
      go_roundw
      case rel => exact ⟨HB4.out, j + 1, _, rfl, by omega, by go_num, HO4.out⟩
      case measure => simp [intOf]; omega
    · have hjN : j = N := by omega
      have hrow : Row wr .i64 ov t.nums := by
        have h1 := HO.out
        rw [hjN] at h1
        rw [List.take_of_length_le (by rw [HN.out]; exact Nat.le_refl _), ← HN.out] at h1
        exact own_row h1
      have z9 : ¬ (j : Int) < (N : Int) := by omega
      have hop := HOP.out
      rw [hop] at x0 HX
      have HSIr : Hid (Row wr .i64 c t.ints) := HSI.out.below hb
      have HSKr : Hid (SK wr d t.kids) := HSK.out.below hb
      clear HO hlt0 hjN HRN HSI HSK hop HOP HPT hi2 hz2a hz2b hz2c
      obtain ⟨pl, cl, hcbl, hrbl⟩ := hrow
      rw [hns] at hcbl hrbl
      obtain ⟨bl, ol, rfl, hsbl⟩ : ∃ b o, pl = some ⟨b, o, none⟩ ∧ wr.cell? ⟨b, o, none⟩ = some (.int .i64 n0) ∧ wr.cell? ⟨b, o + 1, none⟩ = some (.int .i64 n1) := by
        rcases hrbl with h | ⟨b, o, e, h⟩
        · cases h
        · exact ⟨b, o, e, h 0 (by simp), h 1 (by simp)⟩
      obtain ⟨dn0, dn1⟩ := hsbl
      subst hcbl
      obtain ⟨pi, ci, hcbi, hrbi⟩ := HSIr.out
      rw [his] at hcbi hrbi
      obtain ⟨bi, oi, rfl, hsbi⟩ : ∃ b o, pi = some ⟨b, o, none⟩ ∧ wr.cell? ⟨b, o, none⟩ = some (.int .i64 i0) ∧ wr.cell? ⟨b, o + 1, none⟩ = some (.int .i64 i1) ∧ wr.cell? ⟨b, o + 2, none⟩ = some (.int .i64 i2) := by
        rcases hrbi with h | ⟨b, o, e, h⟩
        · cases h
        · exact ⟨b, o, e, h 0 (by simp), h 1 (by simp), h 2 (by simp)⟩
      obtain ⟨di0, di1, di2⟩ := hsbi
      subst hcbi
      have HC : Hid (∀ v, Below wr.heap.size wr v → v.cell? ⟨w.heap.size, 2, none⟩ = some (.slice (some ⟨bi, oi, none⟩) 3 ci) ∧ v.cell? ⟨bl, ol, none⟩ = some (.int .i64 n0) ∧ v.cell? ⟨bl, ol + 1, none⟩ = some (.int .i64 n1) ∧ v.cell? ⟨bi, oi, none⟩ = some (.int .i64 i0) ∧ v.cell? ⟨bi, oi + 1, none⟩ = some (.int .i64 i1) ∧ v.cell? ⟨bi, oi + 2, none⟩ = some (.int .i64 i2)) := fun v hv => ⟨bcell x2 hv, bcell dn0 hv, bcell dn1 hv, bcell di0 hv, bcell di1 hv, bcell di2 hv⟩
      clear x2 x3 dn0 dn1 di0 di1 di2
      have HB : Below wr.heap.size wr wr := bel0 wr
      obtain ⟨e2, dn0, dn1, di0, di1, di2⟩ := HC.out wr HB
      go_wp2
      all_goals go_region_held3 (fun w' => w'.cell? ⟨w.heap.size, 2, none⟩ = some (.slice (some ⟨bi, oi, none⟩) 3 ci) ∧ w'.cell? ⟨bl, ol, none⟩ = some (.int .i64 n0) ∧ w'.cell? ⟨bl, ol + 1, none⟩ = some (.int .i64 n1) ∧ w'.cell? ⟨bi, oi, none⟩ = some (.int .i64 i0) ∧ w'.cell? ⟨bi, oi + 1, none⟩ = some (.int .i64 i1) ∧ w'.cell? ⟨bi, oi + 2, none⟩ = some (.int .i64 i2)) (go_keep) (fail)
      all_goals clear HB
      all_goals have HB : Below wr.heap.size wr wr.drew := bel_d wr
      all_goals obtain ⟨e2, dn0, dn1, di0, di1, di2⟩ := HC.out wr.drew HB
      all_goals go_wp2
      all_goals go_region_held3 (fun w' => w'.cell? ⟨w.heap.size, 2, none⟩ = some (.slice (some ⟨bi, oi, none⟩) 3 ci) ∧ w'.cell? ⟨bl, ol, none⟩ = some (.int .i64 n0) ∧ w'.cell? ⟨bl, ol + 1, none⟩ = some (.int .i64 n1) ∧ w'.cell? ⟨bi, oi, none⟩ = some (.int .i64 i0) ∧ w'.cell? ⟨bi, oi + 1, none⟩ = some (.int .i64 i1) ∧ w'.cell? ⟨bi, oi + 2, none⟩ = some (.int .i64 i2)) (go_keep) (first | (go_at_call 61; refine (r_from (by constructor <;> omega) _).mono ?_; rintro e wx ⟨rfl, hbx⟩; have HB : Below wr.heap.size wr wx := (by first | exact bel HB hbx | exact bel (bel HB (bel_d _)) hbx | exact bel (bel (bel HB (bel_d _)) (bel_d _)) hbx); obtain ⟨e2, dn0, dn1, di0, di1, di2⟩ := HC.out wx HB) | (go_at_call 60; refine (r_div (by with_reducible first | assumption | exact pat_add _ _ | exact pat_sub _ _ | exact pat_mul _ _ | exact pat_div _ _ | exact pat_sqrt _ | exact pat_from _ | exact pat_rat _ _ | exact pat_qrt _ | exact pat_qrN _ _ | exact pat_0 | exact pat_1 | exact pat_h) (by with_reducible first | assumption | exact pat_add _ _ | exact pat_sub _ _ | exact pat_mul _ _ | exact pat_div _ _ | exact pat_sqrt _ | exact pat_from _ | exact pat_rat _ _ | exact pat_qrt _ | exact pat_qrN _ _ | exact pat_0 | exact pat_1 | exact pat_h) _).mono ?_; rintro e wx ⟨rfl, hbx⟩; have HB : Below wr.heap.size wr wx := (by first | exact bel HB hbx | exact bel (bel HB (bel_d _)) hbx | exact bel (bel (bel HB (bel_d _)) (bel_d _)) hbx); obtain ⟨e2, dn0, dn1, di0, di1, di2⟩ := HC.out wx HB) | (go_at_call 21; refine (r_sub (by with_reducible first | assumption | exact pat_add _ _ | exact pat_sub _ _ | exact pat_mul _ _ | exact pat_div _ _ | exact pat_sqrt _ | exact pat_from _ | exact pat_rat _ _ | exact pat_qrt _ | exact pat_qrN _ _ | exact pat_0 | exact pat_1 | exact pat_h) (by with_reducible first | assumption | exact pat_add _ _ | exact pat_sub _ _ | exact pat_mul _ _ | exact pat_div _ _ | exact pat_sqrt _ | exact pat_from _ | exact pat_rat _ _ | exact pat_qrt _ | exact pat_qrN _ _ | exact pat_0 | exact pat_1 | exact pat_h) _).mono ?_; rintro e wx ⟨rfl, hbx⟩; have HB : Below wr.heap.size wr wx := (by first | exact bel HB hbx | exact bel (bel HB (bel_d _)) hbx | exact bel (bel (bel HB (bel_d _)) (bel_d _)) hbx); obtain ⟨e2, dn0, dn1, di0, di1, di2⟩ := HC.out wx HB))
      all_goals go_wp2
      all_goals go_region_held3 (fun w' => w'.cell? ⟨w.heap.size, 2, none⟩ = some (.slice (some ⟨bi, oi, none⟩) 3 ci) ∧ w'.cell? ⟨bl, ol, none⟩ = some (.int .i64 n0) ∧ w'.cell? ⟨bl, ol + 1, none⟩ = some (.int .i64 n1) ∧ w'.cell? ⟨bi, oi, none⟩ = some (.int .i64 i0) ∧ w'.cell? ⟨bi, oi + 1, none⟩ = some (.int .i64 i1) ∧ w'.cell? ⟨bi, oi + 2, none⟩ = some (.int .i64 i2)) (go_keep) (first | (go_at_call 21; refine (r_sub (by with_reducible first | assumption | exact pat_add _ _ | exact pat_sub _ _ | exact pat_mul _ _ | exact pat_div _ _ | exact pat_sqrt _ | exact pat_from _ | exact pat_rat _ _ | exact pat_qrt _ | exact pat_qrN _ _ | exact pat_0 | exact pat_1 | exact pat_h) (by with_reducible first | assumption | exact pat_add _ _ | exact pat_sub _ _ | exact pat_mul _ _ | exact pat_div _ _ | exact pat_sqrt _ | exact pat_from _ | exact pat_rat _ _ | exact pat_qrt _ | exact pat_qrN _ _ | exact pat_0 | exact pat_1 | exact pat_h) _).mono ?_; rintro e wx ⟨rfl, hbx⟩; have HB : Below wr.heap.size wr wx := (by first | exact bel HB hbx | exact bel (bel HB (bel_d _)) hbx | exact bel (bel (bel HB (bel_d _)) (bel_d _)) hbx); obtain ⟨e2, dn0, dn1, di0, di1, di2⟩ := HC.out wx HB))
      all_goals go_wp2
      all_goals go_region_held3 (fun w' => w'.cell? ⟨w.heap.size, 2, none⟩ = some (.slice (some ⟨bi, oi, none⟩) 3 ci) ∧ w'.cell? ⟨bl, ol, none⟩ = some (.int .i64 n0) ∧ w'.cell? ⟨bl, ol + 1, none⟩ = some (.int .i64 n1) ∧ w'.cell? ⟨bi, oi, none⟩ = some (.int .i64 i0) ∧ w'.cell? ⟨bi, oi + 1, none⟩ = some (.int .i64 i1) ∧ w'.cell? ⟨bi, oi + 2, none⟩ = some (.int .i64 i2)) (go_keep) (first | (go_at_call 62; refine (r_pow (by with_reducible first | assumption | exact pat_add _ _ | exact pat_sub _ _ | exact pat_mul _ _ | exact pat_div _ _ | exact pat_sqrt _ | exact pat_from _ | exact pat_rat _ _ | exact pat_qrt _ | exact pat_qrN _ _ | exact pat_0 | exact pat_1 | exact pat_h) (by constructor <;> omega) _).mono ?_; rintro e wx ⟨rfl, hbx⟩; have HB : Below wr.heap.size wr wx := (by first | exact bel HB hbx | exact bel (bel HB (bel_d _)) hbx | exact bel (bel (bel HB (bel_d _)) (bel_d _)) hbx); obtain ⟨e2, dn0, dn1, di0, di1, di2⟩ := HC.out wx HB) | (go_at_call 26; refine (r_mul (by with_reducible first | assumption | exact pat_add _ _ | exact pat_sub _ _ | exact pat_mul _ _ | exact pat_div _ _ | exact pat_sqrt _ | exact pat_from _ | exact pat_rat _ _ | exact pat_qrt _ | exact pat_qrN _ _ | exact pat_0 | exact pat_1 | exact pat_h) (by with_reducible first | assumption | exact pat_add _ _ | exact pat_sub _ _ | exact pat_mul _ _ | exact pat_div _ _ | exact pat_sqrt _ | exact pat_from _ | exact pat_rat _ _ | exact pat_qrt _ | exact pat_qrN _ _ | exact pat_0 | exact pat_1 | exact pat_h) _).mono ?_; rintro e wx ⟨rfl, hbx⟩; have HB : Below wr.heap.size wr wx := (by first | exact bel HB hbx | exact bel (bel HB (bel_d _)) hbx | exact bel (bel (bel HB (bel_d _)) (bel_d _)) hbx); obtain ⟨e2, dn0, dn1, di0, di1, di2⟩ := HC.out wx HB) | (go_at_call 25; refine (r_add (by with_reducible first | assumption | exact pat_add _ _ | exact pat_sub _ _ | exact pat_mul _ _ | exact pat_div _ _ | exact pat_sqrt _ | exact pat_from _ | exact pat_rat _ _ | exact pat_qrt _ | exact pat_qrN _ _ | exact pat_0 | exact pat_1 | exact pat_h) (by with_reducible first | assumption | exact pat_add _ _ | exact pat_sub _ _ | exact pat_mul _ _ | exact pat_div _ _ | exact pat_sqrt _ | exact pat_from _ | exact pat_rat _ _ | exact pat_qrt _ | exact pat_qrN _ _ | exact pat_0 | exact pat_1 | exact pat_h) _).mono ?_; rintro e wx ⟨rfl, hbx⟩; have HB : Below wr.heap.size wr wx := (by first | exact bel HB hbx | exact bel (bel HB (bel_d _)) hbx | exact bel (bel (bel HB (bel_d _)) (bel_d _)) hbx); obtain ⟨e2, dn0, dn1, di0, di1, di2⟩ := HC.out wx HB))
      all_goals go_wp2
      all_goals go_ret
      all_goals exact ⟨rfl, bel HB0.out (bel hb HB)⟩

end Go.Proofs.Ytnogokikiekcbaa
