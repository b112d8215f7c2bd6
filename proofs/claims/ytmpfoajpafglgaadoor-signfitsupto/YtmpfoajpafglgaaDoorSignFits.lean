import Derived.Test.YtmpfoajpafglgaaDoorSignLaws
/- SignFits. -/
namespace Go.Proofs.YtmpfoajpafglgaaDoor
open Go.RowKit
set_option linter.unusedVariables false
set_option linter.unusedSimpArgs false

theorem info_F : (Tryd.prog.info? 140).map (fun i => (i.zero, i.size, i.bytes)) = some (some (.int .u32 0), 1, 4) := by kernel_rfl
theorem info_L : (Tryd.prog.info? 46).map (fun i => (i.zero, i.size, i.bytes)) = some (some (.slice none 0 0), 1, 24) := by kernel_rfl
theorem make_F (m : Nat) (h : m ≤ 70368744177664) (w : World) : (Instr.makeSlice 46 (.int .i64 m) (.int .i64 m)).run Tryd.prog w = .ok (.slice (some ⟨w.heap.size, 0, none⟩) m m) (w.alloc (.cells (madeCells #[.int .u32 0] m) 140)) :=
  run_make_row' (P := Tryd.prog) 46 140 (.int .u32 0) 4 Tryd.underlying46 info_F rfl .i64 .i64 m (by omega) (by omega) w

/-- A list of whole numbers. -/
def RdI (w : World) (p : Option Addr) (xs : List Int) : Prop := xs = [] ∨ ∃ b o, p = some ⟨b, o, none⟩ ∧ ∀ i (h : i < xs.length), w.cell? ⟨b, o + i, none⟩ = some (.int .i64 xs[i])
def clampN (x : Int) : Nat := (if 0 < (if 10000 < x then 10000 else x) then (if 10000 < x then 10000 else x) else 0).toNat
theorem clamp_le (x : Int) : clampN x ≤ 10000 := by unfold clampN; repeat' split <;> omega

/-- So far: lists of these lengths. -/
def VAt (w : World) (B : Nat) (v : Value) (ns : List Nat) : Prop :=
  ∃ cs, w.ownsRow B 46 1 v ns.length cs ∧ ∀ i (h : i < ns.length), ∃ q d, cs[i]? = some (.slice q ns[i] d)
theorem vat_nil (w : World) (B : Nat) : VAt w B (.slice none 0 0) [] := ⟨[], World.ownsRow_nil w B _ 1, fun i h => absurd h (Nat.not_lt_zero _)⟩
theorem VAt.vs {w : World} {B : Nat} {v : Value} {ns : List Nat} (h : VAt w B v ns) : Vs w v ns := by
  obtain ⟨cs, ⟨hl, ho⟩, hc⟩ := h
  rcases ho with ⟨hv, hn⟩ | ⟨g, cap, cur, hv, hB, hg, hc1, hc2, hsz, htk⟩
  · have : ns = [] := List.eq_nil_of_length_eq_zero hn
    subst this
    exact ⟨none, 0, hv, .inl rfl⟩
  · refine ⟨some ⟨g, 0, none⟩, cap, hv, .inr ⟨g, 0, rfl, fun i hi => ?_⟩⟩
    obtain ⟨q, d, hq⟩ := hc i hi
    refine ⟨q, d, ?_⟩
    rw [Nat.zero_add, ← hq, ← htk, List.getElem?_take_of_lt (by omega)]
    simp [World.cell?, hg]
theorem VAt.snoc {w w' : World} {B : Nat} {v v' : Value} {ns : List Nat} {m : Nat} {q : Option Addr} {d : Nat} {cs : List Value} (hc : ∀ i (h : i < ns.length), ∃ q d, cs[i]? = some (.slice q ns[i] d)) (hl : cs.length = ns.length) (h : w'.ownsRow B 46 1 v' (ns.length + 1) (cs ++ [.slice q m d])) : VAt w' B v' (ns ++ [m]) := by
  refine ⟨cs ++ [.slice q m d], by rw [List.length_append]; exact h, fun i hi => ?_⟩
  rw [List.length_append] at hi
  simp at hi
  by_cases e : i < ns.length
  · obtain ⟨q', d', hq⟩ := hc i e
    refine ⟨q', d', ?_⟩
    rw [List.getElem?_append_left (by omega), hq, List.getElem_append_left e]
  · have : i = ns.length := by omega
    subst this
    refine ⟨q, d, ?_⟩
    rw [List.getElem?_append_right (by omega), hl]
    simp

set_option maxRecDepth 100000 in
set_option maxHeartbeats 2000000 in
theorem walk_SignFits (p : Option Addr) (c : Nat) (l : List Par) (hl : l.length ≤ 1048576) (hM : ∀ q ∈ l, q.name.size ≤ 1048576) (p' : Option Addr) (c' : Nat) (xs : List Int) (hx : xs.length ≤ 1048576) (w : World) (hLd : Laid w) (hr : Row w p l) (hi : RdI w p' xs) :
    Calls Tryd.prog 6 #[.slice p l.length c, .slice p' xs.length c'] w fun e w' => e = .returned (.bool true) ∧ Below w.heap.size w w' := by
  obtain ⟨i0, hi0, hz0, hz1, hz2⟩ := info_parts info_L
  have hl' : l.length ≤ 140737488351232 := by omega
  have hM' : ∀ q ∈ l, q.name.size ≤ 140737488351232 := fun q hq => Nat.le_trans (hM q hq) (by decide)
  have hnl : (xs.map clampN).length ≤ 140737488351232 := by rw [List.length_map]; omega
  have hb9 : ∀ n ∈ xs.map clampN, n ≤ 140737488351232 := fun n hn => by
    obtain ⟨x, _, rfl⟩ := List.mem_map.1 hn
    have := clamp_le x
    omega
  obtain ⟨B, hB⟩ : ∃ B, fitsP l (xs.map clampN) = B := ⟨_, rfl⟩
  have K1 : Hid (∀ v u w, Rd w v l → Vs w u (xs.map clampN) → Calls Tryd.prog 23 #[v, u] w fun e w' => e = .returned (.bool B) ∧ Below w.heap.size w w') := fun v u w h1 h2 => by have := sFits_any v u l _ hl' hnl hM' hb9 w h1 h2; rw [hB] at this; exact this
  have K2 : Hid (∀ v u w, Rd w v l → Vs w u (xs.map clampN) → Calls Tryd.prog 24 #[v, u] w fun e w' => e = .returned (.bool B) ∧ Below w.heap.size w w') := fun v u w h1 h2 => by have := rFits_any v u l _ hl' hnl hM' hb9 w h1 h2; rw [hB] at this; exact this
  have HR : Hid (Rd w (.slice p l.length c) l) := ⟨p, c, rfl, hr⟩
  have HI : Hid (RdI w p' xs) := hi
  obtain ⟨n, hn⟩ : ∃ n, l.length = n := ⟨_, rfl⟩
  obtain ⟨k, hk⟩ : ∃ k, xs.length = k := ⟨_, rfl⟩
  have HX : Hid (xs.length = k) := hk
  rw [hn] at HR ⊢
  rw [hk] at hx ⊢
  have HLD : Hid (Laid w) := hLd
  clear hl hl' hM hM' hnl hb9 hB hr hi hn hk hLd
  go_enter Tryd.func6, Tryd.ntmps6
  go_wp2
  go_loopw [5, 6] (fun lv iv wr => Below w.heap.size w wr ∧ ∃ (j : Nat) (ov : Value), ov = lv ∧ j ≤ k ∧ iv = .int .i64 j ∧ Hid (VAt wr w.heap.size ov ((xs.take j).map clampN))) (fun _ iv _ => k - (intOf iv).toNat)
  case atStart => exact ⟨bel0 w, 0, _, rfl, Nat.zero_le _, rfl, by rw [List.take_zero]; exact vat_nil _ _⟩
  case round =>
    obtain ⟨hb, j, ov, rfl, hj, rfl, HV⟩ := hrel
    have szr := hb.size
    by_cases hlt : j < k
    · have hll : j < xs.length := by rw [HX.out]; exact hlt
      obtain ⟨b, o, rfl, x0⟩ : ∃ b o, p' = some ⟨b, o, none⟩ ∧ w.cell? ⟨b, o + j, none⟩ = some (.int .i64 xs[j]) := by
        rcases HI.out with h | ⟨b, o, hp, h⟩
        · rw [h] at hll; exact absurd hll (Nat.not_lt_zero _)
        · exact ⟨b, o, hp, h j hll⟩
      have x1 := keepc hb x0
      have hnx : (xs.take (j + 1)).map clampN = (xs.take j).map clampN ++ [clampN xs[j]] := by rw [take_succ hll, List.map_append]; rfl
      have hcl := clamp_le xs[j]
      have hmm : (if (0 : Int) < (if (10000 : Int) < xs[j] then (10000 : Int) else xs[j]) then (if (10000 : Int) < xs[j] then (10000 : Int) else xs[j]) else 0) = ((clampN xs[j] : Nat) : Int) := by unfold clampN; rw [Int.toNat_of_nonneg]; repeat' split <;> omega
      have hmm2 : max (0 : Int) (min xs[j] 10000) = ((clampN xs[j] : Nat) : Int) := by rw [← hmm]; repeat' split <;> omega
      obtain ⟨m, hm⟩ : ∃ m, clampN xs[j] = m := ⟨_, rfl⟩
      rw [hm] at hmm hmm2 hnx hcl
      have HNX : Hid ((xs.take (j + 1)).map clampN = (xs.take j).map clampN ++ [m]) := hnx
      obtain ⟨X, hX⟩ : ∃ X, xs[j] = X := ⟨_, rfl⟩
      rw [hX] at x1 hmm hmm2
      have hmk := make_F m (by omega)
      have j1 : (0 : Int) ≤ (j : Int) := by omega
      have j2 : (j : Int) < (k : Int) := by omega
      obtain ⟨cs, hown, hcs⟩ := HV.out
      rw [List.length_map, List.length_take, HX.out, Nat.min_eq_left hj] at hown
      have HO : Hid (wr.ownsRow w.heap.size 46 1 ov j cs) := hown
      have HCS : Hid (∀ i (h : i < ((xs.take j).map clampN).length), ∃ q d, cs[i]? = some (.slice q ((xs.take j).map clampN)[i] d)) := hcs
      clear hnx hm hX hown hcs x0 HV
      go_wp2_with (first
        | (at_builtin; refine wpList_append_own_at _ rfl _ _ 45 rfl w.heap.size 46 i0 _ 1 24 Tryd.underlying45 hi0 hz0 hz1 hz2 rfl (by decide) ov j cs rfl (World.ownsRow.alloc (World.ownsRow.alloc HO.out _) _) ⟨wr.heap.size + 1, 0, none⟩ 1 1 [.slice (some ⟨wr.heap.size, 0, none⟩) m m] rfl rfl (news2 wr _ #[.slice (some ⟨wr.heap.size, 0, none⟩) m m] 46) (by simp [Value.oneCell']) (by unfold maxLen; omega) (by omega) (by simp; omega) ?_; intro v' w3 hown3 hgrow hnil hat; have HO3 : Hid (w3.ownsRow w.heap.size 46 1 v' (j + 1) (cs ++ [.slice (some ⟨wr.heap.size, 0, none⟩) m m]) ∧ ((wr.alloc (.cells (madeCells #[.int .u32 0] m) 140)).alloc (.cells #[.slice (some ⟨wr.heap.size, 0, none⟩) m m] 46)).grownBy w3 ov.ownBlock) := ⟨hown3, hgrow⟩; clear hown3 hgrow hnil hat))
      go_roundw
      case rel =>
        obtain ⟨ho3, hgrow⟩ := HO3.out
        have hob := HO.out.lt
        refine ⟨Below.grown ((hb.alloc (by omega) _).alloc (by simp; omega) _) hgrow (by simp; omega) (fun q e => (hob q e).1), j + 1, _, rfl, by omega, by go_num, ?_⟩
        rw [HNX.out]
        have hcl : cs.length = ((xs.take j).map clampN).length := by rw [List.length_map, List.length_take, HX.out, Nat.min_eq_left hj]; have := HO.out.1; omega
        refine VAt.snoc (w := wr) (v := ov) (q := some ⟨wr.heap.size, 0, none⟩) (d := m) HCS.out hcl ?_
        rw [← hcl, show cs.length = j by have := HO.out.1; omega]
        exact ho3
      case measure => simp [intOf]; omega
    · have : j = k := by omega
      subst this
      have hfin : (xs.take j).map clampN = xs.map clampN := by rw [List.take_of_length_le (by rw [HX.out]; exact Nat.le_refl _)]
      have hvs := HV.out.vs
      rw [hfin] at hvs
      have R1 : Hid (Rd wr (.slice p n c) l ∧ Vs wr ov (xs.map clampN)) := ⟨HR.out.below hb, hvs⟩
      clear hfin hvs HV
      cases B
      all_goals
        go_wp2_with (first
          | (go_at_call 23; (with_reducible refine (K1.out _ _ _ R1.out.1 R1.out.2).mono ?_); rintro e w2 ⟨rfl, hb2⟩; have R2 : Hid (Rd w2 (.slice p n c) l ∧ Vs w2 ov (xs.map clampN)) := ⟨R1.out.1.below hb2, R1.out.2.below hb2⟩)
          | (go_at_call 24; (with_reducible refine (K2.out _ _ _ R2.out.1 R2.out.2).mono ?_); rintro e w3 ⟨rfl, hb3⟩)
          | (go_at_call 18; refine (works_any _ (HLD.out.below (bel (bel hb hb2) hb3))).mono ?_; rintro e w9 ⟨rfl, hb9⟩))
        go_ret
        exact ⟨rfl, bel (bel (bel hb hb2) hb3) hb9⟩

end Go.Proofs.YtmpfoajpafglgaaDoor
