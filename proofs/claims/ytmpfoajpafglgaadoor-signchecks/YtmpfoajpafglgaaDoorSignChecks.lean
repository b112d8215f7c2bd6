import Derived.Test.YtmpfoajpafglgaaDoorSignLaws
/- SignChecks. -/
namespace Go.Proofs.YtmpfoajpafglgaaDoor
open Go.RowKit
set_option linter.unusedVariables false
set_option linter.unusedSimpArgs false

theorem row_cells {w : World} {b o : Nat} {l : List Par} (h : ∀ i (h : i < l.length), AtP w b (o + i * 3) l[i]) : ∀ j u, (cellsOf l)[j]? = some u → w.cell? ((⟨b, o, none⟩ : Addr).add j) = some u := by
  intro j u hu
  have hj : j < l.length * 3 := by
    have := (List.getElem?_eq_some_iff.1 hu).1
    rw [cellsOf_length] at this
    exact this
  have e : j = j / 3 * 3 + j % 3 := by omega
  have hi : j / 3 < l.length := by omega
  have hm : j % 3 < 3 := by omega
  rw [e, cellsOf_at l _ _ hi hm] at hu
  obtain ⟨h0, h1, h2⟩ := h (j / 3) hi
  rw [Addr.add_lit]
  have hc : j % 3 = 0 ∨ j % 3 = 1 ∨ j % 3 = 2 := by omega
  rcases hc with hc | hc | hc
  · rw [hc] at hu
    simp [parCells] at hu
    subst hu
    rw [show o + j = o + j / 3 * 3 by omega]
    exact h0
  · rw [hc] at hu
    simp [parCells] at hu
    subst hu
    rw [show o + j = o + j / 3 * 3 + 1 by omega]
    exact h1
  · rw [hc] at hu
    simp [parCells] at hu
    subst hu
    rw [show o + j = o + j / 3 * 3 + 2 by omega]
    exact h2

set_option maxRecDepth 100000 in
set_option maxHeartbeats 4000000 in
theorem walk_SignChecks (p : Option Addr) (c : Nat) (l : List Par) (hl : l.length ≤ 4398046510976) (hM : ∀ q ∈ l, q.name.size ≤ 140737488351232) (hz : p = none → l.length = 0 ∧ c = 0) (s : ByteArray) (hs : s.size ≤ 140737488351232) (w : World) (hLd : Laid w) (hr : Row w p l) :
    Calls Tryd.prog 3 #[.slice p l.length c, .string s] w fun e w' => e = .returned (.bool true) ∧ Below w.heap.size w w' := by
  obtain ⟨i0, hi0, hz0, hz1, hz2⟩ := info_parts info_Param
  have hl' : l.length ≤ 140737488351232 := by omega
  have HL : Hid (l.length ≤ 140737488351232) := hl'
  have HM : Hid (∀ q ∈ l, q.name.size ≤ 140737488351232) := hM
  have HRW : Hid (Row w p l) := hr
  have HR : Hid (Rd w (.slice p l.length c) l) := ⟨p, c, rfl, hr⟩
  obtain ⟨n, hn⟩ : ∃ n, l.length = n := ⟨_, rfl⟩
  have HN : Hid (l.length = n) := hn
  have src : (p = none ∧ n = 0 ∧ c = 0) ∨ ∃ a, p = some a ∧ ∀ j u, (cellsOf l)[j]? = some u → w.cell? (a.add j) = some u := by
    cases hp : p with
    | none => exact .inl ⟨rfl, by rw [← hn]; exact (hz hp).1, (hz hp).2⟩
    | some a =>
      right
      refine ⟨a, rfl, ?_⟩
      rcases hr with h | ⟨b, o, hpb, h⟩
      · intro j u hu
        have hc : cellsOf l = [] := by rw [h]; rfl
        rw [hc] at hu
        cases hu
      · rw [hp] at hpb
        cases hpb
        exact row_cells h
  obtain ⟨C, hC⟩ : ∃ C, checkP l = C := ⟨_, rfl⟩
  obtain ⟨T, hT⟩ : ∃ T, totP l = T := ⟨_, rfl⟩
  obtain ⟨I, hI⟩ : ∃ I : Nat, (findP s l).getD 0 = I := ⟨_, rfl⟩
  obtain ⟨B, hB⟩ : ∃ B, (findP s l).isSome = B := ⟨_, rfl⟩
  have KF1 : Hid (∀ v w, Rd w v l → Calls Tryd.prog 9 #[v, .string s] w fun e w' => e = .returned (.tuple #[.int .i64 (I : Int), .bool B]) ∧ Below w.heap.size w w') := fun v w h => by have := sFind_any v l hl' hM s hs w h; rw [hI, hB] at this; exact this
  have KF2 : Hid (∀ v w, Rd w v l → Calls Tryd.prog 10 #[v, .string s] w fun e w' => e = .returned (.tuple #[.int .i64 (I : Int), .bool B]) ∧ w' = w) := fun v w h => by have := rFind_any v l hl' s w h; rw [hI, hB] at this; exact this
  have KC1 : Hid (∀ v w, Rd w v l → Calls Tryd.prog 11 #[v] w fun e w' => e = .returned (.int .i64 C) ∧ Below w.heap.size w w') := fun v w h => by have := sCheck_any v l hl' hM w h; rw [hC] at this; exact this
  have KC2 : Hid (∀ v w, Rd w v l → Calls Tryd.prog 12 #[v] w fun e w' => e = .returned (.int .i64 C) ∧ Below w.heap.size w w') := fun v w h => by have := rCheck_any v l hl' hM w h; rw [hC] at this; exact this
  have KT1 : Hid (∀ v w, Rd w v l → Calls Tryd.prog 13 #[v] w fun e w' => e = .returned (.int .i64 T) ∧ Below w.heap.size w w') := fun v w h => by have := sTotal_any v l hl' hM w h; rw [hT] at this; exact this
  have KT2 : Hid (∀ v w, Rd w v l → Calls Tryd.prog 14 #[v] w fun e w' => e = .returned (.int .i64 T) ∧ Below w.heap.size w w') := fun v w h => by have := rTotal_any v l hl' hM w h; rw [hT] at this; exact this
  have hCb : 0 ≤ C ∧ C ≤ 102 := by rw [← hC]; exact check_bounds l
  rw [hn] at hl HR ⊢
  have HSRC : Hid ((p = none ∧ n = 0 ∧ c = 0) ∨ ∃ a, p = some a ∧ ∀ j u, (cellsOf l)[j]? = some u → w.cell? (a.add j) = some u) := src
  have HLD : Hid (Laid w) := hLd
  clear hM hz hr hn src hl' hC hT hI hB hs hLd
  go_enter Tryd.func3, Tryd.ntmps3
  go_upto_region 2 with fail
  go_cut [5] (fun mv wx => Rd wx mv l ∧ Below w.heap.size w wx)
  case first =>
    rcases HSRC.out with ⟨rfl, rfl, rfl⟩ | ⟨a, rfl, hcs⟩
    · have hT : l = [] := List.eq_nil_of_length_eq_zero HN.out
      have HR0 : Hid (∀ v : World, Rd v (.slice none 0 0) l) := fun v => ⟨none, 0, by rw [hT]; rfl, .inl hT⟩
      clear hT KF1 KF2 KC1 KC2 KT1 KT2 HSRC
      go_wp2
      go_meet
      exact ⟨HR0.out _, bel0 _⟩
    · have HC : Hid (∀ j u, (cellsOf l)[j]? = some u → w.cell? (a.add j) = some u) := hcs
      clear hcs KF1 KF2 KC1 KC2 KT1 KT2 HSRC
      go_wp2_with (first
        | (at_builtin; refine wpList_append_own_at _ rfl _ _ 22 rfl w.heap.size 30 i0 _ 3 32 Tryd.underlying22 hi0 hz0 hz1 hz2 rfl (by decide) (.slice none 0 0) 0 [] rfl (World.ownsRow_nil _ _ _ _) a n c (cellsOf l) rfl (by rw [cellsOf_length, HN.out]) HC.out (cellsOf_one l) (by unfold maxLen; omega) (by omega) (Nat.le_refl _) ?_; intro v1 w1 hown1 hgrow1 _ _; have R1 : Hid (Rd w1 v1 l) := (by rw [Nat.zero_add, List.nil_append, ← HN.out] at hown1; exact Own.rd (B := w.heap.size) hown1); have hb1 : Below w.heap.size w w1 := Below.grown (bel0 w) hgrow1 (Nat.le_refl _) (fun k e => by cases e); clear hown1 hgrow1))
      go_meet
      exact ⟨R1.out, hb1⟩
  case rest =>
  obtain ⟨hr1, hb1⟩ := hcut
  have RA : Hid (Rd wc u5 l ∧ Rd wc (.slice p n c) l) := ⟨hr1, HR.out.below hb1⟩
  clear hr1 HSRC
  go_wp2_with (first
    | (go_at_call 9; (with_reducible refine (KF1.out _ _ RA.out.1).mono ?_); rintro e w2 ⟨rfl, hb2⟩; have RA2 : Hid (Rd w2 u5 l ∧ Rd w2 (.slice p n c) l) := ⟨RA.out.1.below hb2, RA.out.2.below hb2⟩)
    | (go_at_call 10; (with_reducible refine (KF2.out _ _ RA2.out.2).mono ?_); rintro e w2 ⟨rfl, rfl⟩)
    | (go_at_call 11; (with_reducible refine (KC1.out _ _ RA2.out.1).mono ?_); rintro e w3 ⟨rfl, hb3⟩; have RA3 : Hid (Rd w3 u5 l ∧ Rd w3 (.slice p n c) l) := ⟨RA2.out.1.below hb3, RA2.out.2.below hb3⟩)
    | (go_at_call 12; (with_reducible refine (KC2.out _ _ RA3.out.2).mono ?_); rintro e w4 ⟨rfl, hb4⟩; have RA4 : Hid (Rd w4 u5 l ∧ Rd w4 (.slice p n c) l) := ⟨RA3.out.1.below hb4, RA3.out.2.below hb4⟩)
    | (go_at_call 13; (with_reducible refine (KT1.out _ _ RA4.out.1).mono ?_); rintro e w5 ⟨rfl, hb5⟩; have RA5 : Hid (Rd w5 u5 l ∧ Rd w5 (.slice p n c) l) := ⟨RA4.out.1.below hb5, RA4.out.2.below hb5⟩)
    | (go_at_call 14; (with_reducible refine (KT2.out _ _ RA5.out.2).mono ?_); rintro e w6 ⟨rfl, hb6⟩; have RA6 : Hid (Rd w6 u5 l ∧ Rd w6 (.slice p n c) l) := ⟨RA5.out.1.below hb6, RA5.out.2.below hb6⟩))
  have HB6 : Hid (Below w.heap.size w w6) := bel (bel (bel (bel (bel hb1 hb2) hb3) hb4) hb5) hb6
  have HRW6 : Hid (Row w6 p l) := HRW.out.below HB6.out
  clear KF1 KF2 KC1 KC2 KT1 KT2 hb1 hb2 hb3 hb4 hb5 hb6 RA RA2 RA3 RA4 RA5
  go_loopw [10] (fun iv wr => Below w6.heap.size w6 wr ∧ ∃ j : Nat, j ≤ n ∧ iv = .int .i64 j) (fun iv _ => n - (intOf iv).toNat)
  case atStart => exact ⟨bel0 _, 0, Nat.zero_le _, rfl⟩
  case round =>
    obtain ⟨hb, j, hj, rfl⟩ := hrel
    by_cases hlt : j < n
    · have hll : j < l.length := by rw [HN.out]; exact hlt
      obtain ⟨b, o, rfl, hx⟩ := HRW6.out.at hll
      obtain ⟨x0, x1, x2⟩ := hx.below hb
      have j1 : (0 : Int) ≤ (j : Int) := by omega
      have j2 : (j : Int) < (n : Int) := by omega
      have K1 := sNumbers_any l[j] (HM.out _ (List.getElem_mem hll))
      have K2 := rNumbers_any l[j] (HM.out _ (List.getElem_mem hll))
      unfold pv at K1 K2
      obtain ⟨U, hU⟩ : ∃ U, numP l[j] = U := ⟨_, rfl⟩
      rw [hU] at K1 K2
      have HK1 : Hid (∀ w, Calls Tryd.prog 15 #[.agg #[.string l[j].name, .int .i64 l[j].kind, .int .i64 l[j].len]] w fun e w' => e = .returned (.int .i64 U) ∧ Below w.heap.size w w') := K1
      have HK2 : Hid (∀ w, Calls Tryd.prog 16 #[.agg #[.string l[j].name, .int .i64 l[j].kind, .int .i64 l[j].len]] w fun e w' => e = .returned (.int .i64 U) ∧ Below w.heap.size w w') := K2
      clear K1 K2 hU hx
      go_upto_region 10 with fail
      refine wp_region_held_drew (S := (fun w' => w'.cell? ⟨b, o + j * 3, none⟩ = some (.string l[j].name) ∧ w'.cell? ⟨b, o + j * 3 + 1, none⟩ = some (.int .i64 l[j].kind) ∧ w'.cell? ⟨b, o + j * 3 + 2, none⟩ = some (.int .i64 l[j].len))) (by kernel_rfl) ?_ (fun hHeld => ?_)
      · ((try dsimp only); go_keep)
      refine wpAnyH_take (i := 0) (v := ?_) (by simp only [List.getElem?_toArray, List.getElem?_cons_succ, List.getElem?_cons_zero]; rfl) (by kernel_rfl) (by kernel_rfl) (by kernel_rfl) (by exact fun _ _ _ h => h) (Or.inl ⟨by rfl, ?_⟩) (by assumption) ?_
      rotate_left 1
      · (intro wS hSw; (try dsimp only at hSw); go_simp; try (with_reducible rfl))
      try simp only [Act.put, List.setIfInBounds_toArray, List.set_cons_zero, List.set_cons_succ]
      refine wpAnyH_take (i := 1) (v := ?_) (by simp only [List.getElem?_toArray, List.getElem?_cons_succ, List.getElem?_cons_zero]; rfl) (by kernel_rfl) (by kernel_rfl) (by kernel_rfl) (by exact fun _ _ _ h => h) (Or.inl ⟨by rfl, ?_⟩) (by assumption) ?_
      rotate_left 1
      · (intro wS hSw; (try dsimp only at hSw); go_simp; try (with_reducible rfl))
      try simp only [Act.put, List.setIfInBounds_toArray, List.set_cons_zero, List.set_cons_succ]
      refine wpAnyH_take (i := 2) (v := ?_) (by simp only [List.getElem?_toArray, List.getElem?_cons_succ, List.getElem?_cons_zero]; rfl) (by kernel_rfl) (by kernel_rfl) (by kernel_rfl) (by exact fun _ _ _ h => h) (Or.inl ⟨by rfl, ?_⟩) (by assumption) ?_
      rotate_left 1
      · (intro wS hSw; (try dsimp only at hSw); go_simp; try (with_reducible rfl))
      try simp only [Act.put, List.setIfInBounds_toArray, List.set_cons_zero, List.set_cons_succ]
      refine wpAnyH_take (i := 3) (v := ?_) (by simp only [List.getElem?_toArray, List.getElem?_cons_succ, List.getElem?_cons_zero]; rfl) (by kernel_rfl) (by kernel_rfl) (by kernel_rfl) (by exact fun _ _ _ h => h) (Or.inl ⟨by rfl, ?_⟩) (by assumption) ?_
      rotate_left 1
      · (intro wS hSw; (try dsimp only at hSw); go_simp; try (with_reducible rfl))
      try simp only [Act.put, List.setIfInBounds_toArray, List.set_cons_zero, List.set_cons_succ]
      refine wpAnyH_take (i := 5) (v := ?_) (by simp only [List.getElem?_toArray, List.getElem?_cons_succ, List.getElem?_cons_zero]; rfl) (by kernel_rfl) (by kernel_rfl) (by kernel_rfl) (by exact fun _ _ _ h => h) (Or.inl ⟨by rfl, ?_⟩) (by assumption) ?_
      rotate_left 1
      · (intro wS hSw; (try dsimp only at hSw); go_simp; try (with_reducible rfl))
      try simp only [Act.put, List.setIfInBounds_toArray, List.set_cons_zero, List.set_cons_succ]
      refine wpAnyH_take (i := 6) (v := ?_) (by simp only [List.getElem?_toArray, List.getElem?_cons_succ, List.getElem?_cons_zero]; rfl) (by kernel_rfl) (by kernel_rfl) (by kernel_rfl) (by exact fun _ _ _ h => h) (Or.inl ⟨by rfl, ?_⟩) (by assumption) ?_
      rotate_left 1
      · (intro wS hSw; (try dsimp only at hSw); go_simp; try (with_reducible rfl))
      try simp only [Act.put, List.setIfInBounds_toArray, List.set_cons_zero, List.set_cons_succ]
      refine wpAnyH_take (i := 7) (v := ?_) (by simp only [List.getElem?_toArray, List.getElem?_cons_succ, List.getElem?_cons_zero]; rfl) (by kernel_rfl) (by kernel_rfl) (by kernel_rfl) (by exact fun _ _ _ h => h) (Or.inl ⟨by rfl, ?_⟩) (by assumption) ?_
      rotate_left 1
      · (intro wS hSw; (try dsimp only at hSw); go_simp; try (with_reducible rfl))
      try simp only [Act.put, List.setIfInBounds_toArray, List.set_cons_zero, List.set_cons_succ]
      refine wpAnyH_take (i := 8) (v := ?_) (by simp only [List.getElem?_toArray, List.getElem?_cons_succ, List.getElem?_cons_zero]; rfl) (by kernel_rfl) (by kernel_rfl) (by kernel_rfl) (by exact fun _ _ _ h => h) (Or.inl ⟨by rfl, ?_⟩) (by assumption) ?_
      rotate_left 1
      · (intro wS hSw; (try dsimp only at hSw); go_simp; try (with_reducible rfl))
      try simp only [Act.put, List.setIfInBounds_toArray, List.set_cons_zero, List.set_cons_succ]
      clear hHeld
      refine wpAnyH_ready (rs := [4]) (by kernel_rfl) (by simp) ?_
      refine AllReadyH.cons (i := 4) (by simp only [List.getElem?_toArray, List.getElem?_cons_succ, List.getElem?_cons_zero]; rfl) (fun K hK => ?_) AllReadyH.nil
      go_simp
      (go_at_call 15; refine (HK1.out _).mono ?_; rintro e w3 ⟨rfl, hb3⟩; have y0 := keepc (bel (bel_d _) hb3) x0; have y1 := keepc (bel (bel_d _) hb3) x1; have y2 := keepc (bel (bel_d _) hb3) x2; have HB3 : Below wr.heap.size wr w3 := bel (bel_d _) hb3; clear hb3)
      try (go_wp2_with fail)
      refine hK.out _ _ ?_ (fun hHeld => ?_)
      · ((try dsimp only); go_keep)
      clear hK K
      try simp only [Act.put, List.setIfInBounds_toArray, List.set_cons_zero, List.set_cons_succ]
      clear hHeld
      refine wpAnyH_ready (rs := [9]) (by kernel_rfl) (by simp) ?_
      refine AllReadyH.cons (i := 9) (by simp only [List.getElem?_toArray, List.getElem?_cons_succ, List.getElem?_cons_zero]; rfl) (fun K hK => ?_) AllReadyH.nil
      go_simp
      (go_at_call 16; refine (HK2.out _).mono ?_; rintro e w4 ⟨rfl, hb4⟩; have u0 := keepc hb4 y0; have u1 := keepc hb4 y1; have u2 := keepc hb4 y2)
      try (go_wp2_with fail)
      refine hK.out _ _ ?_ (fun hHeld => ?_)
      · ((try dsimp only); go_keep)
      clear hK K
      try simp only [Act.put, List.setIfInBounds_toArray, List.set_cons_zero, List.set_cons_succ]
      refine wpAnyH_take (i := 10) (v := ?_) (by simp only [List.getElem?_toArray, List.getElem?_cons_succ, List.getElem?_cons_zero]; rfl) (by kernel_rfl) (by kernel_rfl) (by kernel_rfl) (by exact fun _ _ _ h => h) (Or.inl ⟨by rfl, ?_⟩) (by assumption) ?_
      rotate_left 1
      · (intro wS hSw; (try dsimp only at hSw); go_simp; try (with_reducible rfl))
      try simp only [Act.put, List.setIfInBounds_toArray, List.set_cons_zero, List.set_cons_succ]
      refine wpAnyH_done (by kernel_rfl) ?_ _
      go_wp2
      go_roundw
      case rel => exact ⟨bel hb (bel HB3 hb4), j + 1, by omega, by go_num⟩
      case measure => simp [intOf]; omega
    · have : j = n := by omega
      subst this
      have R9 : Hid (Rd wr u5 l ∧ Rd wr (.slice p j c) l) := ⟨RA6.out.1.below hb, RA6.out.2.below hb⟩
      clear RA6
      go_wp2_with (first
        | (go_at_call 17; (with_reducible refine (same_any _ _ l HL.out _ R9.out.1 R9.out.2).mono ?_); rintro e w8 ⟨rfl, hb8⟩)
        | (go_at_call 18; refine (works_any _ (HLD.out.below (bel (bel HB6.out hb) hb8))).mono ?_; rintro e w9 ⟨rfl, hb9⟩))
      go_ret
      exact ⟨rfl, bel (bel (bel HB6.out hb) hb8) hb9⟩

end Go.Proofs.YtmpfoajpafglgaaDoor
