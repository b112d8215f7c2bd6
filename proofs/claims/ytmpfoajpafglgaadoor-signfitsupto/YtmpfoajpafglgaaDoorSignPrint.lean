import Derived.Test.YtmpfoajpafglgaaDoorSignBuild
/- Package sign: Print. -/
namespace Go.Proofs.YtmpfoajpafglgaaDoor
open Go.RowKit
set_option linter.unusedVariables false
set_option linter.unusedSimpArgs false

def wordB (k : Int) : Bs := if k == 2 then complexB else realB
theorem kind_word (k : Int) : kindB k = [32] ++ wordB k ++ [32] := by
  unfold kindB wordB
  split <;> rfl
theorem word_len (k : Int) : (wordB k).length ≤ 7 := by
  unfold wordB
  split <;> decide
theorem line_cat2 (N : ByteArray) (Q D : Bs) : N ++ (⟨#[32]⟩ : ByteArray) ++ sof Q ++ (⟨#[32]⟩ : ByteArray) ++ sof D ++ (⟨#[10]⟩ : ByteArray) = ⟨(bs N ++ ([32] ++ Q ++ [32]) ++ D ++ [10]).toArray⟩ := by
  apply ByteArray.ext
  simp [sof, bs]

set_option maxRecDepth 100000 in
theorem wordOf_any (k : Int) (w : World) :
    Calls Tryd.prog 33 #[.int .i64 k] w fun e w' => e = .returned (.string (sof (wordB k))) ∧ w' = w := by
  unfold wordB
  cases h : (k == 2)
  · go_enter Tryd.func33, Tryd.ntmps33
    go_wp2
    all_goals (go_ret; exact ⟨rfl, rfl⟩)
  · go_enter Tryd.func33, Tryd.ntmps33
    go_wp2
    all_goals (go_ret; exact ⟨rfl, rfl⟩)

theorem bd_lt {B b : Nat} {l : Bs} {w : World} (h : Bd B b l w) : b < w.heap.size := by
  rcases h with h | h <;> exact h.lt
theorem three_cells {w : World} {G : Nat} {x y z : Value} {t : TypeId} (h : w.heap[G]? = some (.cells #[x, y, z] t (0, 0))) : w.cell? ⟨G, 0, none⟩ = some x ∧ w.cell? ⟨G, 1, none⟩ = some y ∧ w.cell? ⟨G, 2, none⟩ = some z := by
  refine ⟨?_, ?_, ?_⟩ <;> rw [Lib.cell_of_heap h] <;> rfl

set_option maxRecDepth 100000 in
set_option maxHeartbeats 4000000 in
theorem sPrint_any (v : Value) (l : List Par) (hl : l.length ≤ 140737488351232) (hM : ∀ p ∈ l, p.name.size ≤ 140737488351232) (w : World) (hL : Laid w) (hr : Rd w v l) :
    Calls Tryd.prog 21 #[v] w fun e w' => e = .returned (.tuple #[.string (sof (printP l).1), .int .i64 (printP l).2]) ∧ Below w.heap.size w w' := by
  have KC := sCheck_any v l hl hM w hr
  obtain ⟨C, hC⟩ : ∃ C, checkP l = C := ⟨_, rfl⟩
  rw [hC] at KC
  have HK : Hid (Calls Tryd.prog 11 #[v] w fun e w' => e = .returned (.int .i64 C) ∧ Below w.heap.size w w') := KC
  clear KC
  by_cases hC0 : C = 0
  · subst hC0
    have hlen := check_len hC
    have hmay := check_may hC
    rw [print_ok hC]
    obtain ⟨p, c, rfl, hr⟩ := hr
    obtain ⟨n, hn⟩ : ∃ n, l.length = n := ⟨_, rfl⟩
    have HN : Hid (l.length = n) := hn
    have HR : Hid (Row w p l) := hr
    have HMY : Hid (∀ p ∈ l, mayP p = true) := hmay
    have HL : Hid (Laid w) := hL
    rw [hn] at hlen hl HK ⊢
    clear hn hr hM hC hmay hL
    go_enter Tryd.func21, Tryd.ntmps21
    go_wp2_with (go_at_call 11; refine HK.out.mono ?_; rintro e w0 ⟨rfl, hb0⟩)
    have hfr := Lib.fresh_isBuilder 61 5 w0
    have HF : Hid (Bd w0.heap.size w0.heap.size [] (w0.alloc (.cells #[.pointer none, .slice none 0 0] 61))) := hfr
    clear hfr
    go_loopw [15] (fun iv wr => Below w0.heap.size w0 wr ∧ ∃ j : Nat, j ≤ n ∧ iv = .int .i64 j ∧ Hid (Bd w0.heap.size w0.heap.size (textB (l.take j)) wr)) (fun iv _ => n - (intOf iv).toNat)
    case atStart => exact ⟨bel_alloc _ _, 0, Nat.zero_le _, rfl, HF⟩
    case round =>
      obtain ⟨hb, j, hj, rfl, HB0⟩ := hrel
      by_cases hlt : j < n
      · have hll : j < l.length := by rw [HN.out]; exact hlt
        obtain ⟨b, o, rfl, hx⟩ := HR.out.at hll
        obtain ⟨x0, x1, x2⟩ := hx.below (bel hb0 hb)
        have j1 : (0 : Int) ≤ (j : Int) := by omega
        have j2 : (j : Int) < (n : Int) := by omega
        have hmj := HMY.out l[j] (List.getElem_mem hll)
        have hns := may_size hmj
        have hkl := may_kind hmj
        have htl := text_len (l.take j) fun q hq => HMY.out q (List.mem_of_mem_take hq)
        rw [List.length_take, HN.out, Nat.min_eq_left hj] at htl
        have hnx : textB (l.take (j + 1)) = textB (l.take j) ++ (bs l[j].name ++ ([32] ++ wordB l[j].kind ++ [32]) ++ Lib.itoa l[j].len ++ [10]) := by
          rw [take_succ hll, text_snoc, lineB, kind_word, itoa_dig hkl.2.1 hkl.2.2]
        have hdl : (Lib.itoa l[j].len).length ≤ 20 := by rw [itoa_dig hkl.2.1 hkl.2.2]; exact digB_len _
        have KI := fun w h => itoa_any l[j].len (by omega) (by omega) w h
        have KW := wordOf_any l[j].kind
        have hwl := word_len l[j].kind
        obtain ⟨Q, hQ⟩ : ∃ Q, wordB l[j].kind = Q := ⟨_, rfl⟩
        obtain ⟨D, hD⟩ : ∃ D, Lib.itoa l[j].len = D := ⟨_, rfl⟩
        rw [hQ] at KW hwl
        rw [hD] at hdl
        simp only [hD] at KI
        rw [hQ, hD] at hnx
        obtain ⟨N, hNN⟩ : ∃ N, l[j].name = N := ⟨_, rfl⟩
        obtain ⟨KD, hKK⟩ : ∃ KD, l[j].kind = KD := ⟨_, rfl⟩
        obtain ⟨L, hLL⟩ : ∃ L, l[j].len = L := ⟨_, rfl⟩
        obtain ⟨Z, hZ⟩ : ∃ Z, textB (l.take j) = Z := ⟨_, rfl⟩
        rw [hNN] at x0 hns hnx
        rw [hKK] at x1 KW
        rw [hLL] at x2 KI
        rw [hZ] at HB0 htl hnx
        have hQs := sof_size Q
        have hDs := sof_size D
        have HW : Hid (∀ w, Calls Tryd.prog 33 #[.int .i64 KD] w fun e w' => e = .returned (.string (sof Q)) ∧ w' = w) := KW
        have HI : Hid (∀ w, Laid w → Calls Tryd.prog 34 #[.int .i64 L] w fun e w' => e = .returned (.string (sof D)) ∧ Below w.heap.size w w') := KI
        have HNX : Hid (textB (l.take (j + 1)) = Z ++ (bs N ++ ([32] ++ Q ++ [32]) ++ D ++ [10])) := hnx
        have hxl : Z.length + (bs N ++ ([32] ++ Q ++ [32]) ++ D ++ [10]).length ≤ 140737488355328 := by
          simp only [List.length_append, List.length_cons, List.length_nil, bs_length]
          omega
        have c1 : ¬ (9223372036854775807 < N.size + 1) := by omega
        have c2 : ¬ (9223372036854775807 < N.size + 1 + Q.length) := by omega
        have c3 : ¬ (9223372036854775807 < N.size + 1 + Q.length + 1) := by omega
        have c4 : ¬ (9223372036854775807 < N.size + 1 + Q.length + 1 + D.length) := by omega
        have c5 : ¬ (9223372036854775807 < N.size + 1 + Q.length + 1 + D.length + 1) := by omega
        clear hx hmj hNN hKK hLL hZ hD hQ KI KW hnx hkl
        go_upto_region 8 with fail
        obtain ⟨G, hGe⟩ : ∃ G, wr.heap.size = G := ⟨_, rfl⟩
        have hG0 : (wr.alloc (.cells #[.string N, .int .i64 KD, .int .i64 L] 30)).heap[G]? = some (.cells #[.string N, .int .i64 KD, .int .i64 L] 30 (0, 0)) := by rw [← hGe]; exact heap_alloc_new wr _
        have hGl0 : G < (wr.alloc (.cells #[.string N, .int .i64 KD, .int .i64 L] 30)).heap.size := by simp; omega
        have hbA : Below w0.heap.size w0 (wr.alloc (.cells #[.string N, .int .i64 KD, .int .i64 L] 30)) := bel hb (bel_alloc _ _)
        have hGb : G ≠ w0.heap.size := by have := bd_lt HB0.out; omega
        have HBA : Hid (Bd w0.heap.size w0.heap.size Z (wr.alloc (.cells #[.string N, .int .i64 KD, .int .i64 L] 30))) := HB0.out.below (bel_alloc _ _)
        rw [hGe]
        generalize wr.alloc (.cells #[.string N, .int .i64 KD, .int .i64 L] 30) = wA at hG0 hGl0 hbA HBA ⊢
        have hG := hG0
        have hGl := hGl0
        have HB := HBA
        have hLA : Laid wA.drew := ((HL.out.below hb0).below hbA).below (bel_d _)
        obtain ⟨g0, g1, g2⟩ := three_cells hG
        have HG : Hid (∀ w2 : World, w2.heap[G]? = wA.heap[G]? → w2.cell? ⟨G, 0, none⟩ = some (.string N) ∧ w2.cell? ⟨G, 1, none⟩ = some (.int .i64 KD) ∧ w2.cell? ⟨G, 2, none⟩ = some (.int .i64 L)) := fun w2 h => three_cells (h.trans hG)
        have HG3 : Hid (∀ w2 : World, w2.heap[G]? = some (.cells #[.string N, .int .i64 KD, .int .i64 L] 30 (0, 0)) → w2.cell? ⟨G, 0, none⟩ = some (.string N) ∧ w2.cell? ⟨G, 1, none⟩ = some (.int .i64 KD) ∧ w2.cell? ⟨G, 2, none⟩ = some (.int .i64 L)) := fun w2 h => three_cells h
        have hsA := hbA.size
        clear hG0 hGl0 HBA HB0
        refine wp_region_held_drew (S := (fun w' => w'.cell? ⟨G, 0, none⟩ = some (.string N) ∧ w'.cell? ⟨G, 1, none⟩ = some (.int .i64 KD) ∧ w'.cell? ⟨G, 2, none⟩ = some (.int .i64 L))) (by kernel_rfl) ?_ (fun hHeld => ?_)
        · ((try dsimp only); go_keep)
        refine wpAnyH_take (i := 0) (v := ?_) (by simp only [List.getElem?_toArray, List.getElem?_cons_succ, List.getElem?_cons_zero]; rfl) (by kernel_rfl) (by kernel_rfl) (by kernel_rfl) (by exact fun _ _ _ h => h) (Or.inl ⟨by rfl, ?_⟩) (by assumption) ?_
        rotate_left 1
        · (intro wS hSw; (try dsimp only at hSw); go_simp; try (with_reducible rfl))
        try simp only [Act.put, List.setIfInBounds_toArray, List.set_cons_zero, List.set_cons_succ]
        refine wpAnyH_take (i := 1) (v := ?_) (by simp only [List.getElem?_toArray, List.getElem?_cons_succ, List.getElem?_cons_zero]; rfl) (by kernel_rfl) (by kernel_rfl) (by kernel_rfl) (by exact fun _ _ _ h => h) (Or.inl ⟨by rfl, ?_⟩) (by assumption) ?_
        rotate_left 1
        · (intro wS hSw; (try dsimp only at hSw); go_simp; try (with_reducible rfl))
        try simp only [Act.put, List.setIfInBounds_toArray, List.set_cons_zero, List.set_cons_succ]
        refine wpAnyH_take (i := 2) (v := ?_) (by simp only [List.getElem?_toArray, List.getElem?_cons_succ, List.getElem?_cons_zero]; rfl) (by kernel_rfl) (by kernel_rfl) (by kernel_rfl) (by exact fun _ _ _ h => h) (Or.inl ⟨by rfl, ?_⟩) (by assumption) ?_
        rotate_left 1
        · (intro wS hSw; (try dsimp only at hSw); go_simp; try (with_reducible rfl))
        try simp only [Act.put, List.setIfInBounds_toArray, List.set_cons_zero, List.set_cons_succ]
        refine wpAnyH_take (i := 3) (v := ?_) (by simp only [List.getElem?_toArray, List.getElem?_cons_succ, List.getElem?_cons_zero]; rfl) (by kernel_rfl) (by kernel_rfl) (by kernel_rfl) (by exact fun _ _ _ h => h) (Or.inl ⟨by rfl, ?_⟩) (by assumption) ?_
        rotate_left 1
        · (intro wS hSw; (try dsimp only at hSw); go_simp; try (with_reducible rfl))
        try simp only [Act.put, List.setIfInBounds_toArray, List.set_cons_zero, List.set_cons_succ]
        refine wpAnyH_take (i := 4) (v := ?_) (by simp only [List.getElem?_toArray, List.getElem?_cons_succ, List.getElem?_cons_zero]; rfl) (by kernel_rfl) (by kernel_rfl) (by kernel_rfl) (by exact fun _ _ _ h => h) (Or.inl ⟨by rfl, ?_⟩) (by assumption) ?_
        rotate_left 1
        · (intro wS hSw; (try dsimp only at hSw); go_simp; try (with_reducible rfl))
        try simp only [Act.put, List.setIfInBounds_toArray, List.set_cons_zero, List.set_cons_succ]
        refine wpAnyH_take (i := 8) (v := ?_) (by simp only [List.getElem?_toArray, List.getElem?_cons_succ, List.getElem?_cons_zero]; rfl) (by kernel_rfl) (by kernel_rfl) (by kernel_rfl) (by exact fun _ _ _ h => h) (Or.inl ⟨by rfl, ?_⟩) (by assumption) ?_
        rotate_left 1
        · (intro wS hSw; (try dsimp only at hSw); go_simp; try (with_reducible rfl))
        try simp only [Act.put, List.setIfInBounds_toArray, List.set_cons_zero, List.set_cons_succ]
        refine wpAnyH_take (i := 9) (v := ?_) (by simp only [List.getElem?_toArray, List.getElem?_cons_succ, List.getElem?_cons_zero]; rfl) (by kernel_rfl) (by kernel_rfl) (by kernel_rfl) (by exact fun _ _ _ h => h) (Or.inl ⟨by rfl, ?_⟩) (by assumption) ?_
        rotate_left 1
        · (intro wS hSw; (try dsimp only at hSw); go_simp; try (with_reducible rfl))
        try simp only [Act.put, List.setIfInBounds_toArray, List.set_cons_zero, List.set_cons_succ]
        clear hHeld
        refine wpAnyH_ready (rs := [5]) (by kernel_rfl) (by simp) ?_
        refine AllReadyH.cons (i := 5) (by simp only [List.getElem?_toArray, List.getElem?_cons_succ, List.getElem?_cons_zero]; rfl) (fun K hK => ?_) AllReadyH.nil
        go_simp
        refine (HW.out _).mono ?_; rintro e w9 ⟨rfl, rfl⟩
        try (go_wp2_with fail)
        refine hK.out _ _ ?_ (fun hHeld => ?_)
        · ((try dsimp only); go_keep)
        clear hK K
        try simp only [Act.put, List.setIfInBounds_toArray, List.set_cons_zero, List.set_cons_succ]
        refine wpAnyH_take (i := 6) (v := ?_) (by simp only [List.getElem?_toArray, List.getElem?_cons_succ, List.getElem?_cons_zero]; rfl) (by kernel_rfl) (by kernel_rfl) (by kernel_rfl) (by exact fun _ _ _ h => h) (Or.inl ⟨by rfl, ?_⟩) (by assumption) ?_
        rotate_left 1
        · (intro wS hSw; (try dsimp only at hSw); go_simp; try (with_reducible rfl))
        try simp only [Act.put, List.setIfInBounds_toArray, List.set_cons_zero, List.set_cons_succ]
        refine wpAnyH_take (i := 7) (v := ?_) (by simp only [List.getElem?_toArray, List.getElem?_cons_succ, List.getElem?_cons_zero]; rfl) (by kernel_rfl) (by kernel_rfl) (by kernel_rfl) (by exact fun _ _ _ h => h) (Or.inl ⟨by rfl, ?_⟩) (by assumption) ?_
        rotate_left 1
        · (intro wS hSw; (try dsimp only at hSw); go_simp; try (with_reducible rfl))
        try simp only [Act.put, List.setIfInBounds_toArray, List.set_cons_zero, List.set_cons_succ]
        clear hHeld
        refine wpAnyH_ready (rs := [10]) (by kernel_rfl) (by simp) ?_
        refine AllReadyH.cons (i := 10) (by simp only [List.getElem?_toArray, List.getElem?_cons_succ, List.getElem?_cons_zero]; rfl) (fun K hK => ?_) AllReadyH.nil
        go_simp
        refine (HI.out _ hLA).mono ?_; rintro e w2 ⟨rfl, hb2'⟩; have hb2 : Below wA.heap.size wA w2 := bel (bel_d wA) hb2'; clear hb2'; obtain ⟨d0, d1, d2⟩ := HG.out w2 (hb2.block G hGl)
        try (go_wp2_with fail)
        refine hK.out _ _ ?_ (fun hHeld => ?_)
        · ((try dsimp only); go_keep)
        clear hK K
        try simp only [Act.put, List.setIfInBounds_toArray, List.set_cons_zero, List.set_cons_succ]
        refine wpAnyH_take (i := 11) (v := ?_) (by simp only [List.getElem?_toArray, List.getElem?_cons_succ, List.getElem?_cons_zero]; rfl) (by kernel_rfl) (by kernel_rfl) (by kernel_rfl) (by exact fun _ _ _ h => h) (Or.inl ⟨by rfl, ?_⟩) (by assumption) ?_
        rotate_left 1
        · (intro wS hSw; (try dsimp only at hSw); go_simp; try (with_reducible rfl))
        try simp only [Act.put, List.setIfInBounds_toArray, List.set_cons_zero, List.set_cons_succ]
        refine wpAnyH_take (i := 12) (v := ?_) (by simp only [List.getElem?_toArray, List.getElem?_cons_succ, List.getElem?_cons_zero]; rfl) (by kernel_rfl) (by kernel_rfl) (by kernel_rfl) (by exact fun _ _ _ h => h) (Or.inl ⟨by rfl, ?_⟩) (by assumption) ?_
        rotate_left 1
        · (intro wS hSw; (try dsimp only at hSw); go_simp; try (with_reducible rfl))
        try simp only [Act.put, List.setIfInBounds_toArray, List.set_cons_zero, List.set_cons_succ]
        clear hHeld
        refine wpAnyH_ready (rs := [13]) (by kernel_rfl) (by simp) ?_
        refine AllReadyH.cons (i := 13) (by simp only [List.getElem?_toArray, List.getElem?_cons_succ, List.getElem?_cons_zero]; rfl) (fun K hK => ?_) AllReadyH.nil
        go_simp
        rw [line_cat2]; refine (write_any w0.heap.size w0.heap.size Z (bs N ++ ([32] ++ Q ++ [32]) ++ D ++ [10]) w2 (HB.out.below hb2) (by omega) (by have := hb2.size; omega)).mono ?_; rintro e w3 ⟨rfl, hbd3, hb3, hk3⟩; have hG3 : w3.heap[G]? = some (.cells #[.string N, .int .i64 KD, .int .i64 L] 30 (0, 0)) := hk3 G _ _ _ ((hb2.block G hGl).trans hG) (by decide) hGb; obtain ⟨e0, e1, e2⟩ := HG3.out w3 hG3; have HB3 : Hid (Bd w0.heap.size w0.heap.size (Z ++ (bs N ++ ([32] ++ Q ++ [32]) ++ D ++ [10])) w3) := hbd3; clear hbd3 hk3 hG3
        try (go_wp2_with fail)
        refine hK.out _ _ ?_ (fun hHeld => ?_)
        · ((try dsimp only); go_keep)
        clear hK K
        try simp only [Act.put, List.setIfInBounds_toArray, List.set_cons_zero, List.set_cons_succ]
        refine wpAnyH_done (by kernel_rfl) ?_ _
        go_wp2
        go_roundw
        case rel => exact ⟨(bel hbA hb2).trans hb3, j + 1, by omega, by go_num, by rw [HNX.out]; exact HB3⟩
        case measure => simp [intOf]; omega
      · have : j = n := by omega
        subst this
        have HBn : Hid (Bd w0.heap.size w0.heap.size (textB l) wr) := by
          have := HB0.out
          rw [List.take_of_length_le (by rw [HN.out]; exact Nat.le_refl _)] at this
          exact this
        clear HB0
        go_wp2_with (go_at_call 35; refine (sh_Builder_String_any w0.heap.size w0.heap.size (textB l) _ HBn.out hb.size).mono ?_; rintro e w2 ⟨rfl, hb2⟩)
        go_ret2
        exact ⟨rfl, bel hb0 (hb.trans hb2)⟩
  · have hC1 : (C == 0) = false := by simpa using hC0
    have hC2 : (C != 0) = true := by simpa using hC0
    have hp : printP l = ([], C) := by unfold printP; rw [hC, if_pos hC0]
    rw [hp]
    clear hC hC0 hp
    go_enter Tryd.func21, Tryd.ntmps21
    go_wp2_with (go_at_call 11; refine HK.out.mono ?_; rintro e w0 ⟨rfl, hb0⟩)
    go_ret2
    exact ⟨rfl, hb0⟩

end Go.Proofs.YtmpfoajpafglgaaDoor
