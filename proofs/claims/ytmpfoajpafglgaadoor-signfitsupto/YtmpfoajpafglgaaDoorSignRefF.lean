import Derived.Test.YtmpfoajpafglgaaDoorSignRefE
/- The reference: digits, Print, Fits. -/
namespace Go.Proofs.YtmpfoajpafglgaaDoor
open Go.RowKit
set_option linter.unusedVariables false
set_option linter.unusedSimpArgs false

theorem dig_fin : ∀ d : Fin 10, (⟨#[48, 49, 50, 51, 52, 53, 54, 55, 56, 57]⟩ : ByteArray).extract d.val (d.val + 1) = sof [(48 + d.val).toUInt8] := by decide
theorem dig_at {d : Nat} (h : d < 10) : (⟨#[48, 49, 50, 51, 52, 53, 54, 55, 56, 57]⟩ : ByteArray).extract d (d + 1) = sof [(48 + d).toUInt8] := dig_fin ⟨d, h⟩
theorem sof_app (a b : Bs) : sof a ++ sof b = sof (a ++ b) := by
  unfold sof
  apply ByteArray.ext
  simp
theorem ret_str {a b : ByteArray} (h : a = b) : Ending.returned (.string a) = .returned (.string b) := by rw [h]
theorem sof_size (a : Bs) : (sof a).size = a.length := by rw [← bs_length]; unfold sof; rw [bs_of]
theorem digF_len : ∀ f n, (digF f n).length ≤ f
  | 0, n => Nat.le_refl _
  | f + 1, n => by
    unfold digF
    split
    · simp
    · have := digF_len f (n / 10); simp; omega

set_option maxRecDepth 100000 in
set_option maxHeartbeats 1000000 in
theorem rdigits_to : ∀ (f n : Nat) (w : World), 1 ≤ f → f ≤ 20 → n < 10 ^ f → n < 1000000 →
    Calls Tryd.prog 36 #[.int .i64 n] w fun e w' => e = .returned (.string (sof (digF f n))) ∧ Below w.heap.size w w' := by
  intro f
  induction f with
  | zero =>
    intro n w h1
    omega
  | succ f ih =>
    intro n w h1 hf hn hm
    have HIH : Hid (∀ (n : Nat) (w : World), 1 ≤ f → f ≤ 20 → n < 10 ^ f → n < 1000000 → Calls Tryd.prog 36 #[.int .i64 n] w fun e w' => e = .returned (.string (sof (digF f n))) ∧ Below w.heap.size w w') := ih
    clear ih
    by_cases h10 : n < 10
    · have hd : digF (f + 1) n = [(48 + n).toUInt8] := by rw [digF, if_pos h10]
      have n1 : (n : Int) < 10 := by omega
      have n0 : (0 : Int) ≤ (n : Int) := by omega
      have HX : Hid ((⟨#[48, 49, 50, 51, 52, 53, 54, 55, 56, 57]⟩ : ByteArray).extract n (n + 1) = sof [(48 + n).toUInt8]) := dig_at h10
      rw [hd]
      clear hd HIH hn
      go_enter Tryd.func36, Tryd.ntmps36
      go_wp2
      go_ret
      exact ⟨ret_str HX.out, bel0 _⟩
    · have hq : n / 10 < 10 ^ f := by rw [Nat.pow_succ] at hn; omega
      have n1 : ¬ (n : Int) < 10 := by omega
      have n0 : (0 : Int) ≤ (n : Int) := by omega
      obtain ⟨q, hqq⟩ : ∃ q, n / 10 = q := ⟨_, rfl⟩
      obtain ⟨r, hrr⟩ : ∃ r, n % 10 = r := ⟨_, rfl⟩
      have hd : digF (f + 1) n = digF f q ++ [(48 + r).toUInt8] := by rw [digF, if_neg h10, hqq, hrr]
      have hr10 : r < 10 := by omega
      have HX : Hid ((⟨#[48, 49, 50, 51, 52, 53, 54, 55, 56, 57]⟩ : ByteArray).extract r (r + 1) = sof [(48 + r).toUInt8]) := dig_at hr10
      have e1 : (n : Int) / 10 = (q : Int) := by omega
      have e2 : (n : Int) % 10 = (r : Int) := by omega
      have e3 : Int.tdiv (n : Int) 10 = (q : Int) := by rw [Int.tdiv_eq_ediv_of_nonneg n0]; exact e1
      have e4 : Int.tmod (n : Int) 10 = (r : Int) := by rw [Int.tmod_eq_emod_of_nonneg n0]; exact e2
      have r0 : (0 : Int) ≤ (r : Int) := by omega
      have r1 : (r : Int) < 10 := by omega
      have hw1 : IntKind.i64.wrap ((r : Int) + 1) = (r : Int) + 1 := by rw [IntKind.wrap_i64]; omega
      have hw2 : IntKind.i64.wrap (q : Int) = (q : Int) := by rw [IntKind.wrap_i64]; omega
      have hw3 : IntKind.i64.wrap (r : Int) = (r : Int) := by rw [IntKind.wrap_i64]; omega
      have r2 : (r : Int) + 1 ≤ 10 := by omega
      have r3 : (r : Int) ≤ (r : Int) + 1 := by omega
      have r4 : (0 : Int) ≤ (r : Int) + 1 := by omega
      have r5 : decide ((10 : Int) < (r : Int) + 1) = false := decide_eq_false (by omega)
      have r6 : r + 1 ≤ 10 := hr10
      have r7 : ¬ (10 < r + 1) := by omega
      have r8 : r ≤ r + 1 := by omega
      have HQ : Hid (∀ w, Calls Tryd.prog 36 #[.int .i64 (q : Int)] w fun e w' => e = .returned (.string (sof (digF f q))) ∧ Below w.heap.size w w') := fun w => HIH.out q w (by cases f with | zero => simp at hq; omega | succ f => omega) (by omega) (by rw [← hqq]; exact hq) (by omega)
      have hfl := digF_len f q
      rw [hd]
      obtain ⟨Y, hY⟩ : ∃ Y, digF f q = Y := ⟨_, rfl⟩
      rw [hY] at HQ hfl ⊢
      have hYs := sof_size Y
      have hcat : ¬ (9223372036854775807 < Y.length + 1) := by omega
      clear hd HIH hq hn hY
      go_enter Tryd.func36, Tryd.ntmps36
      go_upto_region 3 with fail
      have HB := bel0 w
      refine wp_region_held_drew (S := (fun _ => True)) (by kernel_rfl) ?_ (fun hHeld => ?_)
      · trivial
      refine wpAnyH_take (i := 0) (v := ?_) (by simp only [List.getElem?_toArray, List.getElem?_cons_succ, List.getElem?_cons_zero]; rfl) (by kernel_rfl) (by kernel_rfl) (by kernel_rfl) (by exact fun _ _ _ h => h) (Or.inl ⟨by rfl, ?_⟩) (by assumption) ?_
      rotate_left 1
      · (intro wS hSw; (try dsimp only at hSw); go_simp; try (with_reducible rfl))
      try simp only [Act.put, List.setIfInBounds_toArray, List.set_cons_zero, List.set_cons_succ]
      refine wpAnyH_take (i := 1) (v := ?_) (by simp only [List.getElem?_toArray, List.getElem?_cons_succ, List.getElem?_cons_zero]; rfl) (by kernel_rfl) (by kernel_rfl) (by kernel_rfl) (by exact fun _ _ _ h => h) (Or.inl ⟨by rfl, ?_⟩) (by assumption) ?_
      rotate_left 1
      · (intro wS hSw; (try dsimp only at hSw); go_simp; try (with_reducible rfl))
      try simp only [Act.put, List.setIfInBounds_toArray, List.set_cons_zero, List.set_cons_succ]
      refine wpAnyH_take (i := 3) (v := ?_) (by simp only [List.getElem?_toArray, List.getElem?_cons_succ, List.getElem?_cons_zero]; rfl) (by kernel_rfl) (by kernel_rfl) (by kernel_rfl) (by exact fun _ _ _ h => h) (Or.inl ⟨by rfl, ?_⟩) (by assumption) ?_
      rotate_left 1
      · (intro wS hSw; (try dsimp only at hSw); go_simp; try (with_reducible rfl))
      try simp only [Act.put, List.setIfInBounds_toArray, List.set_cons_zero, List.set_cons_succ]
      refine wpAnyH_take (i := 4) (v := ?_) (by simp only [List.getElem?_toArray, List.getElem?_cons_succ, List.getElem?_cons_zero]; rfl) (by kernel_rfl) (by kernel_rfl) (by kernel_rfl) (by exact fun _ _ _ h => h) (Or.inl ⟨by rfl, ?_⟩) (by assumption) ?_
      rotate_left 1
      · (intro wS hSw; (try dsimp only at hSw); go_simp; try (with_reducible rfl))
      try simp only [Act.put, List.setIfInBounds_toArray, List.set_cons_zero, List.set_cons_succ]
      refine wpAnyH_take (i := 5) (v := ?_) (by simp only [List.getElem?_toArray, List.getElem?_cons_succ, List.getElem?_cons_zero]; rfl) (by kernel_rfl) (by kernel_rfl) (by kernel_rfl) (by exact fun _ _ _ h => h) (Or.inl ⟨by rfl, ?_⟩) (by assumption) ?_
      rotate_left 1
      · (intro wS hSw; (try dsimp only at hSw); go_simp; try (with_reducible rfl))
      try simp only [Act.put, List.setIfInBounds_toArray, List.set_cons_zero, List.set_cons_succ]
      refine wpAnyH_take (i := 6) (v := ?_) (by simp only [List.getElem?_toArray, List.getElem?_cons_succ, List.getElem?_cons_zero]; rfl) (by kernel_rfl) (by kernel_rfl) (by kernel_rfl) (by exact fun _ _ _ h => h) (Or.inl ⟨by rfl, ?_⟩) (by assumption) ?_
      rotate_left 1
      · (intro wS hSw; (try dsimp only at hSw); go_simp; try (with_reducible rfl))
      try simp only [Act.put, List.setIfInBounds_toArray, List.set_cons_zero, List.set_cons_succ]
      refine wpAnyH_take (i := 7) (v := ?_) (by simp only [List.getElem?_toArray, List.getElem?_cons_succ, List.getElem?_cons_zero]; rfl) (by kernel_rfl) (by kernel_rfl) (by kernel_rfl) (by exact fun _ _ _ h => h) (Or.inl ⟨by rfl, ?_⟩) (by assumption) ?_
      rotate_left 1
      · (intro wS hSw; (try dsimp only at hSw); go_simp; try (with_reducible rfl))
      try simp only [Act.put, List.setIfInBounds_toArray, List.set_cons_zero, List.set_cons_succ]
      refine wpAnyH_take (i := 8) (v := ?_) (by simp only [List.getElem?_toArray, List.getElem?_cons_succ, List.getElem?_cons_zero]; rfl) (by kernel_rfl) (by kernel_rfl) (by kernel_rfl) (by exact fun _ _ _ h => h) (Or.inl ⟨by rfl, ?_⟩) (by assumption) ?_
      rotate_left 1
      · (intro wS hSw; (try dsimp only at hSw); go_simp; try (with_reducible rfl))
      try simp only [Act.put, List.setIfInBounds_toArray, List.set_cons_zero, List.set_cons_succ]
      clear hHeld
      refine wpAnyH_ready (rs := [2]) (by kernel_rfl) (by simp) ?_
      refine AllReadyH.cons (i := 2) (by simp only [List.getElem?_toArray, List.getElem?_cons_succ, List.getElem?_cons_zero]; rfl) (fun K hK => ?_) AllReadyH.nil
      go_simp
      (go_at_call 36; refine (HQ.out _).mono ?_; rintro e w3 ⟨rfl, hb3⟩)
      try (go_wp2_with fail)
      refine hK.out _ _ ?_ (fun hHeld => ?_)
      · trivial
      clear hK K
      try simp only [Act.put, List.setIfInBounds_toArray, List.set_cons_zero, List.set_cons_succ]
      refine wpAnyH_take (i := 9) (v := ?_) (by simp only [List.getElem?_toArray, List.getElem?_cons_succ, List.getElem?_cons_zero]; rfl) (by kernel_rfl) (by kernel_rfl) (by kernel_rfl) (by exact fun _ _ _ h => h) (Or.inl ⟨by rfl, ?_⟩) (by assumption) ?_
      rotate_left 1
      · (intro wS hSw; (try dsimp only at hSw); go_simp; try (with_reducible rfl))
      try simp only [Act.put, List.setIfInBounds_toArray, List.set_cons_zero, List.set_cons_succ]
      refine wpAnyH_take (i := 10) (v := ?_) (by simp only [List.getElem?_toArray, List.getElem?_cons_succ, List.getElem?_cons_zero]; rfl) (by kernel_rfl) (by kernel_rfl) (by kernel_rfl) (by exact fun _ _ _ h => h) (Or.inl ⟨by rfl, ?_⟩) (by assumption) ?_
      rotate_left 1
      · (intro wS hSw; (try dsimp only at hSw); go_simp; try (with_reducible rfl))
      try simp only [Act.put, List.setIfInBounds_toArray, List.set_cons_zero, List.set_cons_succ]
      refine wpAnyH_done (by kernel_rfl) ?_ _
      go_wp2
      go_ret
      exact ⟨ret_str (by rw [HX.out, sof_app]), bel (bel_d w) hb3⟩

theorem line_cat (Z Q D : Bs) (N : ByteArray) : sof Z ++ N ++ sof Q ++ sof D ++ (⟨#[10]⟩ : ByteArray) = sof (Z ++ (bs N ++ Q ++ D ++ [10])) := by
  apply ByteArray.ext
  simp [sof, bs]
theorem digB_len (n : Nat) : (digB n).length ≤ 20 := digF_len 20 n
theorem rdigits_any (n : Nat) (hn : n ≤ 4096) (w : World) : Calls Tryd.prog 36 #[.int .i64 n] w fun e w' => e = .returned (.string (sof (digB n))) ∧ Below w.heap.size w w' :=
  rdigits_to 20 n w (by decide) (Nat.le_refl _) (Nat.lt_of_le_of_lt hn (by decide)) (by omega)
theorem kindB_len (k : Int) : (kindB k).length ≤ 9 := by unfold kindB; split <;> decide
theorem text_snoc (l : List Par) (p : Par) : textB (l ++ [p]) = textB l ++ lineB p := by simp [textB]
theorem text_len (l : List Par) (h : ∀ p ∈ l, mayP p = true) : (textB l).length ≤ 94 * l.length := by
  induction l with
  | nil => simp [textB]
  | cons p r ih =>
    have e : textB (p :: r) = lineB p ++ textB r := by simp [textB]
    have h1 := ih fun q hq => h q (by simp [hq])
    have h2 := may_size (h p (by simp))
    have h3 := digB_len p.len.toNat
    have h4 := kindB_len p.kind
    rw [e, List.length_append]
    unfold lineB
    simp only [List.length_append, List.length_cons, List.length_nil, bs_length]
    omega
theorem print_err {l : List Par} (h : checkP l ≠ 0) : printP l = ([], checkP l) := by unfold printP; rw [if_pos h]
theorem print_ok {l : List Par} (h : checkP l = 0) : printP l = (textB l, 0) := by unfold printP; rw [if_neg (by rw [h]; decide)]

set_option maxRecDepth 100000 in
set_option maxHeartbeats 4000000 in
theorem rPrint_any (v : Value) (l : List Par) (hl : l.length ≤ 140737488351232) (hM : ∀ p ∈ l, p.name.size ≤ 140737488351232) (w : World) (hr : Rd w v l) :
    Calls Tryd.prog 22 #[v] w fun e w' => e = .returned (.tuple #[.string (sof (printP l).1), .int .i64 (printP l).2]) ∧ Below w.heap.size w w' := by
  have KC := rCheck_any v l hl hM w hr
  obtain ⟨C, hC⟩ : ∃ C, checkP l = C := ⟨_, rfl⟩
  rw [hC] at KC
  have HK : Hid (Calls Tryd.prog 12 #[v] w fun e w' => e = .returned (.int .i64 C) ∧ Below w.heap.size w w') := KC
  clear KC
  by_cases hC0 : C = 0
  · subst hC0
    have hlen := check_len hC
    have hmay := check_may hC
    rw [print_ok hC]
    obtain ⟨p, c, rfl, hr⟩ := hr
    obtain ⟨n, hn⟩ : ∃ n, l.length = n := ⟨_, rfl⟩
    have HN : Hid (l.length = n) := hn
    have HR : Hid (Row w p l) := hr
    have HMY : Hid (∀ p ∈ l, mayP p = true) := hmay
    rw [hn] at hlen hl HK ⊢
    clear hn hr hM hC hmay
    go_enter Tryd.func22, Tryd.ntmps22
    go_wp2_with (go_at_call 12; refine HK.out.mono ?_; rintro e w0 ⟨rfl, hb0⟩)
    go_loopw [5, 6] (fun sv iv wr => Below w.heap.size w wr ∧ ∃ j : Nat, j ≤ n ∧ iv = .int .i64 j ∧ sv = .string (sof (textB (l.take j)))) (fun _ iv _ => n - (intOf iv).toNat)
    case atStart => exact ⟨hb0, 0, Nat.zero_le _, rfl, rfl⟩
    case round =>
      obtain ⟨hb, j, hj, rfl, rfl⟩ := hrel
      by_cases hlt : j < n
      · have hll : j < l.length := by rw [HN.out]; exact hlt
        obtain ⟨b, o, rfl, hx⟩ := HR.out.at hll
        obtain ⟨x0, x1, x2⟩ := hx.below hb
        have j1 : (0 : Int) ≤ (j : Int) := by omega
        have j2 : (j : Int) < (n : Int) := by omega
        have hmj := HMY.out l[j] (List.getElem_mem hll)
        have hns := may_size hmj
        have htl := text_len (l.take j) fun q hq => HMY.out q (List.mem_of_mem_take hq)
        rw [List.length_take, HN.out, Nat.min_eq_left hj] at htl
        have hnx : textB (l.take (j + 1)) = textB (l.take j) ++ lineB l[j] := by rw [take_succ hll, text_snoc]
        unfold mayP at hmj
        simp only [Bool.and_eq_true, decide_eq_true_eq] at hmj
        obtain ⟨L, hL⟩ : ∃ L : Nat, l[j].len = (L : Int) := ⟨l[j].len.toNat, by omega⟩
        have hL4 : L ≤ 4096 := by omega
        unfold lineB at hnx
        rw [hL] at x2 hnx
        rw [Int.toNat_natCast] at hnx
        obtain ⟨N, hNN⟩ : ∃ N, l[j].name = N := ⟨_, rfl⟩
        obtain ⟨K, hKK⟩ : ∃ K, l[j].kind = K := ⟨_, rfl⟩
        rw [hNN] at x0 hns hnx
        rw [hKK] at x1 hnx
        obtain ⟨Z, hZ⟩ : ∃ Z, textB (l.take j) = Z := ⟨_, rfl⟩
        rw [hZ] at htl hnx ⊢
        have hZs := sof_size Z
        have hdl := digB_len L
        have KD := rdigits_any L hL4
        obtain ⟨D, hDD⟩ : ∃ D, digB L = D := ⟨_, rfl⟩
        rw [hDD] at KD hdl hnx
        have hDs := sof_size D
        have HD : Hid (∀ w, Calls Tryd.prog 36 #[.int .i64 (L : Int)] w fun e w' => e = .returned (.string (sof D)) ∧ Below w.heap.size w w') := KD
        have HNX : Hid (textB (l.take (j + 1)) = Z ++ (bs N ++ kindB K ++ D ++ [10])) := hnx
        have c1 : ¬ (9223372036854775807 < Z.length + N.size) := by omega
        clear hx hmj hL hNN hKK hZ KD hDD hnx
        obtain ⟨Q, hQ⟩ : ∃ Q, kindB K = Q := ⟨_, rfl⟩
        have hql := kindB_len K
        rw [hQ] at HNX hql
        have HKB : Hid (kindB K = Q) := hQ
        have hQs := sof_size Q
        have c2 : ¬ (9223372036854775807 < Z.length + N.size + Q.length) := by omega
        have c3 : ¬ (9223372036854775807 < Z.length + N.size + Q.length + D.length) := by omega
        have c4 : ¬ (9223372036854775807 < Z.length + N.size + Q.length + D.length + 1) := by omega
        clear hQ
        go_upto_if 24 with fail
        go_cut [7] (fun kv wx => kv = .string (sof Q) ∧ wx = wr)
        case first =>
          have hkb := HKB.out
          unfold kindB at hkb
          cases h2 : (K == 2)
          · rw [h2] at hkb
            have HQ2 : Hid (Q = [32, 114, 101, 97, 108, 32]) := hkb.symm
            clear hkb HKB HNX
            go_wp2
            go_meet
            exact ⟨by rw [HQ2.out]; rfl, rfl⟩
          · rw [h2] at hkb
            have HQ2 : Hid (Q = [32, 99, 111, 109, 112, 108, 101, 120, 32]) := hkb.symm
            clear hkb HKB HNX
            go_wp2
            go_meet
            exact ⟨by rw [HQ2.out]; rfl, rfl⟩
        case rest =>
        obtain ⟨rfl, rfl⟩ := hcut
        rename World => wr
        clear HKB
        go_upto_region 11 with fail
        refine wp_region_held_drew (S := (fun w' => w'.cell? ⟨b, o + j * 3, none⟩ = some (.string N) ∧ w'.cell? ⟨b, o + j * 3 + 2, none⟩ = some (.int .i64 (L : Int)))) (by kernel_rfl) ?_ (fun hHeld => ?_)
        · ((try dsimp only); go_keep)
        refine wpAnyH_take (i := 0) (v := ?_) (by simp only [List.getElem?_toArray, List.getElem?_cons_succ, List.getElem?_cons_zero]; rfl) (by kernel_rfl) (by kernel_rfl) (by kernel_rfl) (by exact fun _ _ _ h => h) (Or.inl ⟨by rfl, ?_⟩) (by assumption) ?_
        rotate_left 1
        · (intro wS hSw; (try dsimp only at hSw); go_simp; try (with_reducible rfl))
        try simp only [Act.put, List.setIfInBounds_toArray, List.set_cons_zero, List.set_cons_succ]
        refine wpAnyH_take (i := 1) (v := ?_) (by simp only [List.getElem?_toArray, List.getElem?_cons_succ, List.getElem?_cons_zero]; rfl) (by kernel_rfl) (by kernel_rfl) (by kernel_rfl) (by exact fun _ _ _ h => h) (Or.inl ⟨by rfl, ?_⟩) (by assumption) ?_
        rotate_left 1
        · (intro wS hSw; (try dsimp only at hSw); go_simp; try (with_reducible rfl))
        try simp only [Act.put, List.setIfInBounds_toArray, List.set_cons_zero, List.set_cons_succ]
        refine wpAnyH_take (i := 2) (v := ?_) (by simp only [List.getElem?_toArray, List.getElem?_cons_succ, List.getElem?_cons_zero]; rfl) (by kernel_rfl) (by kernel_rfl) (by kernel_rfl) (by exact fun _ _ _ h => h) (Or.inl ⟨by rfl, ?_⟩) (by assumption) ?_
        rotate_left 1
        · (intro wS hSw; (try dsimp only at hSw); go_simp; try (with_reducible rfl))
        try simp only [Act.put, List.setIfInBounds_toArray, List.set_cons_zero, List.set_cons_succ]
        refine wpAnyH_take (i := 3) (v := ?_) (by simp only [List.getElem?_toArray, List.getElem?_cons_succ, List.getElem?_cons_zero]; rfl) (by kernel_rfl) (by kernel_rfl) (by kernel_rfl) (by exact fun _ _ _ h => h) (Or.inl ⟨by rfl, ?_⟩) (by assumption) ?_
        rotate_left 1
        · (intro wS hSw; (try dsimp only at hSw); go_simp; try (with_reducible rfl))
        try simp only [Act.put, List.setIfInBounds_toArray, List.set_cons_zero, List.set_cons_succ]
        refine wpAnyH_take (i := 4) (v := ?_) (by simp only [List.getElem?_toArray, List.getElem?_cons_succ, List.getElem?_cons_zero]; rfl) (by kernel_rfl) (by kernel_rfl) (by kernel_rfl) (by exact fun _ _ _ h => h) (Or.inl ⟨by rfl, ?_⟩) (by assumption) ?_
        rotate_left 1
        · (intro wS hSw; (try dsimp only at hSw); go_simp; try (with_reducible rfl))
        try simp only [Act.put, List.setIfInBounds_toArray, List.set_cons_zero, List.set_cons_succ]
        refine wpAnyH_take (i := 5) (v := ?_) (by simp only [List.getElem?_toArray, List.getElem?_cons_succ, List.getElem?_cons_zero]; rfl) (by kernel_rfl) (by kernel_rfl) (by kernel_rfl) (by exact fun _ _ _ h => h) (Or.inl ⟨by rfl, ?_⟩) (by assumption) ?_
        rotate_left 1
        · (intro wS hSw; (try dsimp only at hSw); go_simp; try (with_reducible rfl))
        try simp only [Act.put, List.setIfInBounds_toArray, List.set_cons_zero, List.set_cons_succ]
        refine wpAnyH_take (i := 6) (v := ?_) (by simp only [List.getElem?_toArray, List.getElem?_cons_succ, List.getElem?_cons_zero]; rfl) (by kernel_rfl) (by kernel_rfl) (by kernel_rfl) (by exact fun _ _ _ h => h) (Or.inl ⟨by rfl, ?_⟩) (by assumption) ?_
        rotate_left 1
        · (intro wS hSw; (try dsimp only at hSw); go_simp; try (with_reducible rfl))
        try simp only [Act.put, List.setIfInBounds_toArray, List.set_cons_zero, List.set_cons_succ]
        refine wpAnyH_take (i := 7) (v := ?_) (by simp only [List.getElem?_toArray, List.getElem?_cons_succ, List.getElem?_cons_zero]; rfl) (by kernel_rfl) (by kernel_rfl) (by kernel_rfl) (by exact fun _ _ _ h => h) (Or.inl ⟨by rfl, ?_⟩) (by assumption) ?_
        rotate_left 1
        · (intro wS hSw; (try dsimp only at hSw); go_simp; try (with_reducible rfl))
        try simp only [Act.put, List.setIfInBounds_toArray, List.set_cons_zero, List.set_cons_succ]
        refine wpAnyH_take (i := 8) (v := ?_) (by simp only [List.getElem?_toArray, List.getElem?_cons_succ, List.getElem?_cons_zero]; rfl) (by kernel_rfl) (by kernel_rfl) (by kernel_rfl) (by exact fun _ _ _ h => h) (Or.inl ⟨by rfl, ?_⟩) (by assumption) ?_
        rotate_left 1
        · (intro wS hSw; (try dsimp only at hSw); go_simp; try (with_reducible rfl))
        try simp only [Act.put, List.setIfInBounds_toArray, List.set_cons_zero, List.set_cons_succ]
        refine wpAnyH_take (i := 9) (v := ?_) (by simp only [List.getElem?_toArray, List.getElem?_cons_succ, List.getElem?_cons_zero]; rfl) (by kernel_rfl) (by kernel_rfl) (by kernel_rfl) (by exact fun _ _ _ h => h) (Or.inl ⟨by rfl, ?_⟩) (by assumption) ?_
        rotate_left 1
        · (intro wS hSw; (try dsimp only at hSw); go_simp; try (with_reducible rfl))
        try simp only [Act.put, List.setIfInBounds_toArray, List.set_cons_zero, List.set_cons_succ]
        refine wpAnyH_take (i := 10) (v := ?_) (by simp only [List.getElem?_toArray, List.getElem?_cons_succ, List.getElem?_cons_zero]; rfl) (by kernel_rfl) (by kernel_rfl) (by kernel_rfl) (by exact fun _ _ _ h => h) (Or.inl ⟨by rfl, ?_⟩) (by assumption) ?_
        rotate_left 1
        · (intro wS hSw; (try dsimp only at hSw); go_simp; try (with_reducible rfl))
        try simp only [Act.put, List.setIfInBounds_toArray, List.set_cons_zero, List.set_cons_succ]
        refine wpAnyH_take (i := 11) (v := ?_) (by simp only [List.getElem?_toArray, List.getElem?_cons_succ, List.getElem?_cons_zero]; rfl) (by kernel_rfl) (by kernel_rfl) (by kernel_rfl) (by exact fun _ _ _ h => h) (Or.inl ⟨by rfl, ?_⟩) (by assumption) ?_
        rotate_left 1
        · (intro wS hSw; (try dsimp only at hSw); go_simp; try (with_reducible rfl))
        try simp only [Act.put, List.setIfInBounds_toArray, List.set_cons_zero, List.set_cons_succ]
        refine wpAnyH_take (i := 12) (v := ?_) (by simp only [List.getElem?_toArray, List.getElem?_cons_succ, List.getElem?_cons_zero]; rfl) (by kernel_rfl) (by kernel_rfl) (by kernel_rfl) (by exact fun _ _ _ h => h) (Or.inl ⟨by rfl, ?_⟩) (by assumption) ?_
        rotate_left 1
        · (intro wS hSw; (try dsimp only at hSw); go_simp; try (with_reducible rfl))
        try simp only [Act.put, List.setIfInBounds_toArray, List.set_cons_zero, List.set_cons_succ]
        refine wpAnyH_take (i := 13) (v := ?_) (by simp only [List.getElem?_toArray, List.getElem?_cons_succ, List.getElem?_cons_zero]; rfl) (by kernel_rfl) (by kernel_rfl) (by kernel_rfl) (by exact fun _ _ _ h => h) (Or.inl ⟨by rfl, ?_⟩) (by assumption) ?_
        rotate_left 1
        · (intro wS hSw; (try dsimp only at hSw); go_simp; try (with_reducible rfl))
        try simp only [Act.put, List.setIfInBounds_toArray, List.set_cons_zero, List.set_cons_succ]
        clear hHeld
        refine wpAnyH_ready (rs := [14]) (by kernel_rfl) (by simp) ?_
        refine AllReadyH.cons (i := 14) (by simp only [List.getElem?_toArray, List.getElem?_cons_succ, List.getElem?_cons_zero]; rfl) (fun K hK => ?_) AllReadyH.nil
        go_simp
        (go_at_call 36; refine (HD.out _).mono ?_; rintro e w3 ⟨rfl, hb3⟩; have y0 := keepc (bel (bel_d _) hb3) x0; have y2 := keepc (bel (bel_d _) hb3) x2)
        try (go_wp2_with fail)
        refine hK.out _ _ ?_ (fun hHeld => ?_)
        · ((try dsimp only); go_keep)
        clear hK K
        try simp only [Act.put, List.setIfInBounds_toArray, List.set_cons_zero, List.set_cons_succ]
        refine wpAnyH_take (i := 15) (v := ?_) (by simp only [List.getElem?_toArray, List.getElem?_cons_succ, List.getElem?_cons_zero]; rfl) (by kernel_rfl) (by kernel_rfl) (by kernel_rfl) (by exact fun _ _ _ h => h) (Or.inl ⟨by rfl, ?_⟩) (by assumption) ?_
        rotate_left 1
        · (intro wS hSw; (try dsimp only at hSw); go_simp; try (with_reducible rfl))
        try simp only [Act.put, List.setIfInBounds_toArray, List.set_cons_zero, List.set_cons_succ]
        refine wpAnyH_take (i := 16) (v := ?_) (by simp only [List.getElem?_toArray, List.getElem?_cons_succ, List.getElem?_cons_zero]; rfl) (by kernel_rfl) (by kernel_rfl) (by kernel_rfl) (by exact fun _ _ _ h => h) (Or.inl ⟨by rfl, ?_⟩) (by assumption) ?_
        rotate_left 1
        · (intro wS hSw; (try dsimp only at hSw); go_simp; try (with_reducible rfl))
        try simp only [Act.put, List.setIfInBounds_toArray, List.set_cons_zero, List.set_cons_succ]
        refine wpAnyH_take (i := 17) (v := ?_) (by simp only [List.getElem?_toArray, List.getElem?_cons_succ, List.getElem?_cons_zero]; rfl) (by kernel_rfl) (by kernel_rfl) (by kernel_rfl) (by exact fun _ _ _ h => h) (Or.inl ⟨by rfl, ?_⟩) (by assumption) ?_
        rotate_left 1
        · (intro wS hSw; (try dsimp only at hSw); go_simp; try (with_reducible rfl))
        try simp only [Act.put, List.setIfInBounds_toArray, List.set_cons_zero, List.set_cons_succ]
        refine wpAnyH_done (by kernel_rfl) ?_ _
        go_wp2
        go_roundw
        case rel => exact ⟨bel hb (bel (bel_d _) hb3), j + 1, by omega, by go_num, by rw [HNX.out, ← line_cat]⟩
        case measure => simp [intOf]; omega
      · have : j = n := by omega
        subst this
        have HF : Hid (textB (l.take j) = textB l) := by show _ = _; rw [List.take_of_length_le (by rw [HN.out]; exact Nat.le_refl _)]
        go_wp2
        go_ret2
        exact ⟨by rw [HF.out]; rfl, hb⟩
  · rw [print_err (by rw [hC]; exact hC0), hC]
    have hC1 : (C == 0) = false := by simpa using hC0
    have hC2 : (C != 0) = true := by simpa using hC0
    clear hr hC hC0
    go_enter Tryd.func22, Tryd.ntmps22
    go_wp2_with (go_at_call 12; refine HK.out.mono ?_; rintro e w2 ⟨rfl, hb2⟩)
    go_ret2
    exact ⟨rfl, hb2⟩

/- Fits. -/
/-- A list of lists: how long each is. -/
def Vs (w : World) (v : Value) (ns : List Nat) : Prop :=
  ∃ p c, v = .slice p ns.length c ∧ (ns = [] ∨ ∃ b o, p = some ⟨b, o, none⟩ ∧ ∀ i (h : i < ns.length), ∃ q d, w.cell? ⟨b, o + i, none⟩ = some (.slice q ns[i] d))
theorem Vs.below {w w' : World} {v : Value} {ns : List Nat} (h : Vs w v ns) (k : Below w.heap.size w w') : Vs w' v ns := by
  obtain ⟨p, c, hv, h⟩ := h
  refine ⟨p, c, hv, h.imp id fun ⟨b, o, hp, h⟩ => ⟨b, o, hp, fun i hi => ?_⟩⟩
  obtain ⟨q, d, hq⟩ := h i hi
  exact ⟨q, d, keepc k hq⟩
theorem fits_len : ∀ {l : List Par} {ns : List Nat}, l.length ≠ ns.length → fitsP l ns = false
  | [], [], h => absurd rfl h
  | [], _ :: _, _ => rfl
  | _ :: _, [], _ => rfl
  | p :: r, n :: m, h => by
    simp only [fitsP]
    rw [fits_len (l := r) (ns := m) (by simpa using h), Bool.and_false]
theorem fits_iff : ∀ {l : List Par} {ns : List Nat}, l.length = ns.length → (fitsP l ns = true ↔ ∀ i (h : i < l.length) (h' : i < ns.length), (ns[i] : Int) = numP l[i])
  | [], [], _ => by simp [fitsP]
  | [], _ :: _, h => by simp at h
  | _ :: _, [], h => by simp at h
  | p :: r, n :: m, h => by
    simp only [fitsP, Bool.and_eq_true, decide_eq_true_eq]
    rw [fits_iff (l := r) (ns := m) (by simpa using h)]
    constructor
    · rintro ⟨h1, h2⟩ i hi hi'
      cases i with
      | zero => exact h1
      | succ i => exact h2 i (by simpa using hi) (by simpa using hi')
    · intro hh
      refine ⟨hh 0 (by simp) (by simp), fun i hi hi' => ?_⟩
      have := hh (i + 1) (by simpa using hi) (by simpa using hi')
      simpa using this

set_option maxRecDepth 100000 in
set_option maxHeartbeats 2000000 in
theorem rFits_any (v u : Value) (l : List Par) (ns : List Nat) (hl : l.length ≤ 140737488351232) (hnl : ns.length ≤ 140737488351232) (hM : ∀ p ∈ l, p.name.size ≤ 140737488351232) (hb9 : ∀ n ∈ ns, n ≤ 140737488351232) (w : World) (hr : Rd w v l) (hu : Vs w u ns) :
    Calls Tryd.prog 24 #[v, u] w fun e w' => e = .returned (.bool (fitsP l ns)) ∧ Below w.heap.size w w' := by
  obtain ⟨p, c, rfl, hr⟩ := hr
  obtain ⟨p', c', rfl, hu⟩ := hu
  obtain ⟨n, hn⟩ : ∃ n, l.length = n := ⟨_, rfl⟩
  have HN : Hid (l.length = n) := hn
  have HR : Hid (Row w p l) := hr
  have HM : Hid (∀ p ∈ l, p.name.size ≤ 140737488351232) := hM
  have HB9 : Hid (∀ n ∈ ns, n ≤ 140737488351232) := hb9
  have HU : Hid (ns = [] ∨ ∃ b o, p' = some ⟨b, o, none⟩ ∧ ∀ i (h : i < ns.length), ∃ q d, w.cell? ⟨b, o + i, none⟩ = some (.slice q ns[i] d)) := hu
  rw [hn] at hl ⊢
  clear hr hM hb9 hu
  by_cases hne : n = ns.length
  · have HNS : Hid (ns.length = n) := hne.symm
    have HI : Hid (fitsP l ns = true ↔ ∀ i (h : i < l.length) (h' : i < ns.length), (ns[i] : Int) = numP l[i]) := fits_iff (by rw [hn]; exact hne)
    rw [← hne]
    clear hne hn hnl
    go_enter Tryd.func24, Tryd.ntmps24
    go_wp2
    go_loopw [5] (fun iv wr => Below w.heap.size w wr ∧ ∃ j : Nat, j ≤ n ∧ iv = .int .i64 j ∧ Hid (∀ i (h : i < l.length) (h' : i < ns.length), i < j → (ns[i] : Int) = numP l[i])) (fun iv _ => n - (intOf iv).toNat)
    case atStart => exact ⟨bel0 w, 0, Nat.zero_le _, rfl, fun i _ _ hi => absurd hi (Nat.not_lt_zero _)⟩
    case round =>
      obtain ⟨hb, j, hj, rfl, hp⟩ := hrel
      by_cases hlt : j < n
      · have hll : j < l.length := by rw [HN.out]; exact hlt
        have hlm : j < ns.length := by rw [HNS.out]; exact hlt
        obtain ⟨b, o, rfl, hx⟩ := HR.out.at hll
        obtain ⟨x0, x1, x2⟩ := hx.below hb
        obtain ⟨b', o', rfl, q, d, hz⟩ : ∃ b' o', p' = some ⟨b', o', none⟩ ∧ ∃ q d, w.cell? ⟨b', o' + j, none⟩ = some (.slice q ns[j] d) := by
          rcases HU.out with h | ⟨b', o', hp', h⟩
          · rw [h] at hlm; exact absurd hlm (Nat.not_lt_zero _)
          · exact ⟨b', o', hp', h j hlm⟩
        have z0 := keepc hb hz
        have j1 : (0 : Int) ≤ (j : Int) := by omega
        have j2 : (j : Int) < (n : Int) := by omega
        have KN := rNumbers_any l[j] (HM.out _ (List.getElem_mem hll))
        unfold pv at KN
        have hm9 := HB9.out _ (List.getElem_mem hlm)
        have NX : Hid ((ns[j] : Int) = numP l[j] → ∀ i (h : i < l.length) (h' : i < ns.length), i < j + 1 → (ns[i] : Int) = numP l[i]) := fun e i h h' hi => by
          by_cases e' : i = j
          · subst e'; exact e
          · exact hp.out i h h' (by omega)
        have NB : Hid ((ns[j] : Int) ≠ numP l[j] → fitsP l ns = false) := fun e => by
          cases hf : fitsP l ns
          · rfl
          · exact absurd (HI.out.1 hf j hll hlm) e
        obtain ⟨m, hm⟩ : ∃ m, ns[j] = m := ⟨_, rfl⟩
        obtain ⟨U, hU⟩ : ∃ U, numP l[j] = U := ⟨_, rfl⟩
        rw [hm, hU] at NX NB
        rw [hm] at z0 hm9
        rw [hU] at KN
        have HK : Hid (∀ w, Calls Tryd.prog 16 #[.agg #[.string l[j].name, .int .i64 l[j].kind, .int .i64 l[j].len]] w fun e w' => e = .returned (.int .i64 U) ∧ Below w.heap.size w w') := KN
        clear hx KN hm hU hp hz HI
        go_upto_region 6 with fail
        refine wp_region_held_drew (S := (fun w' => w'.cell? ⟨b, o + j * 3, none⟩ = some (.string l[j].name) ∧ w'.cell? ⟨b, o + j * 3 + 1, none⟩ = some (.int .i64 l[j].kind) ∧ w'.cell? ⟨b, o + j * 3 + 2, none⟩ = some (.int .i64 l[j].len) ∧ w'.cell? ⟨b', o' + j, none⟩ = some (.slice q m d))) (by kernel_rfl) ?_ (fun hHeld => ?_)
        · ((try dsimp only); go_keep)
        refine wpAnyH_take (i := 0) (v := ?_) (by simp only [List.getElem?_toArray, List.getElem?_cons_succ, List.getElem?_cons_zero]; rfl) (by kernel_rfl) (by kernel_rfl) (by kernel_rfl) (by exact fun _ _ _ h => h) (Or.inl ⟨by rfl, ?_⟩) (by assumption) ?_
        rotate_left 1
        · (intro wS hSw; (try dsimp only at hSw); go_simp; try (with_reducible rfl))
        try simp only [Act.put, List.setIfInBounds_toArray, List.set_cons_zero, List.set_cons_succ]
        refine wpAnyH_take (i := 1) (v := ?_) (by simp only [List.getElem?_toArray, List.getElem?_cons_succ, List.getElem?_cons_zero]; rfl) (by kernel_rfl) (by kernel_rfl) (by kernel_rfl) (by exact fun _ _ _ h => h) (Or.inl ⟨by rfl, ?_⟩) (by assumption) ?_
        rotate_left 1
        · (intro wS hSw; (try dsimp only at hSw); go_simp; try (with_reducible rfl))
        try simp only [Act.put, List.setIfInBounds_toArray, List.set_cons_zero, List.set_cons_succ]
        refine wpAnyH_take (i := 2) (v := ?_) (by simp only [List.getElem?_toArray, List.getElem?_cons_succ, List.getElem?_cons_zero]; rfl) (by kernel_rfl) (by kernel_rfl) (by kernel_rfl) (by exact fun _ _ _ h => h) (Or.inl ⟨by rfl, ?_⟩) (by assumption) ?_
        rotate_left 1
        · (intro wS hSw; (try dsimp only at hSw); go_simp; try (with_reducible rfl))
        try simp only [Act.put, List.setIfInBounds_toArray, List.set_cons_zero, List.set_cons_succ]
        refine wpAnyH_take (i := 3) (v := ?_) (by simp only [List.getElem?_toArray, List.getElem?_cons_succ, List.getElem?_cons_zero]; rfl) (by kernel_rfl) (by kernel_rfl) (by kernel_rfl) (by exact fun _ _ _ h => h) (Or.inl ⟨by rfl, ?_⟩) (by assumption) ?_
        rotate_left 1
        · (intro wS hSw; (try dsimp only at hSw); go_simp; try (with_reducible rfl))
        try simp only [Act.put, List.setIfInBounds_toArray, List.set_cons_zero, List.set_cons_succ]
        refine wpAnyH_take (i := 4) (v := ?_) (by simp only [List.getElem?_toArray, List.getElem?_cons_succ, List.getElem?_cons_zero]; rfl) (by kernel_rfl) (by kernel_rfl) (by kernel_rfl) (by exact fun _ _ _ h => h) (Or.inl ⟨by rfl, ?_⟩) (by assumption) ?_
        rotate_left 1
        · (intro wS hSw; (try dsimp only at hSw); go_simp; try (with_reducible rfl))
        try simp only [Act.put, List.setIfInBounds_toArray, List.set_cons_zero, List.set_cons_succ]
        refine wpAnyH_take (i := 5) (v := ?_) (by simp only [List.getElem?_toArray, List.getElem?_cons_succ, List.getElem?_cons_zero]; rfl) (by kernel_rfl) (by kernel_rfl) (by kernel_rfl) (by exact fun _ _ _ h => h) (Or.inl ⟨by rfl, ?_⟩) (by assumption) ?_
        rotate_left 1
        · (intro wS hSw; (try dsimp only at hSw); go_simp; try (with_reducible rfl))
        try simp only [Act.put, List.setIfInBounds_toArray, List.set_cons_zero, List.set_cons_succ]
        refine wpAnyH_take (i := 6) (v := ?_) (by simp only [List.getElem?_toArray, List.getElem?_cons_succ, List.getElem?_cons_zero]; rfl) (by kernel_rfl) (by kernel_rfl) (by kernel_rfl) (by exact fun _ _ _ h => h) (Or.inl ⟨by rfl, ?_⟩) (by assumption) ?_
        rotate_left 1
        · (intro wS hSw; (try dsimp only at hSw); go_simp; try (with_reducible rfl))
        try simp only [Act.put, List.setIfInBounds_toArray, List.set_cons_zero, List.set_cons_succ]
        refine wpAnyH_take (i := 7) (v := ?_) (by simp only [List.getElem?_toArray, List.getElem?_cons_succ, List.getElem?_cons_zero]; rfl) (by kernel_rfl) (by kernel_rfl) (by kernel_rfl) (by exact fun _ _ _ h => h) (Or.inl ⟨by rfl, ?_⟩) (by assumption) ?_
        rotate_left 1
        · (intro wS hSw; (try dsimp only at hSw); go_simp; try (with_reducible rfl))
        try simp only [Act.put, List.setIfInBounds_toArray, List.set_cons_zero, List.set_cons_succ]
        refine wpAnyH_take (i := 8) (v := ?_) (by simp only [List.getElem?_toArray, List.getElem?_cons_succ, List.getElem?_cons_zero]; rfl) (by kernel_rfl) (by kernel_rfl) (by kernel_rfl) (by exact fun _ _ _ h => h) (Or.inl ⟨by rfl, ?_⟩) (by assumption) ?_
        rotate_left 1
        · (intro wS hSw; (try dsimp only at hSw); go_simp; try (with_reducible rfl))
        try simp only [Act.put, List.setIfInBounds_toArray, List.set_cons_zero, List.set_cons_succ]
        clear hHeld
        refine wpAnyH_ready (rs := [9]) (by kernel_rfl) (by simp) ?_
        refine AllReadyH.cons (i := 9) (by simp only [List.getElem?_toArray, List.getElem?_cons_succ, List.getElem?_cons_zero]; rfl) (fun K hK => ?_) AllReadyH.nil
        go_simp
        (go_at_call 16; refine (HK.out _).mono ?_; rintro e w3 ⟨rfl, hb3⟩; have y0 := keepc (bel (bel_d _) hb3) x0; have y1 := keepc (bel (bel_d _) hb3) x1; have y2 := keepc (bel (bel_d _) hb3) x2; have y3 := keepc (bel (bel_d _) hb3) z0)
        try (go_wp2_with fail)
        refine hK.out _ _ ?_ (fun hHeld => ?_)
        · ((try dsimp only); go_keep)
        clear hK K
        try simp only [Act.put, List.setIfInBounds_toArray, List.set_cons_zero, List.set_cons_succ]
        refine wpAnyH_take (i := 10) (v := ?_) (by simp only [List.getElem?_toArray, List.getElem?_cons_succ, List.getElem?_cons_zero]; rfl) (by kernel_rfl) (by kernel_rfl) (by kernel_rfl) (by exact fun _ _ _ h => h) (Or.inl ⟨by rfl, ?_⟩) (by assumption) ?_
        rotate_left 1
        · (intro wS hSw; (try dsimp only at hSw); go_simp; try (with_reducible rfl))
        try simp only [Act.put, List.setIfInBounds_toArray, List.set_cons_zero, List.set_cons_succ]
        refine wpAnyH_done (by kernel_rfl) ?_ _
        by_cases he : (m : Int) = U
        · have HP2 : Hid (∀ i (h : i < l.length) (h' : i < ns.length), i < j + 1 → (ns[i] : Int) = numP l[i]) := NX.out he
          have he1 : ((m : Int) == U) = true := by simpa using he
          have he2 : ((m : Int) != U) = false := by rw [bne, he1]; rfl
          clear NX NB he
          go_wp2
          go_roundw
          case rel => exact ⟨bel hb (bel (bel_d _) hb3), j + 1, by omega, by go_num, HP2.out⟩
          case measure => simp [intOf]; omega
        · have HP2 : Hid (fitsP l ns = false) := NB.out he
          have he1 : ((m : Int) == U) = false := by simpa using he
          have he2 : ((m : Int) != U) = true := by rw [bne, he1]; rfl
          clear NX NB he
          go_wp2
          go_ret
          exact ⟨ret_bool HP2.out.symm, bel hb (bel (bel_d _) hb3)⟩
      · have : j = n := by omega
        subst this
        have HF : Hid (fitsP l ns = true) := HI.out.2 fun i h h' => hp.out i h h' (by rw [← HN.out]; exact h)
        clear HI hp
        go_wp2
        go_ret
        exact ⟨ret_bool HF.out.symm, hb⟩
  · have hf : fitsP l ns = false := fits_len (by rw [hn]; exact hne)
    have e1 : ((n : Int) == (ns.length : Int)) = false := by rw [beq_eq_false_iff_ne]; omega
    have e2 : ((n : Int) != (ns.length : Int)) = true := by rw [bne, e1]; rfl
    rw [hf]
    clear hf hne hn
    go_enter Tryd.func24, Tryd.ntmps24
    go_wp2
    go_ret
    exact ⟨rfl, bel0 _⟩

end Go.Proofs.YtmpfoajpafglgaaDoor
