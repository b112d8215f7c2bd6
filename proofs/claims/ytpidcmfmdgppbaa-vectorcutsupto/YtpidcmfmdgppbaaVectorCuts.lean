import Derived.Test.YtpidcmfmdgppbaaVecSlice
/- The statement VectorCuts: its walk. -/
namespace Go.Proofs.Ytpidcmfmdgppbaa
open Go.RowKit
set_option linter.unusedVariables false

/-- The call's own memory, as far as it is read again. -/
def Own (w : World) (g : Nat) (at' op : Int) (v : World) : Prop := Below w.heap.size w v ∧ v.cell? ⟨g, 2, none⟩ = some (.int .i64 at') ∧ v.cell? ⟨g, 3, none⟩ = some (.int .i64 op)
theorem Own.below {w : World} {g : Nat} {at' op : Int} {v v' : World} (h : Own w g at' op v) (k : Below v.heap.size v v') : Own w g at' op v' :=
  ⟨bel h.1 k, (k.cell (mcell_lt h.2.1)).trans h.2.1, (k.cell (mcell_lt h.2.2)).trans h.2.2⟩

theorem app_join {w : World} {base n k M : Nat} {t : TypeId} {v' : Value} {X Y : Nat → Int} {f : Int → Int → Int} (ho : w.ownsRow base t 1 v' (k + M) (vals (fun i => .int .u32 (f (X i) (Y i))) k ++ vals (fun i => .int .u32 (f (X (k + i)) (Y (k + i)))) M)) (hM : M = n - k) (hk : k ≤ n) :
    ∃ q c, v' = .slice q n c ∧ Reads w q n (fun i => .int .u32 (f (X i) (Y i))) := by
  rw [vals_app _ k _ (fun i => .int .u32 (f (X (k + i)) (Y (k + i)))) (fun i hi => vals_at _ M i (by rw [vals_len] at hi; exact hi)), vals_len, show k + M = n by omega,
    vals_congr (Y := fun i => .int .u32 (f (X i) (Y i))) (fun i hi => by
      by_cases c : i < k
      · rw [if_pos c]
      · rw [if_neg c, show k + (i - k) = i by omega])] at ho
  obtain ⟨q, c, e, hR, -⟩ := own_form2 ho
  exact ⟨q, c, e, hR⟩

set_option maxRecDepth 100000 in
set_option maxHeartbeats 8000000 in
theorem walk_VectorCuts (p : Option Addr) (la ca : Nat) (X : Nat → Int) (hX : ∀ i, IsP (X i)) (hla : la ≤ 1048572) (hca : la ≤ ca) (q : Option Addr) (lb cb : Nat) (Y : Nat → Int) (hY : ∀ i, IsP (Y i)) (hlb : lb ≤ 1048576) (hcb : lb ≤ cb)
    (at' : Int) (a0 : -9223372036854775808 ≤ at') (a1 : at' ≤ 9223372036854775807) (op : Int) (o0 : -9223372036854775808 ≤ op) (o1 : op ≤ 9223372036854775807) (w : World) (hp : Reads w p la (fun i => .int .u32 (X i))) (hq : Reads w q lb (fun i => .int .u32 (Y i))) :
    Calls Try.prog 7 #[.agg #[.slice p la ca, .slice q lb cb, .int .i64 at', .int .i64 op]] w fun e w' => e = .returned (.bool true) ∧ Below w.heap.size w w' := by
  obtain ⟨i0, hi0, hz0, hz1, hz2⟩ := info_parts info_F
  obtain ⟨n, hn⟩ : ∃ n, n = min la lb := ⟨_, rfl⟩
  have HP : Hid (Reads w p n (fun i => .int .u32 (X i)) ∧ Reads w q n (fun i => .int .u32 (Y i)) ∧ (∀ i, IsP (X i)) ∧ ∀ i, IsP (Y i)) := ⟨reads_to hp (by omega), reads_to hq (by omega), hX, hY⟩
  have hn1 : n ≤ 1048576 := by omega
  have hn2 : n ≤ 1048572 := by omega
  have hca2 : n ≤ ca := by omega
  have hcb2 : n ≤ cb := by omega
  have HN : Hid (n = min la lb) := hn
  clear hp hq hX hY hn
  go_enter Try.func7, Try.ntmps7
  go_wp2
  go_quiet (fail)
  have OW : Hid (Own w w.heap.size at' op ((w.alloc (.cells #[.slice p la ca, .slice q lb cb, .int .i64 at', .int .i64 op] 57)).drewN nq)) := ⟨bel (mbel_alloc w _) (mbel_dn _ nq), by simp [go_sem], by simp [go_sem]⟩
  go_upto_if 24 with fail
  go_cut [4] (fun bv wx => Hid (Own w w.heap.size at' op wx) ∧ bv = .slice q n cb)
  case first =>
    have e1 := slice_to q lb cb la
    rcases Nat.lt_or_ge la lb with hlt | hlt
    · have e2 := e1 (by omega)
      have hnn : n = la := by have := HN.out; omega
      subst hnn
      have i1 : (n : Int) < (lb : Int) := by omega
      clear e1
      go_wp2
      go_meet
      exact ⟨OW, rfl⟩
    · have hnn : n = lb := by have := HN.out; omega
      subst hnn
      have i1 : ¬ ((la : Int) < (n : Int)) := by omega
      clear e1
      go_wp2
      go_meet
      exact ⟨OW, rfl⟩
  case rest =>
    obtain ⟨OC, rfl⟩ := hcut
    have c2 := OC.out.2.1
    have s1 := slice_to p la ca n hca2
    clear OW
    obtain ⟨k, hk, hkn⟩ : ∃ k : Nat, (if (0 : Int) < (if (n : Int) < at' then (n : Int) else at') then (if (n : Int) < at' then (n : Int) else at') else 0) = (k : Int) ∧ k ≤ n := by
      by_cases c1 : (n : Int) < at'
      · exact ⟨n, by rw [if_pos c1]; split <;> omega, Nat.le_refl _⟩
      · by_cases c3 : 0 < at'
        · exact ⟨at'.toNat, by rw [if_neg c1, if_pos c3]; omega, by omega⟩
        · exact ⟨0, by rw [if_neg c1, if_neg c3]; rfl, by omega⟩
    have HK : Hid ((if (0 : Int) < (if (n : Int) < at' then (n : Int) else at') then (if (n : Int) < at' then (n : Int) else at') else 0) = (k : Int)) := hk
    clear hk
    go_upto_region 6 with fail
    obtain ⟨mn, HI⟩ : ∃ mn : Int, Hid ((if (n : Int) < at' then (n : Int) else at') = mn) := ⟨_, rfl⟩
    rw [HK.out, HI.out]
    clear HI
    clear s1 c2 HK
    obtain ⟨M, hM⟩ : ∃ M, M = n - k := ⟨_, rfl⟩
    have HM : Hid (M = n - k) := hM
    have hM1 : M ≤ 1048576 := by omega
    clear hM
    have s1 := slice_to p n ca k (by omega)
    have s2 := slice_from p n ca k hkn
    rw [← HM.out] at s2
    go_cut [6] (fun ov wx => Hid (Own w w.heap.size at' op wx) ∧ ∃ q6 c6, ov = .slice q6 (1 + M) c6 ∧ Hid (Reads wx q6 (1 + M) (fun i => .int .u32 (onto X k i))))
    case first =>
      have hb := OC.out.1
      have c2 := OC.out.2.1
      rcases Nat.eq_zero_or_pos M with hM0 | hM0
      · subst hM0
        go_region_held3 (fun w' => w'.cell? ⟨w.heap.size, 2, none⟩ = some (.int .i64 at')) (go_keep) (first
          | (go_at_call 19; refine (sum_any _ _ _ X HP.out.2.2.1 (by omega) _ (reads_to (HP.out.1.below (bel hb (belD wc))) hkn)).mono ?_; rintro e w1 ⟨rfl, hb1⟩; have d2 : w1.cell? ⟨w.heap.size, 2, none⟩ = some (.int .i64 at') := (hb1.cell (mcell_lt c2)).trans c2; have d3 : w.heap.size < w1.heap.size := mcell_lt d2; have d4 : w1.heap.size ≠ w.heap.size := (by omega); have d5 : ∀ o, (w1.alloc o).cell? ⟨w.heap.size, 2, none⟩ = some (.int .i64 at') := fun o => ((mbel_alloc w1 o).cell d3).trans d2)
          | (refine step_append_eq rfl _ _ 24 rfl _ _ _ rfl rfl (append_empty _ _ _ _ _) ?_))
        go_wp2
        go_meet
        exact ⟨OC.out.below (bel (bel (belD wc) hb1) (mbel_alloc w1 _)), _, _, rfl, (one_reads w1 _ _).congr fun i hi => by cases (show i = 0 by omega); rfl⟩
      · obtain ⟨b, o, hpp⟩ : ∃ b o, p = some ⟨b, o, none⟩ := by
          rcases HP.out.1 with z | ⟨b, o, e, -⟩
          · have := HM.out; omega
          · exact ⟨b, o, e⟩
        subst hpp
        have hsf : sfrom (some ⟨b, o, none⟩) ca k = some ⟨b, o + k, none⟩ := by
          unfold sfrom; rw [if_neg (by have := HM.out; omega)]
          by_cases c0 : k = 0
          · subst c0; simp [Addr.add]
          · simp [Addr.add, c0]
        have HF : Hid (Reads w (some ⟨b, o + k, none⟩) M (fun i => .int .u32 (X (k + i)))) := by have := reads_from HP.out.1 hkn hca2; rw [hsf, ← HM.out] at this; exact this
        rw [hsf] at s2
        clear hsf
        go_region_held3 (fun w' => w'.cell? ⟨w.heap.size, 2, none⟩ = some (.int .i64 at')) (go_keep) (first
          | (go_at_call 19; refine (sum_any _ _ _ X HP.out.2.2.1 (by omega) _ (reads_to (HP.out.1.below (bel hb (belD wc))) hkn)).mono ?_; rintro e w1 ⟨rfl, hb1⟩; have d2 : w1.cell? ⟨w.heap.size, 2, none⟩ = some (.int .i64 at') := (hb1.cell (mcell_lt c2)).trans c2; have d3 : w.heap.size < w1.heap.size := mcell_lt d2; have d4 : w1.heap.size ≠ w.heap.size := (by omega); have d5 : ∀ o, (w1.alloc o).cell? ⟨w.heap.size, 2, none⟩ = some (.int .i64 at') := fun o => ((mbel_alloc w1 o).cell d3).trans d2)
          | (refine step_append_lies _ (by rfl) _ _ _ (by rfl) w1.heap.size 38 i0 _ 1 4 Try.underlying24 hi0 hz0 hz1 hz2 rfl (by omega) (.slice (some ⟨w1.heap.size, 0, none⟩) 1 1) 1 [.int .u32 (fsum X k)] (by rfl) (own_one w1 _ _ _ (Nat.le_refl _)) ⟨b, o + k, none⟩ M (ca - k) (vals (fun i => .int .u32 (X (k + i))) M) (by rfl) (by rw [vals_len, Nat.mul_one]) (news_reads (HF.out.below (bel (bel (bel hb (belD wc)) hb1) (mbel_alloc w1 _)))) (by intro u hu; simp [vals] at hu; obtain ⟨i, -, rfl⟩ := hu; rfl) hM0 (by unfold maxLen; omega) (by omega) (by simp) (w1.heap.size + 1) (by simp) ?_; intro gg cap w2 hown2 hgrow hat hlt2; have d6 : w2.cell? ⟨w.heap.size, 2, none⟩ = some (.int .i64 at') := (hgrow.cell_far _ (by simp; omega) (by simp [Value.ownBlock]; omega)).trans (d5 _); have HB2 : Below wc.heap.size wc w2 := Below.grown ((bel (belD wc) hb1).alloc (bel (belD wc) hb1).size _) hgrow (by have := (bel (belD wc) hb1).size; simp; omega) (fun j e => by have e2 : w1.heap.size = j := (by simpa [Value.ownBlock] using e); have := (bel (belD wc) hb1).size; omega); have HO2 : Hid (w2.ownsRow w1.heap.size 38 1 (.slice (some ⟨gg, 0, none⟩) (1 + M) cap) (1 + M) ([.int .u32 (fsum X k)] ++ vals (fun i => .int .u32 (X (k + i))) M)) := hown2; clear hown2 hgrow hat hlt2))
        go_wp2
        go_meet
        obtain ⟨q6, c6, e6, hR6, -⟩ := own_form2 (X := fun i => .int .u32 (onto X k i)) (by have := HO2.out; rw [vals_cons (.int .u32 (fsum X k)) (fun i => .int .u32 (X (k + i))) M (fun i => .int .u32 (onto X k i)) rfl (fun i hi => rfl)] at this; exact this)
        exact ⟨OC.out.below HB2, q6, c6, e6, hR6⟩
    case rest =>
      clear OC s1 s2
      obtain ⟨OC, q6, c6, rfl, HR6⟩ := hcut
      have HS : Hid (fsum (onto X k) (1 + M) = fsum X n) := by have := sum_onto X HP.out.2.2.1 k M; rw [Nat.add_comm] at this; rw [this, show k + M = n by have := HM.out; omega]; exact rfl
      have hb := OC.out.1
      rename World => W0
      go_upto_if 68 with (first
        | (go_at_call 16; refine (dot_same _ _ _ _ _ X X HP.out.2.2.1 HP.out.2.2.1 hn1 W0 (HP.out.1.below hb) (HP.out.1.below hb)).mono ?_; rintro e w1 ⟨rfl, hb1⟩)
        | (go_at_call_of 19 (Value.slice p n ca); refine (sum_any _ _ _ X HP.out.2.2.1 hn1 w2 (HP.out.1.below (bel (bel hb hb1) hb2))).mono ?_; rintro e w3 ⟨rfl, hb3⟩)
        | (go_at_call 19; refine (sum_any _ _ _ (onto X k) (isP_onto HP.out.2.2.1 k) (by have := HM.out; omega) w1 (HR6.out.below hb1)).mono ?_; rintro e w2 ⟨rfl, hb2⟩; rw [HS.out])
        | (go_at_call 21; refine (squares_any _ _ _ X HP.out.2.2.1 hn1 w3 (HP.out.1.below (bel (bel (bel hb hb1) hb2) hb3))).mono ?_; rintro e w4 ⟨rfl, hb4⟩; have O4 : Hid (Own w w.heap.size at' op w4) := OC.out.below (bel (bel (bel hb1 hb2) hb3) hb4)))
      have c3 := O4.out.2.2
      clear HS HR6 OC
      go_upto_region 10 with fail
      go_cut [9] (fun ov wx => ov = .int .i64 op ∧ Hid (Own w w.heap.size at' op wx))
      case first =>
        go_wp2
        go_meet
        exact ⟨rfl, O4⟩
      case rest =>
        clear O4 c3
        obtain ⟨rfl, OC⟩ := hcut
        rename World => W1
        go_step
        go_step
        go_cut [9] (fun ov wx => ∃ op2 : Int, ov = .int .i64 op2 ∧ takes op2 = 2 ∧ Hid (Own w w.heap.size at' op wx))
        case first =>
          have hall : op = 4 ∨ op = 5 ∨ op = 6 ∨ op = 7 ∨ op = 8 ∨ op = 9 ∨ (¬ op = 4 ∧ ¬ op = 5 ∧ ¬ op = 6 ∧ ¬ op = 7 ∧ ¬ op = 8 ∧ ¬ op = 9) := by omega
          rcases hall with h | h | h | h | h | h | ⟨h1, h2, h3, h4, h5, h6⟩
          · subst h; go_wp2; go_meet; exact ⟨_, rfl, by decide, OC⟩
          · subst h; go_wp2; go_meet; exact ⟨_, rfl, by decide, OC⟩
          · subst h; go_wp2; go_meet; exact ⟨_, rfl, by decide, OC⟩
          · subst h; go_wp2; go_meet; exact ⟨_, rfl, by decide, OC⟩
          · subst h; go_wp2; go_meet; exact ⟨_, rfl, by decide, OC⟩
          · subst h; go_wp2; go_meet; exact ⟨_, rfl, by decide, OC⟩
          · have g1 : (op != 4) = true := by simp [h1]
            have g2 : (op != 5) = true := by simp [h2]
            have g3 : (op != 6) = true := by simp [h3]
            have g4 : (op != 7) = true := by simp [h4]
            have g5 : (op != 8) = true := by simp [h5]
            have g6 : (op != 9) = true := by simp [h6]
            go_wp2
            go_meet
            exact ⟨_, rfl, by decide, OC⟩
        case rest =>
          clear OC
          obtain ⟨op2, rfl, htk, OC⟩ := hcut
          have HTK : Hid (takes op2 = 2) := htk
          have hb := OC.out.1
          have c2 := OC.out.2.1
          clear htk
          rename World => W2
          go_upto_region 14 with (first
            | (go_at_call 10; refine (apply_two op2 HTK.out W2 p q n ca cb X Y HP.out.2.2.1 HP.out.2.2.2 hn1 (HP.out.1.below hb) (HP.out.2.1.below hb)).mono ?_; rintro e w1 ⟨gx, rfl, hgx, hrx, hb1⟩; have HRX : Hid (w1.rowIs gx 38 n (fun i => .int .u32 (opf op2 (X i) (Y i) 0))) := hrx; clear hrx))
          have c21 : w1.cell? ⟨w.heap.size, 2, none⟩ = some (.int .i64 at') := (hb1.cell (mcell_lt c2)).trans c2
          have l21 : w.heap.size < w1.heap.size := mcell_lt c21
          have n21 : w1.heap.size ≠ w.heap.size := by omega
          have c22 : ∀ o, (w1.drew.alloc o).cell? ⟨w.heap.size, 2, none⟩ = some (.int .i64 at') := fun o => ((mbel_alloc w1.drew o).cell l21).trans c21
          have HB1 : Below w.heap.size w w1 := bel hb hb1
          have s1 := slice_to p n ca k (by omega)
          have s3 := slice_to q n cb k (by omega)
          clear c2
          go_region_held3 (fun w' => w'.cell? ⟨w.heap.size, 2, none⟩ = some (.int .i64 at')) (go_keep) (first
            | (go_at_call 10; refine (apply_two op2 HTK.out w1.drew p q k ca cb X Y HP.out.2.2.1 HP.out.2.2.2 (by omega) (reads_to (HP.out.1.below (bel HB1 (belD w1))) hkn) (reads_to (HP.out.2.1.below (bel HB1 (belD w1))) hkn)).mono ?_; rintro e w2 ⟨gy, rfl, hgy, hry, hb2⟩; have HRY : Hid (w2.rowIs gy 38 k (fun i => .int .u32 (opf op2 (X i) (Y i) 0))) := hry; have hby : Below w1.heap.size w1 w2 := bel (belD w1) hb2; have c23 : w2.cell? ⟨w.heap.size, 2, none⟩ = some (.int .i64 at') := (hby.cell l21).trans c21; clear hry))
          clear s1 s3
          go_upto_region 15 with fail
          have HB2 : Below w.heap.size w w2 := bel HB1 hby
          have l23 : w.heap.size < w2.heap.size := mcell_lt c23
          have n23 : w2.heap.size ≠ w.heap.size := by omega
          have c24 : ∀ o, (w2.drew.alloc o).cell? ⟨w.heap.size, 2, none⟩ = some (.int .i64 at') := fun o => ((mbel_alloc w2.drew o).cell l23).trans c23
          have s2 := slice_from p n ca k hkn
          have s4 := slice_from q n cb k hkn
          have HF : Hid (Reads w (sfrom p ca k) M (fun i => .int .u32 (X (k + i))) ∧ Reads w (sfrom q cb k) M (fun i => .int .u32 (Y (k + i)))) := by
            have f1 := reads_from HP.out.1 hkn hca2
            have f2 := reads_from HP.out.2.1 hkn hcb2
            rw [← HM.out] at f1 f2
            exact ⟨f1, f2⟩
          rw [← HM.out] at s2 s4
          go_region_held3 (fun w' => w'.cell? ⟨w.heap.size, 2, none⟩ = some (.int .i64 at')) (go_keep) (first
            | (go_at_call 10; refine (apply_two op2 HTK.out w2.drew (sfrom p ca k) (sfrom q cb k) M (ca - k) (cb - k) (fun i => X (k + i)) (fun i => Y (k + i)) (fun i => HP.out.2.2.1 _) (fun i => HP.out.2.2.2 _) hM1 (HF.out.1.below (bel HB2 (belD w2))) (HF.out.2.below (bel HB2 (belD w2)))).mono ?_; rintro e w3 ⟨gz, rfl, hgz, hrz, hb3⟩; have HRZ : Hid (w3.rowIs gz 38 M (fun i => .int .u32 (opf op2 (X (k + i)) (Y (k + i)) 0))) := hrz; have hbz : Below w2.heap.size w2 w3 := bel (belD w2) hb3; have c25 : w3.cell? ⟨w.heap.size, 2, none⟩ = some (.int .i64 at') := (hbz.cell l23).trans c23; clear hrz))
          clear s2 s4
          have HB3 : Below w.heap.size w w3 := bel HB2 hbz
          have RY := row_below HRY.out hbz
          have lx := HRX.out.lt
          have gy2 : w1.heap.size ≤ gy := hgy
          have ly := RY.lt
          have HRY3 : Hid (w3.rowIs gy 38 k (fun i => .int .u32 (opf op2 (X i) (Y i) 0))) := RY
          have HRX3 : Hid (w3.rowIs gx 38 n (fun i => .int .u32 (opf op2 (X i) (Y i) 0))) := row_below (row_below HRX.out hby) hbz
          have sw : w.heap.size ≤ gy := by have := HB1.size; omega
          clear RY HRX HRY HF hb hb1 hb2 hb3 hby hbz
          go_wp2_with (first
            | (at_builtin; refine wpList_append_own_at w3 rfl _ _ 24 rfl gy 38 i0 _ 1 4 Try.underlying24 hi0 hz0 hz1 hz2 rfl (by decide) (.slice (some ⟨gy, 0, none⟩) k k) k (vals (fun i => .int .u32 (opf op2 (X i) (Y i) 0)) k) rfl (owns_of_row HRY3.out (Nat.le_refl _) (by omega)) ⟨gz, 0, none⟩ M M (vals (fun i => .int .u32 (opf op2 (X (k + i)) (Y (k + i)) 0)) M) rfl (by rw [vals_len, Nat.mul_one]) (news_reads (reads_row HRZ.out)) (by intro u hu; simp [vals] at hu; obtain ⟨i, -, rfl⟩ := hu; rfl) (by unfold maxLen; omega) (by omega) (by omega) ?_; intro v' w4 hown hgrow hnil hat; obtain ⟨q7, c7, rfl, hR7⟩ := app_join (f := fun x y => opf op2 x y 0) hown HM.out hkn; have HR7 : Hid (Reads w4 q7 n (fun i => .int .u32 (opf op2 (X i) (Y i) 0)) ∧ w4.rowIs gx 38 n (fun i => .int .u32 (opf op2 (X i) (Y i) 0))) := ⟨hR7, row_grown HRX3.out hgrow (by show gx ≠ gy; omega)⟩; have HB4 : Below w.heap.size w w4 := Below.grown HB3 hgrow HB3.size (fun j e => by have e2 : gy = j := (by simpa [Value.ownBlock] using e); omega); clear hown hgrow hnil hat hR7)
            | (go_at_call 14; refine (alike_any _ _ n _ _ (fun i => opf op2 (X i) (Y i) 0) (fun i => isP_opf _ _ _ _ (HP.out.2.2.1 i) (HP.out.2.2.2 i) isP_0) w4 hn1 (reads_row HR7.out.2) HR7.out.1).mono ?_; rintro e w5 ⟨rfl, hb5⟩)
            | (go_at_call 15; refine (sure_any _).mono ?_; rintro e w6 ⟨rfl, hb6⟩))
          go_ret
          exact ⟨rfl, bel (bel HB4 hb5) hb6⟩

end Go.Proofs.Ytpidcmfmdgppbaa
