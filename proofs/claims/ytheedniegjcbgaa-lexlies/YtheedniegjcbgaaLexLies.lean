import Derived.Test.YtheedniegjcbgaaLexLiesP
/- LexLies. -/
namespace Go.Proofs.Ytheedniegjcbgaa
open Go.RowKit
set_option linter.unusedVariables false
set_option linter.unusedSimpArgs false

theorem keepc {v v' : World} (hb : Below v.heap.size v v') {a : Addr} {u : Value} (h : v.cell? a = some u) : v'.cell? a = some u := (hb.cell (mcell_lt h)).trans h

/-- A token in a block of its own. -/
structure TW (w0 : World) (G : Nat) (K : Int) (X : Bs) (A : Nat) (v : World) : Prop where
  bel : Below w0.heap.size w0 v
  c0 : v.cell? ⟨G, 0, none⟩ = some (.int .i64 K)
  c1 : v.cell? ⟨G, 1, none⟩ = some (.string ⟨X.toArray⟩)
  c2 : v.cell? ⟨G, 2, none⟩ = some (.int .i64 (A : Int))
theorem TW.next {w0 : World} {G : Nat} {K : Int} {X : Bs} {A : Nat} {v v' : World} (h : TW w0 G K X A v) (hb : Below v.heap.size v v') : TW w0 G K X A v' :=
  ⟨Go.Proofs.Ytheedniegjcbgaa.bel h.bel hb, keepc hb h.c0, keepc hb h.c1, keepc hb h.c2⟩

theorem quo4 (X : Bs) : ((⟨#[34]⟩ : ByteArray) ++ (⟨X.toArray⟩ : ByteArray)) ++ (⟨#[34]⟩ : ByteArray) = ⟨(34 :: (X ++ [34])).toArray⟩ := by
  apply ByteArray.ext
  simp

set_option maxRecDepth 100000 in
set_option maxHeartbeats 1000000 in
theorem walk_LexLies (s : ByteArray) (hs : s.size ≤ maxLen) (w : World) :
    Calls Try.prog 5 #[.string s] w fun e w' => e = .returned (.bool true) ∧ Below w.heap.size w w' := by
  have S1 := scan_any s hs w
  have hl := scan_len (bs s)
  have hcs := scan_cases (bs s)
  rcases hcs with ⟨he, ht⟩ | ⟨he, hl6, ht, he0⟩
  · rw [ht] at S1
    obtain ⟨E, hE⟩ : ∃ E, (scanP (bs s)).err = E := ⟨_, rfl⟩
    obtain ⟨P, hP⟩ : ∃ P, (scanP (bs s)).place = P := ⟨_, rfl⟩
    rw [hE, hP] at S1
    rw [hE] at he
    have hE1 : (E != 0) = true := by simpa using he
    have hE2 : (E == 0) = false := by simpa using he
    have H1 : Hid (Calls Try.prog 9 #[.string s] w fun e w' => ∃ v, e = .returned (.tuple #[v, .int .i64 E, .int .i64 (P : Int)]) ∧ Own w' w.heap.size v [] ∧ Below w.heap.size w w') := S1
    clear S1 hE hP ht hl he
    go_enter Try.func5, Try.ntmps5
    go_wp2_with (first
      | ((with_reducible refine H1.out.mono ?_); rintro e w1 ⟨v1, rfl, ho1, hb1⟩; obtain ⟨p1, c1, rfl, _⟩ := ho1.rd; clear ho1)
      | (go_at_call 12; refine (works_any _).mono ?_; rintro e w4 ⟨rfl, hb4⟩))
    go_ret
    exact ⟨rfl, bel hb1 hb4⟩
  · have hst := lies_start (bs s) he0
    rw [← ht] at hst
    obtain ⟨P, hP⟩ : ∃ P, (scanP (bs s)).place = P := ⟨_, rfl⟩
    rw [he, hP] at S1
    obtain ⟨T, hT⟩ : ∃ T, (scanP (bs s)).toks = T := ⟨_, rfl⟩
    rw [hT] at S1 hl hst
    have hT0 : 0 < T.length := by rw [← hT, ht]; simp
    obtain ⟨N, hN⟩ : ∃ N, T.length = N := ⟨_, rfl⟩
    have hN0 : (0 : Int) < (N : Int) := by omega
    have hN2 : N ≤ 65537 := by omega
    have HN : Hid (T.length = N) := hN
    have HST : Hid (LiesAt (bs s) T 0 0) := hst
    have hs6 : s.size ≤ 65536 := by rw [← bs_length]; exact hl6
    have H1 : Hid (Calls Try.prog 9 #[.string s] w fun e w' => ∃ v, e = .returned (.tuple #[v, .int .i64 0, .int .i64 (P : Int)]) ∧ Own w' w.heap.size v T ∧ Below w.heap.size w w') := S1
    clear S1 hP hT ht hl hst hN hT0 he he0 hl6 hs
    go_enter Try.func5, Try.ntmps5
    go_wp2_with (first
      | ((with_reducible refine H1.out.mono ?_); rintro e w1 ⟨v1, rfl, ho1, hb1⟩; obtain ⟨p1, c1, rfl, hr1⟩ := ho1.rd; rw [HN.out]; have HR1 : Hid (T = [] ∨ ∃ b o, p1 = some ⟨b, o, none⟩ ∧ ∀ i (h : i < T.length), At3 w1 b (o + i * 3) T[i]) := hr1; clear ho1 hr1))
    go_loopw [6, 7] (fun fv iv wr => Below w1.heap.size w1 wr ∧ ∃ i p : Nat, i ≤ N ∧ fv = .int .i64 p ∧ iv = .int .i64 i ∧ LiesAt (bs s) T i p) (fun _ iv _ => N - (intOf iv).toNat)
    case atStart => exact ⟨bel0 _, 0, 0, Nat.zero_le _, rfl, rfl, HST.out⟩
    case round =>
      obtain ⟨hb, i, p, hi, rfl, rfl, hla⟩ := hrel
      have HLA : Hid (LiesAt (bs s) T i p) := hla
      clear hla
      by_cases hlt : i < N
      · have hll : i < T.length := by rw [HN.out]; exact hlt
        have stp := lies_step (bs s) T i p HLA.out hll
        rcases HR1.out with h | ⟨ba, oa, rfl, ha⟩
        · rw [h] at hll; exact absurd hll (Nat.not_lt_zero _)
        obtain ⟨x0, x1, x2⟩ := (ha i hll).below hb
        rw [HN.out] at stp
        obtain ⟨t, htt⟩ : ∃ t, T[i] = t := ⟨_, rfl⟩
        rw [htt] at x0 x1 x2 stp
        obtain ⟨K, X, A⟩ := t
        simp only at x0 x1 x2 stp
        obtain ⟨s1, s2, s3, s4, s5, s6⟩ := stp
        have hq := quo_len K X
        have hXl : X.length ≤ (quo K X).length := by rw [hq]; split <;> omega
        obtain ⟨D, hD⟩ : ∃ D, (quo K X).length = D := ⟨_, rfl⟩
        rw [hD] at s2 s4 s6 hXl
        rw [bs_length] at s2
        have hXs : X.length ≤ 65536 := by omega
        have W1 : ∀ v : World, Calls Try.prog 15 #[.agg #[.int .i64 K, .string ⟨X.toArray⟩, .int .i64 (A : Int)]] v fun e w' => e = .returned (.int .i64 (D : Int)) ∧ Below v.heap.size v w' := fun v => by
          have := width_any K X (A : Int) hXs v
          rw [hD] at this
          exact this
        have HW : Hid (∀ v : World, Calls Try.prog 15 #[.agg #[.int .i64 K, .string ⟨X.toArray⟩, .int .i64 (A : Int)]] v fun e w' => e = .returned (.int .i64 (D : Int)) ∧ Below v.heap.size v w') := W1
        have hxe : s.extract A (A + D) = ⟨(quo K X).toArray⟩ := by rw [ext_eq, Nat.add_sub_cancel_left, s4]
        have HXE : Hid (s.extract A (A + D) = ⟨(quo K X).toArray⟩) := hxe
        have HNX : Hid (LiesAt (bs s) T (i + 1) (A + D)) := s6
        obtain ⟨lb, hlb⟩ : ∃ lb : Bool, decide (i + 1 = N) = lb := ⟨_, rfl⟩
        rw [hlb] at s3
        have hlb1 : ((i : Int) == (N : Int) - 1) = lb := by
          rw [← hlb]
          by_cases h : i + 1 = N
          · rw [decide_eq_true h, beq_iff_eq]; omega
          · rw [decide_eq_false h, beq_eq_false_iff_ne]; omega
        have hlb2 : (K == 0) = lb := by
          rw [← hlb]
          by_cases h : i + 1 = N
          · rw [decide_eq_true h, beq_iff_eq]; exact s5.2 h
          · rw [decide_eq_false h, beq_eq_false_iff_ne]; exact fun e => h (s5.1 e)
        have G1 : ∀ v : World, Calls Try.prog 16 #[.string (s.extract p A), .bool lb] v fun e w' => e = .returned (.bool true) ∧ w' = v := fun v => by
          have := gap_any (s.extract p A) (by rw [ByteArray.size_extract]; omega) lb v
          rw [bs_extract, s3] at this
          exact this
        have HGP : Hid (∀ v : World, Calls Try.prog 16 #[.string (s.extract p A), .bool lb] v fun e w' => e = .returned (.bool true) ∧ w' = v) := G1
        have i1 : (0 : Int) ≤ (i : Int) := by omega
        have i2 : (i : Int) < (N : Int) := by omega
        have a1 : ¬ ((A : Int) < (p : Int)) := by omega
        have a2 : ¬ ((s.size : Int) < (A : Int) + (D : Int)) := by omega
        have a3 : (p : Int) ≤ (A : Int) := by omega
        have a4 : (A : Int) ≤ (s.size : Int) := by omega
        have a5 : (A : Int) + D ≤ 65536 := by omega
        have hw1 : IntKind.i64.wrap ((A : Int) + (D : Int)) = (A : Int) + (D : Int) := by rw [IntKind.wrap_i64]; omega
        have a6 : decide ((s.size : Int) < (A : Int) + (D : Int)) = false := decide_eq_false a2
        have a7 : A + D ≤ s.size := s2
        have a9 : (A : Int) ≤ (A : Int) + (D : Int) := by omega
        have a10 : (0 : Int) ≤ (A : Int) := by omega
        have a11 : (0 : Int) ≤ (A : Int) + (D : Int) := by omega
        have a12 : (A : Int) + (D : Int) ≤ (s.size : Int) := by omega
        have a13 : A ≤ A + D := by omega
        have a8 : ¬ (s.size < A + D) := by omega
        have hw2 : IntKind.i64.wrap ((N : Int) - 1) = (N : Int) - 1 := by rw [IntKind.wrap_i64]; omega
        clear ha htt s3 s4 s5 s6 hq hD W1 G1 hxe hlb HST HLA hXl
        go_upto_region 8 with fail
        go_cut [8] (fun gv wx => ∃ G, gv = .pointer (some ⟨G, 0, none⟩) ∧ TW w1 G K X A wx)
        case first =>
          go_wp2
          go_meet
          exact ⟨wr.heap.size, rfl, bel hb (bel_alloc _ _), by simp [go_sem], by simp [go_sem], by simp [go_sem]⟩
        case rest =>
          obtain ⟨G, rfl, tw⟩ := hcut
          have c0 := tw.c0
          have c1 := tw.c1
          have c2 := tw.c2
          have HTW : Hid (TW w1 G K X A wc) := tw
          clear tw x0 x1 x2
          go_upto_region 9 with fail
          go_cut [61] (fun cv wx => cv = .bool false ∧ TW w1 G K X A wx)
          case first =>
            have HB := bel0 wc
            go_region_held3 (fun w' => w'.cell? ⟨G, 0, none⟩ = some (.int .i64 K) ∧ w'.cell? ⟨G, 1, none⟩ = some (.string ⟨X.toArray⟩) ∧ w'.cell? ⟨G, 2, none⟩ = some (.int .i64 (A : Int))) (go_keep) (first
              | (go_at_call 15; refine (HW.out _).mono ?_; rintro e wv ⟨rfl, hbv⟩; have HB : Below wc.heap.size wc wv := (by first | exact bel HB hbv | exact bel (by go_grown) hbv); have := keepc hbv (a := ⟨G, 0, none⟩) (u := .int .i64 K) (by first | assumption | (simp [go_sem]; done)); have := keepc hbv (a := ⟨G, 1, none⟩) (u := .string ⟨X.toArray⟩) (by first | assumption | (simp [go_sem]; done)); have := keepc hbv (a := ⟨G, 2, none⟩) (u := .int .i64 (A : Int)) (by first | assumption | (simp [go_sem]; done)))
              | (go_at_call 16; refine (HGP.out _).mono ?_; rintro e wg ⟨rfl, rfl⟩))
            all_goals (go_wp2; go_meet; exact ⟨rfl, HTW.out.next HB⟩)
          case rest =>
            obtain ⟨rfl, tw⟩ := hcut
            have c0 := tw.c0
            have c1 := tw.c1
            have c2 := tw.c2
            have HTW : Hid (TW w1 G K X A wc) := tw
            clear tw
            obtain ⟨Y, hY⟩ : ∃ Y : ByteArray, (⟨(quo K X).toArray⟩ : ByteArray) = Y := ⟨_, rfl⟩
            rw [hY] at HXE
            have HYY : Hid ((⟨(quo K X).toArray⟩ : ByteArray) = Y) := hY
            clear hY
            go_upto_if 66 with fail
            go_cut [9] (fun tv wx => tv = .string Y ∧ TW w1 G K X A wx)
            case first =>
              by_cases h4 : (K == 4) = true
              · have hY := HYY.out
                unfold quo at hY
                rw [if_pos h4, ← quo4] at hY
                have HY4 : Hid ((⟨#[34]⟩ : ByteArray) ++ (⟨X.toArray⟩ : ByteArray) ++ (⟨#[34]⟩ : ByteArray) = Y) := hY
                clear hY
                go_wp2
                go_meet
                exact ⟨by rw [HY4.out], HTW.out⟩
              · have h4' : (K == 4) = false := by simpa using h4
                have hY := HYY.out
                unfold quo at hY
                rw [if_neg h4] at hY
                have HY4 : Hid ((⟨X.toArray⟩ : ByteArray) = Y) := hY
                clear hY
                go_wp2
                go_meet
                exact ⟨by rw [HY4.out], HTW.out⟩
            case rest =>
              obtain ⟨rfl, tw⟩ := hcut
              have c0 := tw.c0
              have c1 := tw.c1
              have c2 := tw.c2
              have HTW : Hid (TW w1 G K X A wc) := tw
              clear tw HYY
              go_upto_region 14 with fail
              go_cut [91] (fun cv wx => cv = .bool false ∧ TW w1 G K X A wx)
              case first =>
                have HB := bel0 wc
                have e1 : ((s.extract A ((A : Int) + (D : Int)).toNat).toList == Y.toList) = true := by rw [show ((A : Int) + (D : Int)).toNat = A + D by omega, HXE.out]; simp
                have e2 : (Y.toList == Y.toList) = true := by simp
                go_region_held3 (fun w' => w'.cell? ⟨G, 0, none⟩ = some (.int .i64 K) ∧ w'.cell? ⟨G, 1, none⟩ = some (.string ⟨X.toArray⟩) ∧ w'.cell? ⟨G, 2, none⟩ = some (.int .i64 (A : Int))) (go_keep) (first
                  | (go_at_call 15; refine (HW.out _).mono ?_; rintro e wv ⟨rfl, hbv⟩; have HB : Below wc.heap.size wc wv := (by first | exact bel HB hbv | exact bel (by go_grown) hbv); have := keepc hbv (a := ⟨G, 0, none⟩) (u := .int .i64 K) (by first | assumption | (simp [go_sem]; done)); have := keepc hbv (a := ⟨G, 1, none⟩) (u := .string ⟨X.toArray⟩) (by first | assumption | (simp [go_sem]; done)); have := keepc hbv (a := ⟨G, 2, none⟩) (u := .int .i64 (A : Int)) (by first | assumption | (simp [go_sem]; done))))
                all_goals (go_wp2; go_meet; exact ⟨rfl, HTW.out.next HB⟩)
              case rest =>
                obtain ⟨rfl, tw⟩ := hcut
                have c0 := tw.c0
                have c1 := tw.c1
                have c2 := tw.c2
                have HTW : Hid (TW w1 G K X A wc) := tw
                clear tw
                go_upto_region 16 with fail
                have HB := bel0 wc
                go_region_held3 (fun w' => w'.cell? ⟨G, 0, none⟩ = some (.int .i64 K) ∧ w'.cell? ⟨G, 1, none⟩ = some (.string ⟨X.toArray⟩) ∧ w'.cell? ⟨G, 2, none⟩ = some (.int .i64 (A : Int))) (go_keep) (first
                  | (go_at_call 15; refine (HW.out _).mono ?_; rintro e wv ⟨rfl, hbv⟩; have HB : Below wc.heap.size wc wv := (by first | exact bel HB hbv | exact bel (by go_grown) hbv); have := keepc hbv (a := ⟨G, 0, none⟩) (u := .int .i64 K) (by first | assumption | (simp [go_sem]; done)); have := keepc hbv (a := ⟨G, 1, none⟩) (u := .string ⟨X.toArray⟩) (by first | assumption | (simp [go_sem]; done)); have := keepc hbv (a := ⟨G, 2, none⟩) (u := .int .i64 (A : Int)) (by first | assumption | (simp [go_sem]; done))))
                all_goals go_wp2
                go_roundw
                case rel => exact ⟨bel HTW.out.bel HB, i + 1, A + D, by omega, by go_num, by go_num, HNX.out⟩
                case measure => simp [intOf]; omega
      · have : i = N := by omega
        subst this
        have hp : p = s.size := by
          rcases HLA.out with ⟨h, _⟩ | ⟨_, h⟩
          · rw [HN.out] at h; omega
          · rw [h, bs_length]
        subst hp
        clear HLA HST
        go_wp2_with (go_at_call 12; refine (works_any _).mono ?_; rintro e w4 ⟨rfl, hb4⟩)
        go_ret
        exact ⟨rfl, bel (bel hb1 hb) hb4⟩

end Go.Proofs.Ytheedniegjcbgaa
