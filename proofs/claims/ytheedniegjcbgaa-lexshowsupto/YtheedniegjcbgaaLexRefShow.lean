import Derived.Test.YtheedniegjcbgaaLexShow
import Derived.Deep.RegionHeld3
/- The reference's Show. -/
namespace Go.Proofs.Ytheedniegjcbgaa
open Go.RowKit
set_option linter.unusedVariables false
set_option linter.unusedSimpArgs false

theorem joinB_snoc : ∀ (ps : List Bs) (x : Bs), joinB (ps ++ [x]) = if ps.isEmpty then x else joinB ps ++ (32 :: x)
  | [], x => rfl
  | [y], x => by simp [joinB]
  | y :: z :: r, x => by
    have ih := joinB_snoc (z :: r) x
    simp only [List.cons_append, joinB, List.isEmpty_cons, Bool.false_eq_true, if_false] at ih ⊢
    rw [ih]
    simp
theorem pieces_succ {T : List Tok} {i : Nat} (h : i < T.length) : pieces (T.take (i + 1)) = pieces (T.take i) ++ (piece T[i].kind T[i].text).toList := by
  unfold pieces
  rw [take_succ h, List.filterMap_append]
  cases hp : piece T[i].kind T[i].text <;> simp [hp]
theorem joinB_len (ps : List Bs) : (joinB ps).length ≤ (flat ps).length := by
  by_cases h : ps = []
  · rw [h]; exact Nat.le_refl _
  · rw [flat_join _ h]; simp

/-- So far: what is shown, and whether there was none. -/
def shw (T : List Tok) (i : Nat) : Bs := joinB (pieces (T.take i))
def non (T : List Tok) (i : Nat) : Bool := (pieces (T.take i)).isEmpty
theorem shw_none {T : List Tok} {i : Nat} (h : i < T.length) (hp : piece T[i].kind T[i].text = none) : shw T (i + 1) = shw T i ∧ non T (i + 1) = non T i := by
  unfold shw non
  rw [pieces_succ h, hp]
  simp
theorem shw_some {T : List Tok} {i : Nat} {x : Bs} (h : i < T.length) (hp : piece T[i].kind T[i].text = some x) : shw T (i + 1) = (if non T i then x else shw T i ++ (32 :: x)) ∧ non T (i + 1) = false := by
  unfold shw non
  rw [pieces_succ h, hp]
  simp only [Option.toList_some]
  rw [joinB_snoc]
  refine ⟨rfl, ?_⟩
  simp
theorem shw_nil {T : List Tok} {i : Nat} (h : non T i = true) : shw T i = [] := by
  unfold non at h
  unfold shw
  rw [List.isEmpty_iff.1 h]
  rfl
theorem shw_len (T : List Tok) (hN : T.length ≤ 1048577) (hM : ∀ t ∈ T, t.text.length ≤ 1048576) (i : Nat) : (shw T i).length ≤ 1099515822083 := by
  have h := outAll_take T hN hM i
  rw [outAll_flat] at h
  exact Nat.le_trans (joinB_len _) h

theorem cat3 (a b : Bs) : ((⟨a.toArray⟩ : ByteArray) ++ (⟨#[32]⟩ : ByteArray)) ++ (⟨b.toArray⟩ : ByteArray) = ⟨(a ++ (32 :: b)).toArray⟩ := by
  apply ByteArray.ext
  simp
theorem cat_s (a b : Bs) : (⟨a.toArray⟩ : ByteArray) ++ (⟨b.toArray⟩ : ByteArray) = ⟨(a ++ b).toArray⟩ := by
  apply ByteArray.ext
  simp

set_option maxRecDepth 100000 in
set_option maxHeartbeats 4000000 in
theorem rshow_any (v : Value) (T : List Tok) (α : Nat → Int) (hN : T.length ≤ 1048577) (hM : ∀ t ∈ T, t.text.length ≤ 1048576) (w : World) (hr : RdG w v T α) :
    Calls Try.prog 14 #[v] w fun e w' => e = .returned (.string ⟨(showP T).toArray⟩) ∧ Below w.heap.size w w' := by
  obtain ⟨p, c, rfl, hr⟩ := hr
  obtain ⟨n, hn⟩ : ∃ n, T.length = n := ⟨_, rfl⟩
  rw [hn] at hN ⊢
  have HN : Hid (T.length = n) := hn
  have HR : Hid (RowG w p T α) := hr
  have HM : Hid (∀ t ∈ T, t.text.length ≤ 1048576) := hM
  have HL : Hid (∀ i, (shw T i).length ≤ 1099515822083) := shw_len T (by rw [hn]; exact hN) hM
  clear hn hr hM
  go_enter Try.func14, Try.ntmps14
  go_wp2
  go_loopw [3, 4, 5] (fun sv fv iv wr => Below w.heap.size w wr ∧ ∃ i : Nat, i ≤ n ∧ iv = .int .i64 i ∧ sv = .string ⟨(shw T i).toArray⟩ ∧ fv = .bool (non T i)) (fun _ _ iv _ => n - (intOf iv).toNat)
  case atStart => exact ⟨bel0 w, 0, Nat.zero_le _, rfl, rfl, rfl⟩
  case round =>
    obtain ⟨hb, i, hi, rfl, rfl, rfl⟩ := hrel
    by_cases hlt : i < n
    · have hll : i < T.length := by rw [HN.out]; exact hlt
      rcases HR.out with h | ⟨bb, o, rfl, ha⟩
      · rw [h] at hll; exact absurd hll (Nat.not_lt_zero _)
      obtain ⟨x0, x1, x2⟩ := (ha i hll).below hb
      have hm := HM.out T[i] (List.getElem_mem hll)
      have hl0 := HL.out i
      have sn := shw_none (T := T) (i := i) hll
      have ss := fun x => shw_some (T := T) (i := i) (x := x) hll
      obtain ⟨t, ht⟩ : ∃ t, T[i] = t := ⟨_, rfl⟩
      rw [ht] at x0 x1 hm sn
      simp only [ht] at ss
      obtain ⟨K, X, A0⟩ := t
      simp only at x0 x1 hm sn ss
      obtain ⟨Z, hZ⟩ : ∃ Z, shw T i = Z := ⟨_, rfl⟩
      obtain ⟨F, hF⟩ : ∃ F, non T i = F := ⟨_, rfl⟩
      have hZF : F = true → Z = [] := fun h => by rw [← hZ]; exact shw_nil (by rw [hF]; exact h)
      rw [hZ, hF] at sn ⊢
      simp only [hZ, hF] at ss
      rw [hZ] at hl0
      have hZs : (⟨Z.toArray⟩ : ByteArray).size = Z.length := by rw [← bs_length]; simp [bs]
      have hXs : (⟨X.toArray⟩ : ByteArray).size = X.length := by rw [← bs_length]; simp [bs]
      have i1 : (0 : Int) ≤ (i : Int) := by omega
      have i2 : (i : Int) < (n : Int) := by omega
      clear ha ht hZ hF
      by_cases h0 : K < 1 ∨ 10 < K
      · have HSN : Hid (shw T (i + 1) = Z ∧ non T (i + 1) = F) := sn (piece_none h0)
        clear sn ss
        have b4 : (K == 4) = false := by rw [beq_eq_false_iff_ne]; omega
        rcases h0 with h0 | h0
        · have k1 : ¬ (5 ≤ K) := by omega
          go_wp2
          go_roundw
          case rel => exact ⟨hb, i + 1, by omega, by go_num, by rw [HSN.out.1], by rw [HSN.out.2]⟩
          case measure => simp [intOf]; omega
        · have k1 : 5 ≤ K := by omega
          have k2 : ¬ (K ≤ 10) := by omega
          have k3 : ¬ (K < 1) := by omega
          have k4 : 3 < K := by omega
          go_wp2
          go_roundw
          case rel => exact ⟨hb, i + 1, by omega, by go_num, by rw [HSN.out.1], by rw [HSN.out.2]⟩
          case measure => simp [intOf]; omega
      · obtain ⟨h1, h2⟩ := not_or.1 h0
        have hc : (K = 1 ∨ K = 2 ∨ K = 3) ∨ K = 4 ∨ K = 5 ∨ K = 6 ∨ K = 7 ∨ K = 8 ∨ K = 9 ∨ K = 10 := by omega
        clear h0 h1 h2 sn
        rcases hc with hc | hc
        · have HS : Hid (shw T (i + 1) = (if F then X else Z ++ (32 :: X)) ∧ non T (i + 1) = false) := ss X (piece_tx hc)
          have b4 : (K == 4) = false := by rw [beq_eq_false_iff_ne]; omega
          have k1 : ¬ (5 ≤ K) := by omega
          have k3 : ¬ (K < 1) := by omega
          have k4 : ¬ (3 < K) := by omega
          clear ss hc
          cases F
          · go_wp2
            go_roundw
            case rel => exact ⟨hb, i + 1, by omega, by go_num, by rw [HS.out.1]; exact congrArg Value.string (cat3 Z X), by rw [HS.out.2]⟩
            case measure => simp [intOf]; omega
          · have HZ := hZF rfl
            subst HZ
            go_wp2
            go_roundw
            case rel => exact ⟨hb, i + 1, by omega, by go_num, by rw [HS.out.1]; exact congrArg Value.string (cat_s [] X), by rw [HS.out.2]⟩
            case measure => simp [intOf]; omega
        · rcases hc with rfl | hc
          · have HS : Hid (shw T (i + 1) = (if F then 34 :: (X ++ [34]) else Z ++ (32 :: (34 :: (X ++ [34])))) ∧ non T (i + 1) = false) := ss _ (piece_4 X)
            clear ss
            cases F
            · go_wp2
              go_roundw
              case rel => exact ⟨hb, i + 1, by omega, by go_num, by rw [HS.out.1, quo4b]; exact congrArg Value.string (cat3 Z _), by rw [HS.out.2]⟩
              case measure => simp [intOf]; omega
            · have HZ := hZF rfl
              subst HZ
              go_wp2
              go_roundw
              case rel => exact ⟨hb, i + 1, by omega, by go_num, by rw [HS.out.1, quo4b]; exact congrArg Value.string (cat_s [] _), by rw [HS.out.2]⟩
              case measure => simp [intOf]; omega
          · rcases hc with rfl | rfl | rfl | rfl | rfl | rfl
            · have HS : Hid (shw T (i + 1) = (if F then [40] else Z ++ (32 :: [40])) ∧ non T (i + 1) = false) := ss [40] rfl
              clear ss
              cases F
              · go_wp2
                go_quiet (fail)
                go_wp2
                go_roundw
                case rel => exact ⟨bel hb (bel_dn _ _), i + 1, by omega, by go_num, by rw [HS.out.1]; exact congrArg Value.string (cat3 Z [40]), by rw [HS.out.2]⟩
                case measure => simp [intOf]; omega
              · have HZ := hZF rfl
                subst HZ
                go_wp2
                go_quiet (fail)
                go_wp2
                go_roundw
                case rel => exact ⟨bel hb (bel_dn _ _), i + 1, by omega, by go_num, by rw [HS.out.1]; exact congrArg Value.string (cat_s [] [40]), by rw [HS.out.2]⟩
                case measure => simp [intOf]; omega
            · have HS : Hid (shw T (i + 1) = (if F then [41] else Z ++ (32 :: [41])) ∧ non T (i + 1) = false) := ss [41] rfl
              clear ss
              cases F
              · go_wp2
                go_quiet (fail)
                go_wp2
                go_roundw
                case rel => exact ⟨bel hb (bel_dn _ _), i + 1, by omega, by go_num, by rw [HS.out.1]; exact congrArg Value.string (cat3 Z [41]), by rw [HS.out.2]⟩
                case measure => simp [intOf]; omega
              · have HZ := hZF rfl
                subst HZ
                go_wp2
                go_quiet (fail)
                go_wp2
                go_roundw
                case rel => exact ⟨bel hb (bel_dn _ _), i + 1, by omega, by go_num, by rw [HS.out.1]; exact congrArg Value.string (cat_s [] [41]), by rw [HS.out.2]⟩
                case measure => simp [intOf]; omega
            · have HS : Hid (shw T (i + 1) = (if F then [44] else Z ++ (32 :: [44])) ∧ non T (i + 1) = false) := ss [44] rfl
              clear ss
              cases F
              · go_wp2
                go_quiet (fail)
                go_wp2
                go_roundw
                case rel => exact ⟨bel hb (bel_dn _ _), i + 1, by omega, by go_num, by rw [HS.out.1]; exact congrArg Value.string (cat3 Z [44]), by rw [HS.out.2]⟩
                case measure => simp [intOf]; omega
              · have HZ := hZF rfl
                subst HZ
                go_wp2
                go_quiet (fail)
                go_wp2
                go_roundw
                case rel => exact ⟨bel hb (bel_dn _ _), i + 1, by omega, by go_num, by rw [HS.out.1]; exact congrArg Value.string (cat_s [] [44]), by rw [HS.out.2]⟩
                case measure => simp [intOf]; omega
            · have HS : Hid (shw T (i + 1) = (if F then [61] else Z ++ (32 :: [61])) ∧ non T (i + 1) = false) := ss [61] rfl
              clear ss
              cases F
              · go_wp2
                go_quiet (fail)
                go_wp2
                go_roundw
                case rel => exact ⟨bel hb (bel_dn _ _), i + 1, by omega, by go_num, by rw [HS.out.1]; exact congrArg Value.string (cat3 Z [61]), by rw [HS.out.2]⟩
                case measure => simp [intOf]; omega
              · have HZ := hZF rfl
                subst HZ
                go_wp2
                go_quiet (fail)
                go_wp2
                go_roundw
                case rel => exact ⟨bel hb (bel_dn _ _), i + 1, by omega, by go_num, by rw [HS.out.1]; exact congrArg Value.string (cat_s [] [61]), by rw [HS.out.2]⟩
                case measure => simp [intOf]; omega
            · have HS : Hid (shw T (i + 1) = (if F then [45] else Z ++ (32 :: [45])) ∧ non T (i + 1) = false) := ss [45] rfl
              clear ss
              cases F
              · go_wp2
                go_quiet (fail)
                go_wp2
                go_roundw
                case rel => exact ⟨bel hb (bel_dn _ _), i + 1, by omega, by go_num, by rw [HS.out.1]; exact congrArg Value.string (cat3 Z [45]), by rw [HS.out.2]⟩
                case measure => simp [intOf]; omega
              · have HZ := hZF rfl
                subst HZ
                go_wp2
                go_quiet (fail)
                go_wp2
                go_roundw
                case rel => exact ⟨bel hb (bel_dn _ _), i + 1, by omega, by go_num, by rw [HS.out.1]; exact congrArg Value.string (cat_s [] [45]), by rw [HS.out.2]⟩
                case measure => simp [intOf]; omega
            · have HS : Hid (shw T (i + 1) = (if F then [59] else Z ++ (32 :: [59])) ∧ non T (i + 1) = false) := ss [59] rfl
              clear ss
              cases F
              · go_wp2
                go_quiet (fail)
                go_wp2
                go_roundw
                case rel => exact ⟨bel hb (bel_dn _ _), i + 1, by omega, by go_num, by rw [HS.out.1]; exact congrArg Value.string (cat3 Z [59]), by rw [HS.out.2]⟩
                case measure => simp [intOf]; omega
              · have HZ := hZF rfl
                subst HZ
                go_wp2
                go_quiet (fail)
                go_wp2
                go_roundw
                case rel => exact ⟨bel hb (bel_dn _ _), i + 1, by omega, by go_num, by rw [HS.out.1]; exact congrArg Value.string (cat_s [] [59]), by rw [HS.out.2]⟩
                case measure => simp [intOf]; omega
    · have : i = n := by omega
      subst this
      have hfin : shw T i = showP T := by unfold shw showP; rw [List.take_of_length_le (by rw [HN.out]; exact Nat.le_refl _)]
      have HF : Hid (shw T i = showP T) := hfin
      clear hfin
      go_wp2
      go_ret
      exact ⟨by rw [HF.out]; rfl, hb⟩

end Go.Proofs.Ytheedniegjcbgaa
