import Derived.Test.YtheedniegjcbgaaLexPure
/- LexAhead. -/
namespace Go.Proofs.Ytheedniegjcbgaa
open Go.RowKit
set_option linter.unusedVariables false
set_option linter.unusedSimpArgs false

def blk4 : ByteArray := ⟨#[32, 9, 10, 13]⟩
def ahB : Nat → Bs
  | 0 => []
  | k + 1 => ahB k ++ bs (blk4.extract (k % 4) (k % 4 + 1))
theorem ahB_blank (k : Nat) : ∀ c ∈ ahB k, pBlank (nb c) = true := by
  induction k with
  | zero => intro c hc; cases hc
  | succ k ih =>
    intro c hc
    rcases List.mem_append.1 hc with h | h
    · exact ih c h
    · have hk : k % 4 < 4 := Nat.mod_lt _ (by decide)
      have : ∀ m, m < 4 → ∀ c ∈ bs (blk4.extract m (m + 1)), pBlank (nb c) = true := by decide
      exact this _ hk c h
theorem ahB_len (k : Nat) : (ahB k).length = k := by
  induction k with
  | zero => rfl
  | succ k ih =>
    have hk : k % 4 < 4 := Nat.mod_lt _ (by decide)
    have : ∀ m, m < 4 → (bs (blk4.extract m (m + 1))).length = 1 := by decide
    rw [ahB, List.length_append, ih, this _ hk]
theorem append_bs (a : Bs) (b : ByteArray) : (⟨a.toArray⟩ : ByteArray) ++ b = ⟨(a ++ bs b).toArray⟩ := by
  apply ByteArray.ext
  simp [bs]

theorem scanF_at (n : Nat) : ∀ (f : Nat) (r : Bs), ∀ t ∈ (scanF n f r).toks, t.at_ ≤ n
  | f, [], t, h => by rw [scanF_nil] at h; cases h
  | 0, b :: r, t, h => by cases h
  | f + 1, b :: r, t, h => by
    by_cases he : (tokL (b :: r)).err = 0
    · rw [scanF_tok n f _ (by simp) he] at h
      rcases List.mem_cons.1 h with h | h
      · rw [h]; exact Nat.sub_le _ _
      · exact scanF_at n f _ t h
    · rw [scanF_err n f _ (by simp) he] at h; cases h
theorem scanF_place (n : Nat) : ∀ (f : Nat) (r : Bs), (scanF n f r).place ≤ n
  | f, [] => by rw [scanF_nil]; exact Nat.le_refl _
  | 0, b :: r => Nat.le_refl _
  | f + 1, b :: r => by
    by_cases he : (tokL (b :: r)).err = 0
    · rw [scanF_tok n f _ (by simp) he]
      exact scanF_place n f _
    · rw [scanF_err n f _ (by simp) he]; exact Nat.sub_le _ _
theorem scan_at (l : Bs) : ∀ t ∈ (scanP l).toks, t.at_ ≤ 65536 := by
  intro t h
  unfold scanP at h
  split at h
  · cases h
  · rename_i hl
    split at h
    · cases h
    · rcases List.mem_append.1 h with h | h
      · have := scanF_at _ _ _ t h
        omega
      · simp at h
        rw [h]
        show l.length ≤ 65536
        omega
theorem scan_place (l : Bs) : (scanP l).place ≤ 65536 := by
  unfold scanP
  split
  · exact Nat.zero_le _
  · split
    · have := scanF_place l.length l.length (skp false l)
      show (scan0 l).place ≤ 65536
      unfold scan0
      omega
    · exact Nat.zero_le _

set_option maxRecDepth 100000 in
set_option maxHeartbeats 4000000 in
theorem walk_LexAhead (s : ByteArray) (hs : s.size ≤ 140737488351232) (n : Int) (hn0 : -9223372036854775808 ≤ n) (hn1 : n ≤ 9223372036854775807) (w : World) :
    Calls Try.prog 7 #[.string s, .int .i64 n] w fun e w' => e = .returned (.bool true) ∧ Below w.heap.size w w' := by
  go_enter Try.func7, Try.ntmps7
  go_upto_region 2 with fail
  obtain ⟨b, hbm, hb2⟩ : ∃ b : Nat, max 0 (min n 200) = (b : Int) ∧ b ≤ 200 := ⟨(max 0 (min n 200)).toNat, by omega, by omega⟩
  obtain ⟨z, hz⟩ : ∃ z, min n 200 = z := ⟨_, rfl⟩
  rw [hbm, hz]
  clear hz hbm
  go_wp2
  go_loopw [5, 6] (fun av iv wr => wr = w ∧ ∃ k : Nat, k ≤ b ∧ iv = .int .i64 k ∧ av = .string ⟨(ahB k).toArray⟩) (fun _ iv _ => b - (intOf iv).toNat)
  case atStart => exact ⟨rfl, 0, Nat.zero_le _, rfl, rfl⟩
  case round =>
    obtain ⟨rfl, k, hk, rfl, rfl⟩ := hrel
    by_cases hlt : k < b
    · have k1 : (0 : Int) ≤ (k : Int) := by omega
      have k2 : (k : Int) < (b : Int) := by omega
      have hlen : List.length (ahB k) = k := ahB_len k
      go_wp2
      go_roundw
      case rel =>
        refine ⟨by trivial, k + 1, by omega, by go_num, ?_⟩
        rw [append_bs]
        rfl
      case measure => simp [intOf]; omega
    · have : k = b := by omega
      subst this
      have hlen : List.length (ahB k) = k := ahB_len k
      have hsz : ((⟨(ahB k).toArray⟩ : ByteArray) ++ s).size = k + s.size := by rw [← bs_length, append_bs]; simp [bs, hlen]
      have hbs : bs ((⟨(ahB k).toArray⟩ : ByteArray) ++ s) = ahB k ++ bs s := by rw [append_bs]; simp [bs]
      have S1 := scan_any s (by unfold maxLen; omega) wr
      have S2 := scan_any ((⟨(ahB k).toArray⟩ : ByteArray) ++ s) (by rw [hsz]; unfold maxLen; omega)
      have hl := scan_len (bs s)
      have hat := scan_at (bs s)
      rw [hbs] at S2
      by_cases hlong : 65536 < s.size + k
      · rw [scan_ahead_long (ahB k) (bs s) (by rw [bs_length, hlen]; exact hlong)] at S2
        have i1 : (65536 : Int) < (s.size : Int) + (k : Int) := by omega
        obtain ⟨r, hr⟩ : ∃ r, scanP (bs s) = r := ⟨_, rfl⟩
        rw [hr] at S1
        obtain ⟨T, E, P⟩ := r
        have H1 : Hid (Calls Try.prog 9 #[.string s] wr fun e w' => ∃ v, e = .returned (.tuple #[v, .int .i64 E, .int .i64 (P : Int)]) ∧ Own w' wr.heap.size v T ∧ Below wr.heap.size wr w') := S1
        have H2 : Hid (∀ w : World, Calls Try.prog 9 #[.string ((⟨(ahB k).toArray⟩ : ByteArray) ++ s)] w fun e w' => ∃ v, e = .returned (.tuple #[v, .int .i64 2, .int .i64 0]) ∧ Own w' w.heap.size v [] ∧ Below w.heap.size w w') := S2
        clear S1 S2 hr hl hat hbs hsz
        go_wp2_with (first
          | ((with_reducible refine H1.out.mono ?_); rintro e w1 ⟨v1, rfl, ho1, hb1⟩; clear ho1)
          | ((with_reducible refine (H2.out _).mono ?_); rintro e w2 ⟨v2, rfl, ho2, hb2'⟩; clear ho2)
          | (go_at_call 12; refine (works_any _).mono ?_; rintro e w4 ⟨rfl, hb4⟩))
        go_ret
        exact ⟨rfl, bel (bel hb1 hb2') hb4⟩
      · obtain ⟨e1, e2, e3⟩ := scan_ahead (ahB k) (bs s) (ahB_blank k) (by rw [bs_length, hlen]; omega)
        have i1 : ¬ ((65536 : Int) < (s.size : Int) + (k : Int)) := by omega
        rw [hlen] at e1 e3
        simp only [e1, e2] at S2
        obtain ⟨P2, hP2⟩ : ∃ P2, (scanP (ahB k ++ bs s)).place = P2 := ⟨_, rfl⟩
        rw [hP2] at e3
        simp only [hP2] at S2
        obtain ⟨r, hr⟩ : ∃ r, scanP (bs s) = r := ⟨_, rfl⟩
        rw [hr] at S1 hl hat e3
        simp only [hr] at S2
        obtain ⟨T, E, P⟩ := r
        obtain ⟨N, hN⟩ : ∃ N, T.length = N := ⟨_, rfl⟩
        have HN : Hid (T.length = N ∧ (T.map (shT k)).length = N) := ⟨hN, by rw [List.length_map]; exact hN⟩
        have hN2 : N ≤ 65537 := by rw [← hN]; exact hl
        have H1 : Hid (Calls Try.prog 9 #[.string s] wr fun e w' => ∃ v, e = .returned (.tuple #[v, .int .i64 E, .int .i64 (P : Int)]) ∧ Own w' wr.heap.size v T ∧ Below wr.heap.size wr w') := S1
        have H2 : Hid (∀ w : World, Calls Try.prog 9 #[.string ((⟨(ahB k).toArray⟩ : ByteArray) ++ s)] w fun e w' => ∃ v, e = .returned (.tuple #[v, .int .i64 E, .int .i64 (P2 : Int)]) ∧ Own w' w.heap.size v (T.map (shT k)) ∧ Below w.heap.size w w') := S2
        have HAT : Hid (∀ t ∈ T, t.at_ ≤ 65536) := hat
        have hE : (E == 0) = false → (P2 : Int) = (P : Int) + k := fun h => by
          have := e3 (by simpa using h)
          simp only at this
          omega
        have hP : (P : Int) ≤ 65536 := by
          have := scan_place (bs s)
          rw [hr] at this
          simp only at this
          omega
        clear S1 S2 hr hl hat hbs hsz hP2 e1 e2 e3 hN
        go_upto_region 11 with (first
          | ((with_reducible refine H1.out.mono ?_); rintro e w1 ⟨v1, rfl, ho1, hb1⟩; obtain ⟨p1, c1, rfl, hr1⟩ := ho1.rd; rw [HN.out.1]; have HR1 : Hid (T = [] ∨ ∃ b o, p1 = some ⟨b, o, none⟩ ∧ ∀ i (h : i < T.length), At3 w1 b (o + i * 3) T[i]) := hr1; clear ho1 hr1)
          | ((with_reducible refine (H2.out _).mono ?_); rintro e w2 ⟨v2, rfl, ho2, hb2'⟩; obtain ⟨p2, c2, rfl, hr2⟩ := ho2.rd; rw [HN.out.2]; have HR2 : Hid (T.map (shT k) = [] ∨ ∃ b o, p2 = some ⟨b, o, none⟩ ∧ ∀ i (h : i < (T.map (shT k)).length), At3 w2 b (o + i * 3) (T.map (shT k))[i]) := hr2; clear ho2 hr2))
        go_cut [79] (fun cv wx => cv = .bool false ∧ wx = w2)
        case first =>
          by_cases hE0 : (E == 0) = false
          · have h2 := hE hE0
            have h3 : ((P2 : Int) != (P : Int) + k) = false := by simpa using h2
            have hE1 : (E != 0) = true := by simpa using hE0
            clear hE h2
            go_wp2
            go_meet
            exact ⟨rfl, rfl⟩
          · have hE2 : (E == 0) = true := by simpa using hE0
            have hE1 : (E != 0) = false := by simpa using hE0
            clear hE
            go_wp2
            go_meet
            exact ⟨rfl, rfl⟩
        case rest =>
          obtain ⟨rfl, rfl⟩ := hcut
          clear hE
          go_wp2
          go_loopw [13] (fun iv wr => Below wc.heap.size wc wr ∧ ∃ i : Nat, i ≤ N ∧ iv = .int .i64 i) (fun iv _ => N - (intOf iv).toNat)
          case atStart => exact ⟨bel0 _, 0, Nat.zero_le _, rfl⟩
          case round =>
            obtain ⟨hb, i, hi, rfl⟩ := hrel
            by_cases hlt : i < N
            · have hll : i < T.length := by rw [HN.out.1]; exact hlt
              have hlm : i < (T.map (shT k)).length := by rw [HN.out.2]; exact hlt
              rcases HR1.out with h | ⟨ba, oa, rfl, ha⟩
              · rw [h] at hll; exact absurd hll (Nat.not_lt_zero _)
              rcases HR2.out with h | ⟨bb, ob, rfl, hbb⟩
              · rw [h] at hlm; exact absurd hlm (Nat.not_lt_zero _)
              obtain ⟨x0, x1, x2⟩ := ((ha i hll).below hb2').below hb
              obtain ⟨y0, y1, y2⟩ := (hbb i hlm).below hb
              have hta := HAT.out T[i] (List.getElem_mem hll)
              rw [List.getElem_map] at y0 y1 y2
              unfold shT at y0 y1 y2
              obtain ⟨t, ht⟩ : ∃ t, T[i] = t := ⟨_, rfl⟩
              rw [ht] at x0 x1 x2 y0 y1 y2 hta
              obtain ⟨K, X, A⟩ := t
              simp only at x0 x1 x2 y0 y1 y2 hta
              rw [show ((A + k : Nat) : Int) = (A : Int) + k by omega] at y2
              have hA : (A : Int) ≤ 65536 := by omega
              have hbl := mcell_lt y0
              have n1 : bb ≠ wr.heap.size := by have h : bb < wr.heap.size := hbl; omega
              have n2 : wr.heap.size ≠ bb := fun e => n1 e.symm
              have i3 : (0 : Int) ≤ (i : Int) := by omega
              have i4 : (i : Int) < (N : Int) := by omega
              have hdk : wr.heap.size ≤ wr.heap.size := Nat.le_refl _
              have z0 : ∀ o, (wr.alloc o).cell? ⟨bb, ob + i * 3, none⟩ = some (.int .i64 K) := fun o => ((bel_alloc wr o).cell hbl).trans y0
              have z1 : ∀ o, (wr.alloc o).cell? ⟨bb, ob + i * 3 + 1, none⟩ = some (.string ⟨X.toArray⟩) := fun o => ((bel_alloc wr o).cell (p := ⟨bb, ob + i * 3 + 1, none⟩) hbl).trans y1
              have z2 : ∀ o, (wr.alloc o).cell? ⟨bb, ob + i * 3 + 2, none⟩ = some (.int .i64 ((A : Int) + k)) := fun o => ((bel_alloc wr o).cell (p := ⟨bb, ob + i * 3 + 2, none⟩) hbl).trans y2
              clear ha hbb ht
              go_wp2
              go_quiet (fail)
              go_wp2
              go_roundw
              case rel => exact ⟨bel (bel hb (bel_alloc _ _)) (bel_dn _ _), i + 1, by omega, by go_num⟩
              case measure => simp [intOf]; omega
            · have : i = N := by omega
              subst this
              go_wp2_with (go_at_call 12; refine (works_any _).mono ?_; rintro e w4 ⟨rfl, hb4⟩)
              go_ret
              exact ⟨rfl, bel (bel (bel hb1 hb2') hb) hb4⟩

end Go.Proofs.Ytheedniegjcbgaa
