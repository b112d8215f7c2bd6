import Derived.Test.YtnlgkkbmbijndaaDam14
import Derived.Deep.DeepCutAuto
import Derived.Lib.ConvBytes
/- Package code: the reader: number. -/
namespace Go.Proofs.Ytnlgkkbmbijndaa
open Go.RowKit
set_option linter.unusedVariables false
set_option linter.unusedSimpArgs false

theorem bo64 {x y : Nat} (hx : x < 2 ^ 63) (hy : y < 2 ^ 63) : bits .or .i64 (x : Int) (y : Int) = ((x ||| y : Nat) : Int) := by
  have h : (BitVec.ofInt 64 (x : Int) ||| BitVec.ofInt 64 (y : Int)).toNat = x ||| y := by
    rw [BitVec.toNat_or]
    simp only [BitVec.ofInt_natCast, BitVec.toNat_ofNat]
    rw [Nat.mod_eq_of_lt (by omega), Nat.mod_eq_of_lt (by omega)]
  have h2 : x ||| y < 2 ^ 63 := Nat.or_lt_two_pow hx hy
  show IntKind.i64.wrap (((BitVec.ofInt 64 (x : Int) ||| BitVec.ofInt 64 (y : Int)).toNat : Nat) : Int) = _
  rw [h, IntKind.wrap_i64]
  omega
theorem or_grp {n g k : Nat} (hn : n < 128 ^ k) : n ||| g * 128 ^ k = n + g * 128 ^ k := by
  have e : (128 : Nat) ^ k = 2 ^ (7 * k) := by rw [Nat.pow_mul]
  rw [e] at hn ⊢
  rw [Nat.or_comm, Nat.mul_comm g, ← Nat.two_pow_add_eq_or_of_lt hn, Nat.add_comm]
theorem pw_le {k : Nat} (h : k ≤ 8) : (128 : Nat) ^ k * 128 ≤ 2 ^ 63 := by
  rcases (show k = 0 ∨ k = 1 ∨ k = 2 ∨ k = 3 ∨ k = 4 ∨ k = 5 ∨ k = 6 ∨ k = 7 ∨ k = 8 by omega) with rfl | rfl | rfl | rfl | rfl | rfl | rfl | rfl | rfl <;> decide

set_option maxRecDepth 100000 in
set_option maxHeartbeats 8000000 in
theorem number_any (E RB : Nat) (s : ByteArray) (A : Nat) (w : World) (h : RdM E RB s A w) (hA : A ≤ s.size) (hs : s.size ≤ 140737488355328) (hE : E ≤ w.heap.size) :
    Calls Try.prog 54 #[.pointer (some ⟨RB, 0, none⟩)] w (RdT E RB s w (fun (b : Nat) => .int .i64 (b : Int)) (pNum ((bytN s).drop A) A)) := by
  have c1 := h.c1
  obtain ⟨N, hN⟩ : ∃ N, s.size = N := ⟨_, rfl⟩
  have hd : Below w.heap.size w w.drew := (Below.refl _ _).drew
  obtain ⟨V, hV⟩ : ∃ V, w.drew = V := ⟨_, rfl⟩
  rw [hV] at hd
  have hm := h.below hd
  have v0 := hm.c0
  have v1 := hm.c1
  have fz : V.frozen? ⟨RB, 1, none⟩ = false := hm.b.frozen 1
  have HERR : Hid (Below E w V ∧ RdO RB w V) := ⟨hd.mono hE, RdO.of hd⟩
  have HOK : Hid (∀ P : Nat, Below E w (V.setCell ⟨RB, 1, none⟩ (.int .i64 (P : Int))) ∧ RdO RB w (V.setCell ⟨RB, 1, none⟩ (.int .i64 (P : Int))) ∧ RdM E RB s P (V.setCell ⟨RB, 1, none⟩ (.int .i64 (P : Int)))) := fun P => ⟨(hd.mono hE).setCell h.ge _, (RdO.of hd).trans (RdO.set _ _ _ _), hm.set P⟩
  clear h hm hd
  go_enter Try.func54, Try.ntmps54
  go_upto_region 2 with fail
  refine wp_region_held_drew (S := (fun v => v.cell? ⟨RB, 1, none⟩ = some (.int .i64 (A : Int)))) (by kernel_rfl) ?_ (fun hHeld => ?_)
  · ((try dsimp only); go_keep)
  refine wpAnyH_take (i := 0) (v := ?_) (by simp only [List.getElem?_toArray, List.getElem?_cons_succ, List.getElem?_cons_zero]; rfl) (by kernel_rfl) (by kernel_rfl) (by kernel_rfl) (by exact fun _ _ _ h => h) (Or.inl ⟨by rfl, ?_⟩) (by assumption) ?_
  rotate_left 1
  · (intro wS hSw; (try dsimp only at hSw); go_simp; try (with_reducible rfl))
  try simp only [Act.put, List.setIfInBounds_toArray, List.set_cons_zero, List.set_cons_succ]
  refine wpAnyH_take (i := 1) (v := ?_) (by simp only [List.getElem?_toArray, List.getElem?_cons_succ, List.getElem?_cons_zero]; rfl) (by kernel_rfl) (by kernel_rfl) (by kernel_rfl) (by exact fun _ _ _ h => h) (Or.inl ⟨by rfl, ?_⟩) (by assumption) ?_
  rotate_left 1
  · (intro wS hSw; (try dsimp only at hSw); go_simp; try (with_reducible rfl))
  try simp only [Act.put, List.setIfInBounds_toArray, List.set_cons_zero, List.set_cons_succ]
  refine wpAnyH_take (i := 2) (v := ?_) (by simp only [List.getElem?_toArray, List.getElem?_cons_succ, List.getElem?_cons_zero]; rfl) (by kernel_rfl) (by kernel_rfl) (by kernel_rfl) (by exact fun _ _ _ h => h) (Or.inl ⟨by rfl, ?_⟩) (by assumption) ?_
  rotate_left 1
  · (intro wS hSw; (try dsimp only at hSw); go_simp; try (with_reducible rfl))
  try simp only [Act.put, List.setIfInBounds_toArray, List.set_cons_zero, List.set_cons_succ]
  refine wpAnyH_take (i := 3) (v := ?_) (by simp only [List.getElem?_toArray, List.getElem?_cons_succ, List.getElem?_cons_zero]; rfl) (by kernel_rfl) (by kernel_rfl) (by kernel_rfl) (by exact fun _ _ _ h => h) (Or.inl ⟨by rfl, ?_⟩) (by assumption) ?_
  rotate_left 1
  · (intro wS hSw; (try dsimp only at hSw); go_simp; try (with_reducible rfl))
  try simp only [Act.put, List.setIfInBounds_toArray, List.set_cons_zero, List.set_cons_succ]
  refine wpAnyH_take (i := 4) (v := ?_) (by simp only [List.getElem?_toArray, List.getElem?_cons_succ, List.getElem?_cons_zero]; rfl) (by kernel_rfl) (by kernel_rfl) (by kernel_rfl) (by exact fun _ _ _ h => h) (Or.inl ⟨by rfl, ?_⟩) (by assumption) ?_
  rotate_left 1
  · (intro wS hSw; (try dsimp only at hSw); go_simp; try (with_reducible rfl))
  try simp only [Act.put, List.setIfInBounds_toArray, List.set_cons_zero, List.set_cons_succ]
  refine wpAnyH_take (i := 5) (v := ?_) (by simp only [List.getElem?_toArray, List.getElem?_cons_succ, List.getElem?_cons_zero]; rfl) (by kernel_rfl) (by kernel_rfl) (by kernel_rfl) (by exact fun _ _ _ h => h) (Or.inl ⟨by rfl, ?_⟩) (by assumption) ?_
  rotate_left 1
  · (intro wS hSw; (try dsimp only at hSw); go_simp; try (with_reducible rfl))
  try simp only [Act.put, List.setIfInBounds_toArray, List.set_cons_zero, List.set_cons_succ]
  refine wpAnyH_done (by kernel_rfl) ?_ _
  rw [hV]
  clear c1 hV
  go_wp2_with fail
  go_loopw [3, 4, 5] (fun nv sv av wx => wx = V ∧ ∃ k n : Nat, k ≤ 9 ∧ A + k ≤ N ∧ nv = .int .i64 (n : Int) ∧ sv = .int .i64 ((7 * k : Nat) : Int) ∧ av = .int .i64 ((A + k : Nat) : Int) ∧ Hid (n < 128 ^ k ∧ numR ((bytN s).drop A) 0 0 = numR ((bytN s).drop (A + k)) k n)) (fun _ _ av _ => N - (intOf av).toNat)
  case atStart => exact ⟨rfl, 0, 0, by omega, by omega, rfl, rfl, rfl, by decide, rfl⟩
  case round =>
    obtain ⟨rfl, k, n, hk, hAk, rfl, rfl, rfl, HJ⟩ := hrel
    obtain ⟨hn, hR⟩ := HJ.out
    obtain ⟨P, hP⟩ : ∃ P, A + k = P := ⟨_, rfl⟩
    rw [hP] at hR hAk ⊢
    by_cases hlt : P < N
    · have hPs : P < s.size := by omega
      rw [dropN_at hPs] at hR
      obtain ⟨B, hB⟩ : ∃ B, s[P].toNat = B := ⟨_, rfl⟩
      rw [hB] at hR
      have hB2 : B < 256 := by rw [← hB]; exact s[P].toNat_lt
      have i1 : (0 : Int) ≤ (P : Int) := by omega
      have i2 : (P : Int) < (N : Int) := by omega
      rw [numR] at hR
      by_cases q : k = 9 ∨ (B = 0 ∧ 0 < k)
      · rw [if_pos q] at hR
        have HP : Hid (pNum ((bytN s).drop A) A = .error (243, A)) := by show pNum _ _ = _; unfold pNum; rw [hR]
        have HG : Hid (RdT E RB s w (fun (b : Nat) => .int .i64 (b : Int)) (pNum ((bytN s).drop A) A) (flt 243 A) wr) := by
          show RdT _ _ _ _ _ _ _ _
          rw [HP.out]
          exact ⟨rfl, HERR.out⟩
        unfold flt at HG
        by_cases q9 : k = 9
        · subst q9
          clear q hR HJ hn HP
          go_wp2
          exact ⟨rfl, HG.out⟩
        · obtain ⟨hB0, hk0⟩ : B = 0 ∧ 0 < k := by omega
          subst hB0
          have s1 : ((7 * k : Nat) : Int) ≠ 63 := by omega
          have s2 : (((7 * k : Nat) : Int) == 63) = false := by simp; omega
          have s3 : (0 : Int) < ((7 * k : Nat) : Int) := by omega
          clear q hR HJ hn HP
          go_wp2
          exact ⟨rfl, HG.out⟩
      · rw [if_neg q] at hR
        have hk8 : k ≤ 8 := by omega
        obtain ⟨G, hG⟩ : ∃ G, B % 128 = G := ⟨_, rfl⟩
        have hG1 : G < 128 := by omega
        have hpw := pw_le hk8
        obtain ⟨T, hT⟩ : ∃ T, G * 128 ^ k = T := ⟨_, rfl⟩
        have hT1 : T < 2 ^ 63 := by
          have h9 : (G + 1) * 128 ^ k ≤ 128 * 128 ^ k := Nat.mul_le_mul_right _ (by omega)
          rw [Nat.add_mul, hT] at h9
          have h8 : 0 < 128 ^ k := Nat.pow_pos (by decide)
          omega
        have hn1 : n < 2 ^ 63 := by omega
        obtain ⟨M, hM⟩ : ∃ M, n + T = M := ⟨_, rfl⟩
        have hor : bits .or .i64 (n : Int) (T : Int) = (M : Int) := by rw [bo64 hn1 hT1, ← hT, or_grp hn, hT, hM]
        have hM1 : M < 128 ^ (k + 1) := by
          have h9 : (G + 1) * 128 ^ k ≤ 128 * 128 ^ k := Nat.mul_le_mul_right _ (by omega)
          rw [Nat.add_mul, hT] at h9
          rw [Nat.pow_succ]
          omega
        have t1 : ((B : Int).tmod 128) = (G : Int) := by rw [Int.tmod_eq_emod_of_nonneg (by omega)]; omega
        have t1' : ((B : Int) % 128) = (G : Int) := by omega
        have t2 : IntKind.i64.wrap (G : Int) = (G : Int) := by rw [IntKind.wrap_i64]; omega
        have t2' : IntKind.u8.wrap (G : Int) = (G : Int) := by rw [IntKind.wrap_u8']; omega
        have s2 : (((7 * k : Nat) : Int) == 63) = false := by simp; omega
        have hsh : (G : Int) * 2 ^ (7 * k) = (T : Int) := by
          rw [← hT, show (128 : Nat) ^ k = 2 ^ (7 * k) by rw [Nat.pow_mul], Int.natCast_mul, Int.natCast_pow]
          rfl
        have t3 : IntKind.i64.wrap (T : Int) = (T : Int) := by rw [IntKind.wrap_i64]; omega
        have s4 : (0 : Int) ≤ ((7 * k : Nat) : Int) := by omega
        have wP : IntKind.i64.wrap ((P : Int) + 1) = ((P + 1 : Nat) : Int) := by rw [IntKind.wrap_i64]; omega
        have wK : IntKind.i64.wrap (((7 * k : Nat) : Int) + 7) = ((7 * (k + 1) : Nat) : Int) := by rw [IntKind.wrap_i64]; omega
        have hfree : k = 0 ∨ (0 < k ∧ B ≠ 0) := by omega
        have HFR : Hid (k = 0 ∨ (0 < k ∧ B ≠ 0)) := hfree
        by_cases hb : B < 128
        · rw [if_pos hb] at hR
          have HP : Hid (pNum ((bytN s).drop A) A = .ok (M, (bytN s).drop (P + 1), P + 1)) := by
            show pNum _ _ = _
            unfold pNum
            rw [hR]
            have e1 : n + B * 128 ^ k = M := by rw [← hM, ← hT, ← hG, Nat.mod_eq_of_lt hb]
            simp only [e1, List.drop_drop]
            rw [show A + (k + 1) = P + 1 by omega]
          have HG : Hid (RdT E RB s w (fun (b : Nat) => .int .i64 (b : Int)) (pNum ((bytN s).drop A) A) (.returned (.int .i64 (M : Int))) (wr.setCell ⟨RB, 1, none⟩ (.int .i64 ((P + 1 : Nat) : Int)))) := by
            show RdT _ _ _ _ _ _ _ _
            rw [HP.out]
            exact ⟨rfl, (HOK.out _).1, (HOK.out _).2.1, (HOK.out _).2.2, by omega, rfl⟩
          have e2 : (B : Int) < 128 := by omega
          rcases hfree with k0 | ⟨k0, b0⟩
          · subst k0
            have hTG : T = G := by rw [← hT]; simp
            rw [hTG] at hor
            clear q hR HJ hn HP hlt hM1 HFR hTG
            go_wp2
            refine bodyPost_ret (by simp [results, Try.results54, go_sem, *]; try rfl) rfl ?_
            exact HG.out
          · have s3 : (0 : Int) < ((7 * k : Nat) : Int) := by omega
            have b1 : ((B : Int) == 0) = false := by simp; omega
            clear q hR HJ hn HP hlt hM1 HFR
            go_wp2
            refine bodyPost_ret (by simp [results, Try.results54, go_sem, *]; try rfl) rfl ?_
            exact HG.out
        · rw [if_neg hb, hG, hT, hM] at hR
          have hR' : numR ((bytN s).drop A) 0 0 = numR ((bytN s).drop (A + (k + 1))) (k + 1) M := by rw [hR, show A + (k + 1) = P + 1 by omega]
          have HQ : Hid (M < 128 ^ (k + 1) ∧ numR ((bytN s).drop A) 0 0 = numR ((bytN s).drop (A + (k + 1))) (k + 1) M) := ⟨hM1, hR'⟩
          have e2 : ¬ (B : Int) < 128 := by omega
          have hPk : P + 1 = A + (k + 1) := by omega
          rcases hfree with k0 | ⟨k0, b0⟩
          · subst k0
            have hTG : T = G := by rw [← hT]; simp
            rw [hTG] at hor
            clear q hR hR' HJ hn hM1 HFR hTG
            go_wp2
            go_roundw
            case rel => exact ⟨trivial, 1, M, by omega, by omega, rfl, by first | rfl | (go_num) | (simp), by first | (rw [← hPk]; go_num) | (simp; omega), HQ.out⟩
            case measure => simp [intOf]; omega
          · have s3 : (0 : Int) < ((7 * k : Nat) : Int) := by omega
            have b1 : ((B : Int) == 0) = false := by simp; omega
            clear q hR hR' HJ hn hM1 HFR
            go_wp2
            go_roundw
            case rel => exact ⟨trivial, k + 1, M, by omega, by omega, rfl, by first | rfl | (go_num) | (simp), by first | (rw [← hPk]; go_num) | (simp; omega), HQ.out⟩
            case measure => simp [intOf]; omega
    · have e1 : ¬ (P : Int) < (N : Int) := by omega
      rw [dropN_end (s := s) (A := P) (by omega), numR] at hR
      have HP : Hid (pNum ((bytN s).drop A) A = .error (242, A)) := by show pNum _ _ = _; unfold pNum; rw [hR]
      have HG : Hid (RdT E RB s w (fun (b : Nat) => .int .i64 (b : Int)) (pNum ((bytN s).drop A) A) (flt 242 A) wr) := by
        show RdT _ _ _ _ _ _ _ _
        rw [HP.out]
        exact ⟨rfl, HERR.out⟩
      unfold flt at HG
      clear hR HJ hn HP hlt
      go_wp2
      exact ⟨rfl, HG.out⟩

end Go.Proofs.Ytnlgkkbmbijndaa
/- Package code: the reader: count. -/
namespace Go.Proofs.Ytnlgkkbmbijndaa
open Go.RowKit
set_option linter.unusedVariables false
set_option linter.unusedSimpArgs false

set_option maxRecDepth 100000 in
set_option maxHeartbeats 4000000 in
theorem count_any (E RB : Nat) (s : ByteArray) (A most : Nat) (w : World) (h : RdM E RB s A w) (hA : A ≤ s.size) (hs : s.size ≤ 140737488355328) (hE : E ≤ w.heap.size) :
    Calls Try.prog 51 #[.pointer (some ⟨RB, 0, none⟩), .int .i64 (most : Int)] w (RdT E RB s w (fun (b : Nat) => .int .i64 (b : Int)) (pCount most ((bytN s).drop A) A)) := by
  have c1 := h.c1
  have KN := number_any E RB s A w h hA hs hE
  unfold pCount
  clear h
  cases hq : pNum ((bytN s).drop A) A with
  | error er =>
    obtain ⟨er, at_⟩ := er
    rw [hq] at KN
    have KN' := hidC KN
    unfold RdT flt at KN' ⊢
    simp only at KN' ⊢
    clear KN hq
    go_enter Try.func51, Try.ntmps51
    go_wp2_with (go_at_call 54; (with_reducible refine KN'.out.mono ?_); rintro e9 w4 ⟨rfl, hb4, ho4⟩; have HB4 := hidC hb4; have HO4 := hidC ho4; clear hb4 ho4)
    exact ⟨rfl, rfl, HB4.out, HO4.out⟩
  | ok r =>
    obtain ⟨n, l', A'⟩ := r
    rw [hq] at KN
    have KN' := hidC KN
    clear KN hq
    unfold RdT at KN'
    simp only at KN'
    by_cases q : most < n
    · have e1 : (most : Int) < (n : Int) := by omega
      have HG : Hid (∀ w', Below E w w' → RdO RB w w' → RdT E RB s w (fun (b : Nat) => Value.int .i64 (b : Int)) (.error (2, A)) (flt 2 A) w') := fun w' a b => ⟨rfl, a, b⟩
      unfold flt at HG
      simp only
      go_enter Try.func51, Try.ntmps51
      go_wp2_with (go_at_call 54; (with_reducible refine KN'.out.mono ?_); rintro e9 w4 ⟨rfl, hb4, ho4, hm4, hl4, hd4⟩; have HB4 := hidC hb4; have HO4 := hidC ho4; clear hb4 ho4 hm4 hl4 hd4)
      exact ⟨rfl, HG.out _ HB4.out HO4.out⟩
    · have e1 : ¬ (most : Int) < (n : Int) := by omega
      have HG : Hid (∀ w', Below E w w' → RdO RB w w' → RdM E RB s A' w' → A' ≤ s.size → l' = (bytN s).drop A' → RdT E RB s w (fun (b : Nat) => Value.int .i64 (b : Int)) (.ok (n, l', A')) (.returned (.int .i64 (n : Int))) w') := fun w' a b c d e => ⟨rfl, a, b, c, d, e⟩
      simp only
      go_enter Try.func51, Try.ntmps51
      go_wp2_with (go_at_call 54; (with_reducible refine KN'.out.mono ?_); rintro e9 w4 ⟨rfl, hb4, ho4, hm4, hl4, hd4⟩; have HR4 := hidC (HG.out _ hb4 ho4 hm4 hl4 hd4); clear hb4 ho4 hm4 hl4 hd4)
      refine bodyPost_ret (by simp [results, Try.results51, go_sem, *]; try rfl) rfl ?_
      exact HR4.out

end Go.Proofs.Ytnlgkkbmbijndaa
/- Package code: the reader: fixed, pattern. -/
namespace Go.Proofs.Ytnlgkkbmbijndaa
open Go.RowKit
set_option linter.unusedVariables false
set_option linter.unusedSimpArgs false

/-- A string's bytes in a row of their own. -/
theorem conv_bytes (t : ByteArray) (w : World) : ∃ g cap w', (convert 9 40 (.string t)).run Try.prog w = .ok (.slice (some ⟨g, 0, none⟩) t.size cap) w' ∧ Below w.heap.size w w' ∧ ∀ j (hj : j < t.size), w'.cell? ⟨g, j, none⟩ = some (.int .u8 (t[j].toNat : Int)) := by
  refine ⟨w.heap.size, _, _, Go.Lib.run_convert_string_bytes w _ _ 5 t Try.underlying9 Try.underlying40 Try.underlying5, ⟨rfl, rfl, rfl, ?_, fun k hk => Go.Lib.bytesWorld_at_old _ _ _ k hk⟩, fun j hj => ?_⟩
  · rw [Go.Lib.bytesWorld_size]; omega
  · rw [Go.Lib.bytesWorld_cell _ _ _ j hj]
    have hj' : j < t.data.size := hj
    have h9 : t.data.toList.getD j 0 = t[j] := by rw [List.getD, Array.getElem?_toList, Array.getElem?_eq_getElem hj']; rfl
    rw [h9]
theorem lowN_app : ∀ (l : List Nat) (b : Nat), lowN (l ++ [b]) = lowN l + 256 ^ l.length * b
  | [], b => by simp [lowN]
  | a :: l, b => by
    show a + 256 * lowN (l ++ [b]) = a + 256 * lowN l + 256 ^ (l.length + 1) * b
    rw [lowN_app l b, Nat.pow_succ, Nat.mul_add, Nat.add_assoc, Nat.mul_comm (256 ^ l.length) 256, Nat.mul_assoc]
theorem bo64u {x y : Nat} (hx : x < 2 ^ 64) (hy : y < 2 ^ 64) : bits .or .u64 (x : Int) (y : Int) = ((x ||| y : Nat) : Int) := by
  have h : (BitVec.ofInt 64 (x : Int) ||| BitVec.ofInt 64 (y : Int)).toNat = x ||| y := by
    rw [BitVec.toNat_or]
    simp only [BitVec.ofInt_natCast, BitVec.toNat_ofNat]
    rw [Nat.mod_eq_of_lt hx, Nat.mod_eq_of_lt hy]
  have h2 : x ||| y < 2 ^ 64 := Nat.or_lt_two_pow hx hy
  show IntKind.u64.wrap (((BitVec.ofInt 64 (x : Int) ||| BitVec.ofInt 64 (y : Int)).toNat : Nat) : Int) = _
  rw [h]
  unfold IntKind.wrap
  simp [IntKind.signed, IntKind.bits]
  omega
theorem or_byte {n g k : Nat} (hn : n < 256 ^ k) : n ||| g * 256 ^ k = n + 256 ^ k * g := by
  have e : (256 : Nat) ^ k = 2 ^ (8 * k) := by rw [Nat.pow_mul]
  rw [e] at hn ⊢
  rw [Nat.or_comm, Nat.mul_comm g, ← Nat.two_pow_add_eq_or_of_lt hn, Nat.add_comm]
theorem bytN_ext (s : ByteArray) (A n : Nat) : bytN (s.extract A (A + n)) = ((bytN s).drop A).take n := by
  unfold bytN
  rw [ByteArray.data_extract, Array.toList_extract]
  simp [List.extract, List.map_take, List.map_drop]

set_option maxRecDepth 100000 in
set_option maxHeartbeats 8000000 in
theorem fixed_any (E RB : Nat) (s : ByteArray) (A c : Nat) (hc8 : c ≤ 8) (w : World) (h : RdM E RB s A w) (hA : A ≤ s.size) (hs : s.size ≤ 140737488355328) (hE : E ≤ w.heap.size) :
    Calls Try.prog 37 #[.pointer (some ⟨RB, 0, none⟩), .int .i64 (c : Int)] w (RdT E RB s w (fun (b : Nat) => .int .u64 (b : Int)) (pFix c ((bytN s).drop A) A)) := by
  by_cases hlt : s.size < A + c
  · have KT : Hid (Calls Try.prog 50 #[.pointer (some ⟨RB, 0, none⟩), .int .i64 (c : Int)] w fun e w' => e = flt 242 A ∧ Below w.heap.size w w') := take_cut E RB s A c w h hA hs (by omega) hlt
    have HP : Hid (pFix c ((bytN s).drop A) A = .error (242, A)) := by
      show pFix _ _ _ = _
      unfold pFix pBind pTake
      rw [if_pos (by rw [List.length_drop, bytN_len]; omega)]
    rw [HP.out]
    have HEW := hidC hE
    unfold RdT flt
    unfold flt at KT
    simp only
    clear h hlt HP
    go_enter Try.func37, Try.ntmps37
    go_wp2_with (go_at_call 50; (with_reducible refine KT.out.mono ?_); rintro e9 w4 ⟨rfl, hb4⟩; have HB4 := hidC hb4; clear hb4)
    exact ⟨rfl, rfl, HB4.out.mono HEW.out, RdO.of HB4.out⟩
  · obtain ⟨t, ht⟩ : ∃ t, s.extract A (A + c) = t := ⟨_, rfl⟩
    have KT := take_ok E RB s A c w h hs (by omega) hE
    rw [ht] at KT
    have KT' := hidC KT
    have htb : bytN t = ((bytN s).drop A).take c := by rw [← ht, bytN_ext]
    have hsz : t.size = c := by rw [← bytN_len, htb, List.length_take, List.length_drop, bytN_len]; omega
    have HP : Hid (pFix c ((bytN s).drop A) A = .ok (lowN (bytN t), (bytN s).drop (A + c), A + c)) := by
      show pFix _ _ _ = _
      unfold pFix pBind pTake pPure
      rw [if_neg (by rw [List.length_drop, bytN_len]; omega)]
      simp only [htb, List.drop_drop]
    rw [HP.out]
    have HFIN : Hid (∀ (e : Ending) (w' : World), e = .returned (.int .u64 ((lowN (bytN t) : Nat) : Int)) → Below E w w' → RdO RB w w' → RdM E RB s (A + c) w' → RdT E RB s w (fun (b : Nat) => Value.int .u64 (b : Int)) (.ok (lowN (bytN t), (bytN s).drop (A + c), A + c)) e w') := fun e w' a b c' d => ⟨a, b, c', d, by omega, rfl⟩
    have HBT := hidC (bytN_lt t)
    have HTL : Hid ((bytN t).length = c) := by show _ = _; rw [bytN_len]; exact hsz
    have HAT : Hid (∀ j (hj : j < t.size), (bytN t).take (j + 1) = (bytN t).take j ++ [t[j].toNat]) := fun j hj => by
      have h1 : j < (bytN t).length := by rw [bytN_len]; exact hj
      rw [List.take_succ_eq_append_getElem h1]
      congr 2
      simp [bytN]
      rfl
    have KCV := hidC (conv_bytes t)
    have HSZ := hidC hsz
    clear h hlt HP htb ht KT hsz
    go_enter Try.func37, Try.ntmps37
    go_upto_block 0 with (go_at_call 50; (with_reducible refine KT'.out.mono ?_); rintro e9 w4 ⟨rfl, hb4, hm4, ho4⟩; have HB4 := hidC hb4; have HM4 := hidC hm4; have HO4 := hidC ho4; clear hb4 hm4 ho4; obtain ⟨g, cap, w5, hr5, hb5, hc5⟩ := KCV.out w4; rw [HSZ.out] at hr5; have HB5 := hidC hb5; have HC5 := hidC hc5; clear hb5 hc5)
    have HR : Hid (Below E w w5 ∧ RdO RB w w5 ∧ RdM E RB s (A + c) w5) := ⟨HB4.out.trans (HB5.out.mono (Nat.le_trans hE HO4.out.1)), HO4.out.trans (RdO.of HB5.out), HM4.out.below HB5.out⟩
    clear hr5 HB4 HM4 HO4 HB5 KCV KT' hE hA hs
    go_wp2_with fail
    go_loopw [5, 13] (fun nv iv wx => wx = w5 ∧ ∃ j n : Nat, j ≤ c ∧ iv = .int .i64 (j : Int) ∧ nv = .int .u64 (n : Int) ∧ Hid (n = lowN ((bytN t).take j))) (fun _ iv _ => c - (intOf iv).toNat)
    case atStart => exact ⟨rfl, 0, 0, Nat.zero_le _, rfl, rfl, rfl⟩
    case round =>
      obtain ⟨rfl, j, n, hj, rfl, rfl, HN⟩ := hrel
      by_cases hlt : j < c
      · have e1 : (j : Int) < (c : Int) := by omega
        have i1 : (0 : Int) ≤ (j : Int) := by omega
        have hjt : j < t.size := by rw [HSZ.out]; exact hlt
        have c5 := HC5.out j hjt
        have hA1 := HAT.out j hjt
        obtain ⟨B, hB⟩ : ∃ B, t[j].toNat = B := ⟨_, rfl⟩
        have hB2 : B < 256 := by rw [← hB]; exact t[j].toNat_lt
        rw [hB] at c5 hA1
        have hln : ((bytN t).take j).length = j := by rw [List.length_take, HTL.out]; omega
        have hn : n < 256 ^ j := by
          have h9 := lowN_lt ((bytN t).take j) (fun b hb => HBT.out b (List.mem_of_mem_take hb))
          rw [hln, ← HN.out] at h9
          exact h9
        have hpw : 256 ^ j * 256 ≤ 2 ^ 64 := by
          rw [← Nat.pow_succ, show (2 : Nat) ^ 64 = 256 ^ 8 by decide]
          exact Nat.pow_le_pow_right (by decide) (by omega)
        obtain ⟨T, hT⟩ : ∃ T, B * 256 ^ j = T := ⟨_, rfl⟩
        have hT1 : T < 2 ^ 64 := by
          have h9 : (B + 1) * 256 ^ j ≤ 256 * 256 ^ j := Nat.mul_le_mul_right _ (by omega)
          rw [Nat.add_mul, hT] at h9
          have h8 : 0 < 256 ^ j := Nat.pow_pos (by decide)
          omega
        obtain ⟨M, hM⟩ : ∃ M, n + 256 ^ j * B = M := ⟨_, rfl⟩
        have hor : bits .or .u64 (n : Int) (T : Int) = (M : Int) := by rw [bo64u (by omega) hT1, ← hT, or_byte hn, hM]
        have HM2 : Hid (M = lowN ((bytN t).take (j + 1))) := by show M = _; rw [hA1, lowN_app, hln, ← HN.out, hM]
        have t2 : IntKind.u64.wrap (B : Int) = (B : Int) := by unfold IntKind.wrap; simp [IntKind.signed, IntKind.bits]; omega
        have w8 : IntKind.i64.wrap (8 * (j : Int)) = ((8 * j : Nat) : Int) := by rw [IntKind.wrap_i64]; omega
        have hsh : (B : Int) * 2 ^ (8 * j) = (T : Int) := by
          rw [← hT, show (256 : Nat) ^ j = 2 ^ (8 * j) by rw [Nat.pow_mul], Int.natCast_mul, Int.natCast_pow]
          rfl
        have t3 : IntKind.u64.wrap (T : Int) = (T : Int) := by unfold IntKind.wrap; simp [IntKind.signed, IntKind.bits]; omega
        have s4 : (0 : Int) ≤ ((8 * j : Nat) : Int) := by omega
        have wj : IntKind.i64.wrap ((j : Int) + 1) = ((j + 1 : Nat) : Int) := by rw [IntKind.wrap_i64]; omega
        clear hA1 hB hln hn hpw hT hM HN HAT HC5 HTL HBT HR HFIN HSZ
        go_wp2
        go_roundw
        case rel => exact ⟨trivial, j + 1, M, by omega, by go_num, by first | rfl | simp, HM2.out⟩
        case measure => simp [intOf]; omega
      · have e1 : ¬ (j : Int) < (c : Int) := by omega
        have hjc : c = j := by omega
        have HF := hidC (HFIN.out _ _ rfl HR.out.1 HR.out.2.1 HR.out.2.2)
        have HNN : Hid (lowN (bytN t) = n) := by show _ = _; rw [HN.out, ← hjc, ← HTL.out, List.take_length]
        rw [HNN.out] at HF
        clear hjc
        go_wp2
        refine bodyPost_ret (by simp [results, Try.results37, go_sem, *]; try rfl) rfl ?_
        rw [HNN.out]
        exact HF.out

set_option maxRecDepth 100000 in
set_option maxHeartbeats 4000000 in
theorem pattern_any (E RB : Nat) (s : ByteArray) (A : Nat) (w : World) (h : RdM E RB s A w) (hA : A ≤ s.size) (hs : s.size ≤ 140737488355328) (hE : E ≤ w.heap.size) :
    Calls Try.prog 55 #[.pointer (some ⟨RB, 0, none⟩)] w (RdT E RB s w (fun (b : Nat) => .int .u32 (b : Int)) (pFix 4 ((bytN s).drop A) A)) := by
  have KN : Calls Try.prog 37 #[.pointer (some ⟨RB, 0, none⟩), .int .i64 4] w (RdT E RB s w (fun (b : Nat) => .int .u64 (b : Int)) (pFix 4 ((bytN s).drop A) A)) := fixed_any E RB s A 4 (by decide) w h hA hs hE
  have hbw := (rt_fix 4).bw ((bytN s).drop A) A
  clear h
  cases hq : pFix 4 ((bytN s).drop A) A with
  | error er =>
    obtain ⟨er, at_⟩ := er
    rw [hq] at KN
    have KN' := hidC KN
    unfold RdT flt at KN' ⊢
    simp only at KN' ⊢
    clear KN hq hbw
    go_enter Try.func55, Try.ntmps55
    go_wp2_with (go_at_call 37; (with_reducible refine KN'.out.mono ?_); rintro e9 w4 ⟨rfl, hb4, ho4⟩; have HB4 := hidC hb4; have HO4 := hidC ho4; clear hb4 ho4)
    exact ⟨rfl, rfl, HB4.out, HO4.out⟩
  | ok r =>
    obtain ⟨n, l', A'⟩ := r
    have hn : n < 256 ^ 4 := (hbw n l' A' (fun b hx => bytN_lt s b (List.mem_of_mem_drop hx)) hq).2.2
    have wn : IntKind.u32.wrap (n : Int) = (n : Int) := by unfold IntKind.wrap; simp [IntKind.signed, IntKind.bits]; omega
    rw [hq] at KN
    have KN' := hidC KN
    clear KN hq hbw hn
    unfold RdT at KN'
    simp only at KN'
    have HG : Hid (∀ w', Below E w w' → RdO RB w w' → RdM E RB s A' w' → A' ≤ s.size → l' = (bytN s).drop A' → RdT E RB s w (fun (b : Nat) => Value.int .u32 (b : Int)) (.ok (n, l', A')) (.returned (.int .u32 (n : Int))) w') := fun w' a b c d e => ⟨rfl, a, b, c, d, e⟩
    go_enter Try.func55, Try.ntmps55
    go_wp2_with (go_at_call 37; (with_reducible refine KN'.out.mono ?_); rintro e9 w4 ⟨rfl, hb4, ho4, hm4, hl4, hd4⟩; have HR4 := hidC (HG.out _ hb4 ho4 hm4 hl4 hd4); clear hb4 ho4 hm4 hl4 hd4)
    refine bodyPost_ret (by simp [results, Try.results55, go_sem, *]; try rfl) rfl ?_
    exact HR4.out

end Go.Proofs.Ytnlgkkbmbijndaa
/- Package code: the writer: typed, slot. -/
namespace Go.Proofs.Ytnlgkkbmbijndaa
open Go.RowKit
set_option linter.unusedVariables false
set_option linter.unusedSimpArgs false

theorem numB_len : ∀ (k n : Nat), n < 128 ^ (k + 1) → (numB n).length ≤ k + 1
  | 0, n, h => by rw [numB_low (by simpa using h)]; simp
  | k + 1, n, h => by
    by_cases q : n < 128
    · rw [numB_low q]; simp
    · rw [numB_high q, List.length_cons]
      have := numB_len k (n / 128) (by rw [Nat.pow_succ] at h; omega)
      omega
theorem numB_nine {n : Nat} (h : n < 9223372036854775808) : (numB n).length ≤ 9 := numB_len 8 n (Nat.lt_of_lt_of_eq h (by decide))
theorem rowA (w : World) (cs : Array Value) (t : TypeId) : (w.alloc (.cells cs t)).rowIs w.heap.size t cs.size (fun j => cs[j]!) := World.rowIs_alloc w cs t (fun j => cs[j]!) (fun i hi => by simp [hi])

set_option maxRecDepth 100000 in
set_option maxHeartbeats 4000000 in
theorem wtyped_any (E WB : Nat) (l : List Nat) (v : Value) (w : World) (h : WrM E WB l v w) (t : Ty) (ht : okTy t) (hl : l.length + 20 ≤ 100000000) :
    Calls Try.prog 23 #[.pointer (some ⟨WB, 0, none⟩), .agg #[.int .i64 t.kind, .int .i64 t.par]] w fun e w' => e = .returned (.tuple #[]) ∧ Below E w w' ∧ ∃ v', WrM E WB (l ++ eTy t) v' w' ∧ WrO WB v w v' w' := by
  obtain ⟨kd, pr⟩ := t
  obtain ⟨t1, t2, t3, t4, t5⟩ := ht
  simp only at t1 t2 t3 t4 t5 ⊢
  obtain ⟨K, hK⟩ : ∃ K : Nat, kd = (K : Int) := ⟨kd.toNat, by omega⟩
  obtain ⟨P, hP⟩ : ∃ P : Nat, pr = (P : Int) := ⟨pr.toNat, by omega⟩
  subst hK hP
  have hET : eTy ⟨(K : Int), (P : Int)⟩ = [K] ++ (if K = 3 then numB P else []) := by
    unfold eTy eFld
    simp only [Int.toNat_natCast]
    by_cases q : K = 3
    · simp [q]
    · simp [q]
  have HET := hidC hET
  have hp9 := numB_nine (n := P) (by omega)
  obtain ⟨V, hV⟩ : ∃ V, w.alloc (.cells #[.int .i64 (K : Int), .int .i64 (P : Int)] 60) = V := ⟨_, rfl⟩
  have hb0 : Below w.heap.size w V := by rw [← hV]; exact bel_alloc _ _
  have hs0 : V.heap.size = w.heap.size + 1 := by rw [← hV]; simp
  obtain ⟨X, hX⟩ : ∃ X, w.heap.size = X := ⟨_, rfl⟩
  have x0 : V.cell? ⟨X, 0, none⟩ = some (.int .i64 (K : Int)) := by rw [← hV, ← hX]; simp [go_sem]
  have x1 : V.cell? ⟨X, 1, none⟩ = some (.int .i64 (P : Int)) := by rw [← hV, ← hX]; simp [go_sem]
  have h0 := h.below hb0
  have HXN : Hid (X < V.heap.size ∧ X ≠ WB ∧ v.ownBlock ≠ some X) := ⟨by omega, by have := h.b.lt; omega, fun e => by have := (h.o.lt _ e).2; omega⟩
  have KS := hidC (wsmall_any E WB l v V h0 (by omega) K (by omega))
  have KN := hidC (fun (m : List Nat) (v : Value) (u : World) (a : WrM E WB m v u) (b : m.length + (numB P).length ≤ 100000000) => wnumber_any E WB m v u a P (by omega) b)
  have HBE : Hid (Below E w V) := hb0.mono h.le
  have HOV : Hid (∀ v' w', WrO WB v V v' w' → WrO WB v w v' w') := fun v' w' q => WrO.below h hb0 q
  have hll : (l ++ [K]).length + (numB P).length ≤ 100000000 := by rw [List.length_append, List.length_singleton]; omega
  clear h h0 hb0 hs0 hET
  go_enter Try.func23, Try.ntmps23
  go_upto_region 1 with fail
  try rw [hV]
  try rw [hX]
  clear hV hX
  go_upto_region 2 with (go_at_call 47; (with_reducible refine KS.out.mono ?_); rintro e9 w4 ⟨rfl, hb4, v4, hm4, ho4⟩; have HB4 := hidC hb4; have HM4 := hidC hm4; have HO4 := hidC ho4; clear hb4 hm4 ho4)
  have hX4 : w4.heap[X]? = V.heap[X]? := (HO4.out.2 X HXN.out.1 HXN.out.2.1 HXN.out.2.2).1
  have y0 := (World.cell?_of_block hX4 (a := ⟨X, 0, none⟩)).trans x0
  have y1 := (World.cell?_of_block hX4 (a := ⟨X, 1, none⟩)).trans x1
  by_cases q : K = 3
  · have q3 : ((K : Int) == 3) = true := by rw [q]; rfl
    have HT : Hid (l ++ eTy ⟨(K : Int), (P : Int)⟩ = (l ++ [K]) ++ numB P) := by
      show l ++ eTy ⟨(K : Int), (P : Int)⟩ = _
      rw [HET.out, if_pos q, List.append_assoc]
    have KN4 := hidC (KN.out _ _ _ HM4.out hll)
    clear hX4 q HET
    go_wp2_with (go_at_call 46; (with_reducible refine KN4.out.mono ?_); rintro e9 w5 ⟨rfl, hb5, v5, hm5, ho5⟩; have HB5 := hidC hb5; have HM5 := hidC hm5; have HO5 := hidC ho5; clear hb5 hm5 ho5)
    first | go_end0 | refine bodyPost_ret (results_none rfl _ _ _) rfl ?_
    refine ⟨rfl, (HBE.out.trans HB4.out).trans HB5.out, v5, ?_, HOV.out _ _ (HO4.out.trans HO5.out)⟩
    rw [HT.out]
    exact HM5.out
  · have q3 : ((K : Int) == 3) = false := by simp; omega
    have HT : Hid (l ++ eTy ⟨(K : Int), (P : Int)⟩ = l ++ [K]) := by
      show l ++ eTy ⟨(K : Int), (P : Int)⟩ = _
      rw [HET.out, if_neg q, List.append_nil]
    clear hX4 q HET
    go_wp2
    first | go_end0 | refine bodyPost_ret (results_none rfl _ _ _) rfl ?_
    refine ⟨rfl, HBE.out.trans HB4.out, v4, ?_, HOV.out _ _ HO4.out⟩
    rw [HT.out]
    exact HM4.out

end Go.Proofs.Ytnlgkkbmbijndaa
/- Package code: the writer: slot. -/
namespace Go.Proofs.Ytnlgkkbmbijndaa
open Go.RowKit
set_option linter.unusedVariables false
set_option linter.unusedSimpArgs false

theorem eTy_len {t : Ty} (h : okTy t) : (eTy t).length ≤ 10 := by
  obtain ⟨h1, h2, h3, h4, -⟩ := h
  have := numB_nine (n := t.par.toNat) (by omega)
  unfold eTy eFld
  rw [List.length_append]
  split
  · simp; omega
  · simp

set_option maxRecDepth 100000 in
set_option maxHeartbeats 4000000 in
theorem wslot_any (E WB : Nat) (l : List Nat) (v : Value) (w : World) (h : WrM E WB l v w) (s : Sl) (hs : okSl s) (hl : l.length + 40 ≤ 100000000) :
    Calls Try.prog 25 #[.pointer (some ⟨WB, 0, none⟩), .agg #[.int .i64 s.ty.kind, .int .i64 s.ty.par, .bool s.keep, .int .u32 s.bits, .int .i64 s.int_]] w fun e w' => e = .returned (.tuple #[]) ∧ Below E w w' ∧ ∃ v', WrM E WB (l ++ eSl s) v' w' ∧ WrO WB v w v' w' := by
  obtain ⟨⟨kd, pr⟩, kp, bt, it⟩ := s
  obtain ⟨ht, s2, s3, s4, s5, s6, s7⟩ := hs
  simp only at ht s2 s3 s4 s5 s6 s7 ⊢
  have hty := eTy_len ht
  have KT := hidC (fun (m : List Nat) (v : Value) (u : World) (a : WrM E WB m v u) (b : m.length + 20 ≤ 100000000) => wtyped_any E WB m v u a ⟨kd, pr⟩ ht b)
  simp only at KT
  obtain ⟨B, hB⟩ : ∃ B : Nat, bt = (B : Int) := ⟨bt.toNat, by omega⟩
  obtain ⟨I, hI⟩ : ∃ I : Nat, it = (I : Int) := ⟨it.toNat, by omega⟩
  subst hB hI
  have hi9 := numB_nine (n := I) (by omega)
  have HET : Hid (eSl ⟨⟨kd, pr⟩, kp, (B : Int), (I : Int)⟩ = [if kp = true then 1 else 0] ++ (eTy ⟨kd, pr⟩ ++ (if kd = 2 then numB I else lowB 4 B))) := by
    show eSl ⟨⟨kd, pr⟩, kp, (B : Int), (I : Int)⟩ = _
    unfold eSl
    simp only [Int.toNat_natCast]
  obtain ⟨Z, hZ⟩ : ∃ z, (if kp = true then 1 else 0 : Nat) = z := ⟨_, rfl⟩
  have hZ1 : Z ≤ 1 := by rw [← hZ]; split <;> omega
  rw [hZ] at HET
  obtain ⟨T, hT⟩ : ∃ t, eTy ⟨kd, pr⟩ = t := ⟨_, rfl⟩
  rw [hT] at HET KT hty
  obtain ⟨V, hV⟩ : ∃ V, w.alloc (.cells #[.int .i64 kd, .int .i64 pr, .bool kp, .int .u32 (B : Int), .int .i64 (I : Int)] 64) = V := ⟨_, rfl⟩
  have hb0 : Below w.heap.size w V := by rw [← hV]; exact bel_alloc _ _
  have hs0 : V.heap.size = w.heap.size + 1 := by rw [← hV]; simp
  obtain ⟨X, hX⟩ : ∃ X, w.heap.size = X := ⟨_, rfl⟩
  have x0 : V.cell? ⟨X, 0, none⟩ = some (.int .i64 kd) := by rw [← hV, ← hX]; simp [go_sem]
  have x1 : V.cell? ⟨X, 1, none⟩ = some (.int .i64 pr) := by rw [← hV, ← hX]; simp [go_sem]
  have x2 : V.cell? ⟨X, 2, none⟩ = some (.bool kp) := by rw [← hV, ← hX]; simp [go_sem]
  have x3 : V.cell? ⟨X, 3, none⟩ = some (.int .u32 (B : Int)) := by rw [← hV, ← hX]; simp [go_sem]
  have x4 : V.cell? ⟨X, 4, none⟩ = some (.int .i64 (I : Int)) := by rw [← hV, ← hX]; simp [go_sem]
  have HXC : Hid (∀ u : World, u.heap[X]? = V.heap[X]? → u.cell? ⟨X, 0, none⟩ = some (.int .i64 kd) ∧ u.cell? ⟨X, 1, none⟩ = some (.int .i64 pr) ∧ u.cell? ⟨X, 3, none⟩ = some (.int .u32 (B : Int)) ∧ u.cell? ⟨X, 4, none⟩ = some (.int .i64 (I : Int))) := fun u hu => ⟨(World.cell?_of_block hu (a := ⟨X, 0, none⟩)).trans x0, (World.cell?_of_block hu (a := ⟨X, 1, none⟩)).trans x1, (World.cell?_of_block hu (a := ⟨X, 3, none⟩)).trans x3, (World.cell?_of_block hu (a := ⟨X, 4, none⟩)).trans x4⟩
  have h0 := h.below hb0
  have HXN : Hid (X < V.heap.size ∧ X ≠ WB ∧ v.ownBlock ≠ some X) := ⟨by omega, by have := h.b.lt; omega, fun e => by have := (h.o.lt _ e).2; omega⟩
  have KS := hidC (wsmall_any E WB l v V h0 (by omega) Z (by omega))
  have KN := hidC (fun (m : List Nat) (v : Value) (u : World) (a : WrM E WB m v u) (b : m.length + (numB I).length ≤ 100000000) => wnumber_any E WB m v u a I (by omega) b)
  have KF : Hid (∀ (m : List Nat) (v : Value) (u : World), WrM E WB m v u → m.length + 4 ≤ 100000000 → Calls Try.prog 14 #[.pointer (some ⟨WB, 0, none⟩), .int .u64 (B : Int), .int .i64 4] u fun e w' => e = .returned (.tuple #[]) ∧ Below E u w' ∧ ∃ v', WrM E WB (m ++ lowB 4 B) v' w' ∧ WrO WB v u v' w') := fun m v u a b => wfixed_any E WB m v u a B (by omega) 4 (by omega) b
  have HBE : Hid (Below E w V) := hb0.mono h.le
  have HOV : Hid (∀ v' w', WrO WB v V v' w' → WrO WB v w v' w') := fun v' w' q => WrO.below h hb0 q
  have hl1 : (l ++ [Z]).length + 20 ≤ 100000000 := by rw [List.length_append, List.length_singleton]; omega
  have hl2 : ((l ++ [Z]) ++ T).length + (numB I).length ≤ 100000000 := by rw [List.length_append, List.length_append, List.length_singleton]; omega
  have hl3 : ((l ++ [Z]) ++ T).length + 4 ≤ 100000000 := by rw [List.length_append, List.length_append, List.length_singleton]; omega
  have wB : IntKind.u64.wrap (B : Int) = (B : Int) := by unfold IntKind.wrap; simp [IntKind.signed, IntKind.bits]; omega
  clear h h0 hb0 hs0 hT ht s2 s3 s4 s5 s6 s7 hi9 hty
  go_enter Try.func25, Try.ntmps25
  go_upto_region 1 with fail
  try rw [hV]
  try rw [hX]
  clear hV hX
  go_upto_if 6 with fail
  go_cut [4] (fun kv wx => kv = .int .i64 (Z : Int) ∧ wx = V)
  case first =>
    cases kp with
    | true =>
      obtain rfl : 1 = Z := hZ
      go_wp2
      go_meet
      exact ⟨rfl, rfl⟩
    | false =>
      obtain rfl : 0 = Z := hZ
      go_wp2
      go_meet
      exact ⟨rfl, rfl⟩
  case rest =>
    obtain ⟨rfl, rfl⟩ := hcut
    clear hZ
    go_upto_region 5 with (go_at_call 47; (with_reducible refine KS.out.mono ?_); rintro e9 w4 ⟨rfl, hb4, v4, hm4, ho4⟩; have HB4 := hidC hb4; have HM4 := hidC hm4; have HO4 := hidC ho4; clear hb4 hm4 ho4)
    obtain ⟨hX4, hv4⟩ := HO4.out.2 X HXN.out.1 HXN.out.2.1 HXN.out.2.2
    obtain ⟨y0, y1, y3, y4⟩ := HXC.out w4 hX4
    have KT4 := hidC (KT.out _ _ _ HM4.out hl1)
    clear x0 x1 x2 x3 x4
    go_upto_region 6 with (go_at_call 23; (with_reducible refine KT4.out.mono ?_); rintro e9 w5 ⟨rfl, hb5, v5, hm5, ho5⟩; have HB5 := hidC hb5; have HM5 := hidC hm5; have HO5 := hidC ho5; clear hb5 hm5 ho5)
    obtain ⟨hX5, hv5⟩ := HO5.out.2 X (Nat.lt_of_lt_of_le HXN.out.1 HO4.out.1) HXN.out.2.1 hv4
    clear y0 y1 y3 y4
    obtain ⟨y0, y1, y3, y4⟩ := HXC.out w5 (hX5.trans hX4)
    by_cases q : kd = 2
    · have q3 : (kd == 2) = true := by simpa using q
      have HT : Hid (l ++ eSl ⟨⟨kd, pr⟩, kp, (B : Int), (I : Int)⟩ = ((l ++ [Z]) ++ T) ++ numB I) := by
        show l ++ eSl _ = _
        rw [HET.out, if_pos q]
        simp
      have KN5 := hidC (KN.out _ _ _ HM5.out hl2)
      clear hX4 hX5 hv4 hv5 q HET
      go_wp2_with (go_at_call 46; (with_reducible refine KN5.out.mono ?_); rintro e9 w6 ⟨rfl, hb6, v6, hm6, ho6⟩; have HB6 := hidC hb6; have HM6 := hidC hm6; have HO6 := hidC ho6; clear hb6 hm6 ho6)
      first | go_end0 | refine bodyPost_ret (results_none rfl _ _ _) rfl ?_
      refine ⟨rfl, ((HBE.out.trans HB4.out).trans HB5.out).trans HB6.out, v6, ?_, HOV.out _ _ ((HO4.out.trans HO5.out).trans HO6.out)⟩
      rw [HT.out]
      exact HM6.out
    · have q3 : (kd == 2) = false := by simpa using q
      have HT : Hid (l ++ eSl ⟨⟨kd, pr⟩, kp, (B : Int), (I : Int)⟩ = ((l ++ [Z]) ++ T) ++ lowB 4 B) := by
        show l ++ eSl _ = _
        rw [HET.out, if_neg q]
        simp
      have KF5 := hidC (KF.out _ _ _ HM5.out hl3)
      clear hX4 hX5 hv4 hv5 q HET
      go_wp2_with (go_at_call 14; (with_reducible refine KF5.out.mono ?_); rintro e9 w6 ⟨rfl, hb6, v6, hm6, ho6⟩; have HB6 := hidC hb6; have HM6 := hidC hm6; have HO6 := hidC ho6; clear hb6 hm6 ho6)
      first | go_end0 | refine bodyPost_ret (results_none rfl _ _ _) rfl ?_
      refine ⟨rfl, ((HBE.out.trans HB4.out).trans HB5.out).trans HB6.out, v6, ?_, HOV.out _ _ ((HO4.out.trans HO5.out).trans HO6.out)⟩
      rw [HT.out]
      exact HM6.out

end Go.Proofs.Ytnlgkkbmbijndaa
/- Package code: the writer: lists of types and of slots. -/
namespace Go.Proofs.Ytnlgkkbmbijndaa
open Go.RowKit
set_option linter.unusedVariables false
set_option linter.unusedSimpArgs false

theorem eSl_len {s : Sl} (h : okSl s) : (eSl s).length ≤ 20 := by
  have h1 := eTy_len h.1
  obtain ⟨-, h3, h4, -⟩ := h
  have h2 := numB_nine (n := s.int_.toNat) (by omega)
  have h5 : (if s.ty.kind = 2 then numB s.int_.toNat else lowB 4 s.bits.toNat).length ≤ 9 := by
    split
    · exact h2
    · rw [lowB_len]; omega
  unfold eSl
  rw [List.length_append, List.length_append, List.length_singleton]
  omega
theorem flat_len_le {α : Type} {e : α → List Nat} {m : Nat} : ∀ (l : List α), (∀ x ∈ l, (e x).length ≤ m) → (l.flatMap e).length ≤ m * l.length
  | [], _ => by simp
  | a :: l, h => by
    rw [List.flatMap_cons, List.length_append, List.length_cons, Nat.mul_succ]
    have h1 := h a (by simp)
    have h2 := flat_len_le l (fun x hx => h x (List.mem_cons_of_mem _ hx))
    omega
theorem flat_more {α : Type} (e : α → List Nat) {l : List α} {k : Nat} (h : k < l.length) : (l.take (k + 1)).flatMap e = (l.take k).flatMap e ++ e l[k] := by
  rw [List.take_succ_eq_append_getElem h, List.flatMap_append]
  simp

set_option maxRecDepth 100000 in
set_option maxHeartbeats 4000000 in
theorem wlistT_any (E WB : Nat) (l : List Nat) (v : Value) (w : World) (h : WrM E WB l v w) (rs : List Ty) (hrs : ∀ x ∈ rs, okTy x) (hn : rs.length ≤ 16384) (p : Option Addr) (q : Nat) (hr : ∀ u, Below E w u → RowG 2 tyC u (.slice p rs.length q) rs) (hl : l.length + 1000000 ≤ 100000000) :
    Calls Try.prog 22 #[.pointer (some ⟨WB, 0, none⟩), .slice p rs.length q, .func (.func 23) #[.pointer (some ⟨WB, 0, none⟩)] #[]] w fun e w' => e = .returned (.tuple #[]) ∧ Below E w w' ∧ ∃ v', WrM E WB (l ++ eLst eTy rs) v' w' ∧ WrO WB v w v' w' := by
  obtain ⟨N, hN⟩ : ∃ N, rs.length = N := ⟨_, rfl⟩
  have hnl := numB_nine (n := N) (by omega)
  have HLN : Hid (∀ k, ((l ++ numB N) ++ (rs.take k).flatMap eTy).length + 100 ≤ 100000000) := fun k => by
    have h1 := flat_len_le (e := eTy) (m := 10) (rs.take k) (fun x hx => eTy_len (hrs x (List.mem_of_mem_take hx)))
    rw [List.length_take] at h1
    rw [List.length_append, List.length_append]
    have h2 : min k rs.length ≤ 16384 := by omega
    omega
  have HFM := hidC (fun (k : Nat) (hk : k < rs.length) => flat_more eTy hk)
  have HEL : Hid (eLst eTy rs = numB N ++ rs.flatMap eTy) := by show eLst eTy rs = _; unfold eLst; rw [hN]
  have KW := hidC (fun (m : List Nat) (v : Value) (u : World) (a : WrM E WB m v u) (x : Ty) (hx : okTy x) (b : m.length + 100 ≤ 100000000) => wtyped_any E WB m v u a x hx (by omega))
  have KN := hidC (wnumber_any E WB l v w h N (by omega) (by omega))
  have HRW : Hid (∀ u, Below E w u → RowG 2 tyC u (.slice p N q) rs) := fun u hu => by rw [← hN]; exact hr u hu
  have HOK := hidC hrs
  have HN := hidC hN
  rw [hN] at hn ⊢
  clear hr hrs h hN
  go_enter Try.func22, Try.ntmps22
  go_upto_block 0 with (go_at_call 46; (with_reducible refine KN.out.mono ?_); rintro e9 w4 ⟨rfl, hb4, v4, hm4, ho4⟩; have HJ0 : Hid (Below E w w4 ∧ ∃ v', WrM E WB ((l ++ numB N) ++ (rs.take 0).flatMap eTy) v' w4 ∧ WrO WB v w v' w4) := ⟨hb4, v4, (by rw [List.take_zero, List.flatMap_nil, List.append_nil]; exact hm4), ho4⟩; clear hb4 hm4 ho4)
  go_wp2_with fail
  go_loopw [14] (fun iv wx => ∃ k : Nat, k ≤ N ∧ iv = .int .i64 (k : Int) ∧ Hid (Below E w wx ∧ ∃ v', WrM E WB ((l ++ numB N) ++ (rs.take k).flatMap eTy) v' wx ∧ WrO WB v w v' wx)) (fun iv _ => N - (intOf iv).toNat)
  case atStart => exact ⟨0, Nat.zero_le _, rfl, HJ0.out⟩
  case round =>
    clear HJ0
    obtain ⟨k, hk, rfl, HJ⟩ := hrel
    by_cases hlt : k < N
    · have hkl : k < rs.length := by have := HN.out; omega
      obtain ⟨hb, v2, hm, ho⟩ := HJ.out
      obtain ⟨rb, ro, rfl, hcl⟩ := (HRW.out wr hb).at hkl
      have hx := HOK.out rs[k] (List.getElem_mem hkl)
      have hfm := HFM.out k hkl
      obtain ⟨x, hxe⟩ : ∃ x, rs[k] = x := ⟨_, rfl⟩
      rw [hxe] at hcl hx hfm
      obtain ⟨V, hV⟩ : ∃ V, wr.alloc (.cells #[.int .i64 (x.kind), .int .i64 (x.par)] 60) = V := ⟨_, rfl⟩
      have hbV : Below wr.heap.size wr V := by rw [← hV]; exact bel_alloc _ _
      have y0 := hcl.at 0 (v := .int .i64 (x.kind)) rfl
      rw [Nat.add_zero] at y0
      have y1 := hcl.at 1 (v := .int .i64 (x.par)) rfl
      have z0 : V.cell? ⟨wr.heap.size, 0, none⟩ = some (.int .i64 (x.kind)) := by rw [← hV]; simp [go_sem]
      have z1 : V.cell? ⟨wr.heap.size, 1, none⟩ = some (.int .i64 (x.par)) := by rw [← hV]; simp [go_sem]
      have llb : rb < wr.heap.size := mcell_lt y0
      have n9 : ¬ rb = wr.heap.size := by omega
      have KX := hidC (KW.out _ v2 V (hm.below hbV) x hx (HLN.out k))
      have HFM' := hidC hfm
      have HBV : Hid (Below E w V) := hb.trans (hbV.mono hm.le)
      have HOV : Hid (∀ v' w', WrO WB v2 V v' w' → WrO WB v w v' w') := fun v' w' z => ho.trans (WrO.below hm hbV z)
      have i1 : (0 : Int) ≤ (k : Int) := by omega
      have i2 : (k : Int) < (N : Int) := by omega
      have wi : IntKind.i64.wrap ((k : Int) + 1) = ((k + 1 : Nat) : Int) := by rw [IntKind.wrap_i64]; omega
      clear hb hm ho hcl hx hfm hxe hbV llb HJ
      go_wp2_with (go_at_call 23; (with_reducible refine KX.out.mono ?_); rintro e9 w5 ⟨rfl, hb5, v5, hm5, ho5⟩; have HQ : Hid (Below E w w5 ∧ ∃ v', WrM E WB ((l ++ numB N) ++ (rs.take (k + 1)).flatMap eTy) v' w5 ∧ WrO WB v w v' w5) := ⟨HBV.out.trans hb5, v5, (by rw [HFM'.out, ← List.append_assoc]; exact hm5), HOV.out _ _ ho5⟩; clear hb5 hm5 ho5)
      go_roundw
      case rel => exact ⟨k + 1, by omega, by go_num, HQ.out⟩
      case measure => simp [intOf]; omega
    · have e1 : ¬ (k : Int) < (N : Int) := by omega
      have hall : rs.take k = rs := List.take_of_length_le (by have := HN.out; omega)
      have HQ : Hid (Below E w wr ∧ ∃ v', WrM E WB (l ++ eLst eTy rs) v' wr ∧ WrO WB v w v' wr) := by
        have h9 := HJ.out
        rw [hall, List.append_assoc, ← HEL.out] at h9
        exact h9
      clear hlt hall HJ
      go_wp2
      first | go_end0 | refine bodyPost_ret (results_none rfl _ _ _) rfl ?_ | (simp only [Exit.inBlock, Exit.then]; refine bodyPost_ret (results_none rfl _ _ _) rfl ?_)
      exact ⟨rfl, HQ.out.1, HQ.out.2⟩

set_option maxRecDepth 100000 in
set_option maxHeartbeats 4000000 in
theorem wlistS_any (E WB : Nat) (l : List Nat) (v : Value) (w : World) (h : WrM E WB l v w) (rs : List Sl) (hrs : ∀ x ∈ rs, okSl x) (hn : rs.length ≤ 4096) (p : Option Addr) (q : Nat) (hr : ∀ u, Below E w u → RowG 5 slC u (.slice p rs.length q) rs) (hl : l.length + 1000000 ≤ 100000000) :
    Calls Try.prog 24 #[.pointer (some ⟨WB, 0, none⟩), .slice p rs.length q, .func (.func 25) #[.pointer (some ⟨WB, 0, none⟩)] #[]] w fun e w' => e = .returned (.tuple #[]) ∧ Below E w w' ∧ ∃ v', WrM E WB (l ++ eLst eSl rs) v' w' ∧ WrO WB v w v' w' := by
  obtain ⟨N, hN⟩ : ∃ N, rs.length = N := ⟨_, rfl⟩
  have hnl := numB_nine (n := N) (by omega)
  have HLN : Hid (∀ k, ((l ++ numB N) ++ (rs.take k).flatMap eSl).length + 100 ≤ 100000000) := fun k => by
    have h1 := flat_len_le (e := eSl) (m := 20) (rs.take k) (fun x hx => eSl_len (hrs x (List.mem_of_mem_take hx)))
    rw [List.length_take] at h1
    rw [List.length_append, List.length_append]
    have h2 : min k rs.length ≤ 4096 := by omega
    omega
  have HFM := hidC (fun (k : Nat) (hk : k < rs.length) => flat_more eSl hk)
  have HEL : Hid (eLst eSl rs = numB N ++ rs.flatMap eSl) := by show eLst eSl rs = _; unfold eLst; rw [hN]
  have KW := hidC (fun (m : List Nat) (v : Value) (u : World) (a : WrM E WB m v u) (x : Sl) (hx : okSl x) (b : m.length + 100 ≤ 100000000) => wslot_any E WB m v u a x hx (by omega))
  have KN := hidC (wnumber_any E WB l v w h N (by omega) (by omega))
  have HRW : Hid (∀ u, Below E w u → RowG 5 slC u (.slice p N q) rs) := fun u hu => by rw [← hN]; exact hr u hu
  have HOK := hidC hrs
  have HN := hidC hN
  rw [hN] at hn ⊢
  clear hr hrs h hN
  go_enter Try.func24, Try.ntmps24
  go_upto_block 0 with (go_at_call 46; (with_reducible refine KN.out.mono ?_); rintro e9 w4 ⟨rfl, hb4, v4, hm4, ho4⟩; have HJ0 : Hid (Below E w w4 ∧ ∃ v', WrM E WB ((l ++ numB N) ++ (rs.take 0).flatMap eSl) v' w4 ∧ WrO WB v w v' w4) := ⟨hb4, v4, (by rw [List.take_zero, List.flatMap_nil, List.append_nil]; exact hm4), ho4⟩; clear hb4 hm4 ho4)
  go_wp2_with fail
  go_loopw [14] (fun iv wx => ∃ k : Nat, k ≤ N ∧ iv = .int .i64 (k : Int) ∧ Hid (Below E w wx ∧ ∃ v', WrM E WB ((l ++ numB N) ++ (rs.take k).flatMap eSl) v' wx ∧ WrO WB v w v' wx)) (fun iv _ => N - (intOf iv).toNat)
  case atStart => exact ⟨0, Nat.zero_le _, rfl, HJ0.out⟩
  case round =>
    clear HJ0
    obtain ⟨k, hk, rfl, HJ⟩ := hrel
    by_cases hlt : k < N
    · have hkl : k < rs.length := by have := HN.out; omega
      obtain ⟨hb, v2, hm, ho⟩ := HJ.out
      obtain ⟨rb, ro, rfl, hcl⟩ := (HRW.out wr hb).at hkl
      have hx := HOK.out rs[k] (List.getElem_mem hkl)
      have hfm := HFM.out k hkl
      obtain ⟨x, hxe⟩ : ∃ x, rs[k] = x := ⟨_, rfl⟩
      rw [hxe] at hcl hx hfm
      obtain ⟨V, hV⟩ : ∃ V, wr.alloc (.cells #[.int .i64 (x.ty.kind), .int .i64 (x.ty.par), .bool (x.keep), .int .u32 (x.bits), .int .i64 (x.int_)] 64) = V := ⟨_, rfl⟩
      have hbV : Below wr.heap.size wr V := by rw [← hV]; exact bel_alloc _ _
      have y0 := hcl.at 0 (v := .int .i64 (x.ty.kind)) rfl
      rw [Nat.add_zero] at y0
      have y1 := hcl.at 1 (v := .int .i64 (x.ty.par)) rfl
      have y2 := hcl.at 2 (v := .bool (x.keep)) rfl
      have y3 := hcl.at 3 (v := .int .u32 (x.bits)) rfl
      have y4 := hcl.at 4 (v := .int .i64 (x.int_)) rfl
      have z0 : V.cell? ⟨wr.heap.size, 0, none⟩ = some (.int .i64 (x.ty.kind)) := by rw [← hV]; simp [go_sem]
      have z1 : V.cell? ⟨wr.heap.size, 1, none⟩ = some (.int .i64 (x.ty.par)) := by rw [← hV]; simp [go_sem]
      have z2 : V.cell? ⟨wr.heap.size, 2, none⟩ = some (.bool (x.keep)) := by rw [← hV]; simp [go_sem]
      have z3 : V.cell? ⟨wr.heap.size, 3, none⟩ = some (.int .u32 (x.bits)) := by rw [← hV]; simp [go_sem]
      have z4 : V.cell? ⟨wr.heap.size, 4, none⟩ = some (.int .i64 (x.int_)) := by rw [← hV]; simp [go_sem]
      have llb : rb < wr.heap.size := mcell_lt y0
      have n9 : ¬ rb = wr.heap.size := by omega
      have KX := hidC (KW.out _ v2 V (hm.below hbV) x hx (HLN.out k))
      have HFM' := hidC hfm
      have HBV : Hid (Below E w V) := hb.trans (hbV.mono hm.le)
      have HOV : Hid (∀ v' w', WrO WB v2 V v' w' → WrO WB v w v' w') := fun v' w' z => ho.trans (WrO.below hm hbV z)
      have i1 : (0 : Int) ≤ (k : Int) := by omega
      have i2 : (k : Int) < (N : Int) := by omega
      have wi : IntKind.i64.wrap ((k : Int) + 1) = ((k + 1 : Nat) : Int) := by rw [IntKind.wrap_i64]; omega
      clear hb hm ho hcl hx hfm hxe hbV llb HJ
      go_wp2_with (go_at_call 25; (with_reducible refine KX.out.mono ?_); rintro e9 w5 ⟨rfl, hb5, v5, hm5, ho5⟩; have HQ : Hid (Below E w w5 ∧ ∃ v', WrM E WB ((l ++ numB N) ++ (rs.take (k + 1)).flatMap eSl) v' w5 ∧ WrO WB v w v' w5) := ⟨HBV.out.trans hb5, v5, (by rw [HFM'.out, ← List.append_assoc]; exact hm5), HOV.out _ _ ho5⟩; clear hb5 hm5 ho5)
      go_roundw
      case rel => exact ⟨k + 1, by omega, by go_num, HQ.out⟩
      case measure => simp [intOf]; omega
    · have e1 : ¬ (k : Int) < (N : Int) := by omega
      have hall : rs.take k = rs := List.take_of_length_le (by have := HN.out; omega)
      have HQ : Hid (Below E w wr ∧ ∃ v', WrM E WB (l ++ eLst eSl rs) v' wr ∧ WrO WB v w v' wr) := by
        have h9 := HJ.out
        rw [hall, List.append_assoc, ← HEL.out] at h9
        exact h9
      clear hlt hall HJ
      go_wp2
      first | go_end0 | refine bodyPost_ret (results_none rfl _ _ _) rfl ?_ | (simp only [Exit.inBlock, Exit.then]; refine bodyPost_ret (results_none rfl _ _ _) rfl ?_)
      exact ⟨rfl, HQ.out.1, HQ.out.2⟩

end Go.Proofs.Ytnlgkkbmbijndaa
