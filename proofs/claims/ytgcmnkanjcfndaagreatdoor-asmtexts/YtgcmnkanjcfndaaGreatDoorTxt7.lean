import Derived.Test.YtgcmnkanjcfndaaGreatDoorTxt6
import Derived.Test.YtgcmnkanjcfndaaGreatDoorTxt1
import Derived.Maps.OwnSet
namespace Go.Proofs.YtgcmnkanjcfndaaGreatDoor
open Go.RowKit
set_option linter.unusedVariables false
set_option linter.unusedSimpArgs false
set_option maxRecDepth 100000 in
theorem idx4 (c : Int) (h0 : 0 ≤ c) (h1 : c ≤ 255) : (0 ≤ Lib.indexByte (⟨#[95, 46, 47, 45]⟩ : ByteArray).data.toList c.toNat.toUInt8) ↔ (c = 95 ∨ c = 46 ∨ c = 47 ∨ c = 45) := by
 obtain ⟨k, rfl⟩ : ∃ k : Nat, c = k := ⟨c.toNat, by omega⟩
 have hk : k < 256 := by omega
 have key : ∀ k : Fin 256, (0 ≤ Lib.indexByte [95, 46, 47, 45] k.val.toUInt8) ↔ ((k.val : Int) = 95 ∨ (k.val : Int) = 46 ∨ (k.val : Int) = 47 ∨ (k.val : Int) = 45) := by decide +kernel
 exact key ⟨k, hk⟩
set_option maxRecDepth 100000 in
set_option maxHeartbeats 2000000 in
theorem inName_any (c : Int) (h0 : 0 ≤ c) (h1 : c ≤ 255) (w : World) :
  Calls Tryz.prog 151 #[.int .u8 c] w fun e w' => e = .returned (.bool (pIn c)) ∧ w' = w := by
 have hX := idx4 c h0 h1
 have K := fun w => sh_strings_IndexByte ⟨#[95, 46, 47, 45]⟩ c w
 obtain ⟨x, hx⟩ : ∃ x, Lib.indexByte (⟨#[95, 46, 47, 45]⟩ : ByteArray).data.toList c.toNat.toUInt8 = x := ⟨_, rfl⟩
 rw [hx] at hX
 simp only [hx] at K
 have HK : Hid (∀ w, Calls Tryz.prog 163 #[.string ⟨#[95, 46, 47, 45]⟩, .int .u8 c] w fun e w' => e = .returned (.int .i64 x) ∧ w' = w) := K
 clear K hx
 have HP : Hid (∀ b : Bool, (b = true ↔ (97 ≤ c ∧ c ≤ 122 ∨ 65 ≤ c ∧ c ≤ 90 ∨ 48 ≤ c ∧ c ≤ 57 ∨ 0 ≤ x)) → b = pIn c) := fun b hb => by
  rw [Bool.eq_iff_iff, hb]
  unfold pIn
  simp only [Bool.or_eq_true, Bool.and_eq_true, decide_eq_true_eq, beq_iff_eq]
  omega
 have hcl : (c < 48) ∨ (48 ≤ c ∧ c ≤ 57) ∨ (57 < c ∧ c < 65) ∨ (65 ≤ c ∧ c ≤ 90) ∨ (90 < c ∧ c < 97) ∨ (97 ≤ c ∧ c ≤ 122) ∨ (122 < c) := by omega
 rcases hcl with h | h | h | h | h | h | h
 ·have a1 : ¬ (65 : Int) ≤ c := by omega
  have a2 : ¬ (97 : Int) ≤ c := by omega
  have a3 : ¬ (48 : Int) ≤ c := by omega
  by_cases hx0 : 0 ≤ x
  all_goals
   go_enter Tryz.func151, Tryz.ntmps151
   go_wp2_with (go_at_call 163; refine (HK.out _).mono ?_; rintro e w1 ⟨rfl, rfl⟩)
   go_ret
   exact ⟨ret_bool (HP.out _ (by simp; omega)), rfl⟩
 ·have a1 : ¬ (65 : Int) ≤ c := by omega
  have a2 : ¬ (97 : Int) ≤ c := by omega
  have a3 : (48 : Int) ≤ c := by omega
  have a4 : c ≤ (57 : Int) := by omega
  go_enter Tryz.func151, Tryz.ntmps151
  go_wp2_with (go_at_call 163; refine (HK.out _).mono ?_; rintro e w1 ⟨rfl, rfl⟩)
  go_ret
  exact ⟨ret_bool (HP.out _ (by simp; omega)), rfl⟩
 ·have a1 : ¬ (65 : Int) ≤ c := by omega
  have a2 : ¬ (97 : Int) ≤ c := by omega
  have a3 : (48 : Int) ≤ c := by omega
  have a4 : ¬ c ≤ (57 : Int) := by omega
  by_cases hx0 : 0 ≤ x
  all_goals
   go_enter Tryz.func151, Tryz.ntmps151
   go_wp2_with (go_at_call 163; refine (HK.out _).mono ?_; rintro e w1 ⟨rfl, rfl⟩)
   go_ret
   exact ⟨ret_bool (HP.out _ (by simp; omega)), rfl⟩
 ·have a1 : (65 : Int) ≤ c := by omega
  have a2 : ¬ (97 : Int) ≤ c := by omega
  have a3 : (48 : Int) ≤ c := by omega
  have a4 : ¬ c ≤ (57 : Int) := by omega
  have a5 : c ≤ (90 : Int) := by omega
  go_enter Tryz.func151, Tryz.ntmps151
  go_wp2_with (go_at_call 163; refine (HK.out _).mono ?_; rintro e w1 ⟨rfl, rfl⟩)
  go_ret
  exact ⟨ret_bool (HP.out _ (by simp; omega)), rfl⟩
 ·have a1 : (65 : Int) ≤ c := by omega
  have a2 : ¬ (97 : Int) ≤ c := by omega
  have a3 : (48 : Int) ≤ c := by omega
  have a4 : ¬ c ≤ (57 : Int) := by omega
  have a5 : ¬ c ≤ (90 : Int) := by omega
  by_cases hx0 : 0 ≤ x
  all_goals
   go_enter Tryz.func151, Tryz.ntmps151
   go_wp2_with (go_at_call 163; refine (HK.out _).mono ?_; rintro e w1 ⟨rfl, rfl⟩)
   go_ret
   exact ⟨ret_bool (HP.out _ (by simp; omega)), rfl⟩
 ·have a1 : (65 : Int) ≤ c := by omega
  have a2 : (97 : Int) ≤ c := by omega
  have a3 : (48 : Int) ≤ c := by omega
  have a4 : ¬ c ≤ (57 : Int) := by omega
  have a5 : ¬ c ≤ (90 : Int) := by omega
  have a6 : c ≤ (122 : Int) := by omega
  go_enter Tryz.func151, Tryz.ntmps151
  go_wp2_with (go_at_call 163; refine (HK.out _).mono ?_; rintro e w1 ⟨rfl, rfl⟩)
  go_ret
  exact ⟨ret_bool (HP.out _ (by simp; omega)), rfl⟩
 ·have a1 : (65 : Int) ≤ c := by omega
  have a2 : (97 : Int) ≤ c := by omega
  have a3 : (48 : Int) ≤ c := by omega
  have a4 : ¬ c ≤ (57 : Int) := by omega
  have a5 : ¬ c ≤ (90 : Int) := by omega
  have a6 : ¬ c ≤ (122 : Int) := by omega
  by_cases hx0 : 0 ≤ x
  all_goals
   go_enter Tryz.func151, Tryz.ntmps151
   go_wp2_with (go_at_call 163; refine (HK.out _).mono ?_; rintro e w1 ⟨rfl, rfl⟩)
   go_ret
   exact ⟨ret_bool (HP.out _ (by simp; omega)), rfl⟩
set_option maxRecDepth 100000 in
set_option maxHeartbeats 2000000 in
theorem isName_any (s : ByteArray) (hs : s.size ≤ 140737488351232) (w : World) :
  Calls Tryz.prog 129 #[.string s] w fun e w' => e = .returned (.bool (namedP s)) ∧ w' = w := by
 by_cases h0 : s.size = 0
 ·have he : s.toList.isEmpty = true := by rw [isEmpty_size]; simp [h0]
  have he2 : (s.toList == []) = true := by rw [nonempty]; simp [h0]
  have hf : namedP s = false := by unfold namedP; simp [h0]
  rw [hf]
  go_enter Tryz.func129, Tryz.ntmps129
  go_wp2
  all_goals (go_ret; exact ⟨rfl, rfl⟩)
 ·have he : s.toList.isEmpty = false := by rw [isEmpty_size]; simp [h0]
  have he2 : (s.toList == []) = false := by rw [nonempty]; simp [h0]
  by_cases h64 : s.size ≤ 64
  ·have h64' : ¬ ((64 : Int) < (s.size : Int)) := by omega
   go_enter Tryz.func129, Tryz.ntmps129
   go_wp2
   go_loopw [13] (fun iv wr => wr = w ∧ ∃ j : Nat, j ≤ s.size ∧ iv = .int .i64 j ∧ Hid (∀ i (h : i < s.size), i < j → pIn (s[i].toNat : Int) = true)) (fun iv _ => s.size - (intOf iv).toNat)
   case atStart => exact ⟨rfl, 0, Nat.zero_le _, rfl, fun i h hi => absurd hi (Nat.not_lt_zero _)⟩
   case round =>
    obtain ⟨rfl, j, hj, rfl, hp⟩ := hrel
    by_cases hlt : j < s.size
    ·have i1 : (0 : Int) ≤ (j : Int) := by omega
     have i2 : (j : Int) < (s.size : Int) := by omega
     have hc2 : (s[j].toNat : Int) ≤ 255 := by have := s[j].toNat_lt; omega
     have K := fun w => inName_any (s[j].toNat : Int) (by omega) hc2 w
     have NX : Hid (pIn (s[j].toNat : Int) = true → ∀ i (h : i < s.size), i < j + 1 → pIn (s[i].toNat : Int) = true) := fun hq i h hi => by
      by_cases e : i = j
      ·subst e; exact hq
      ·exact hp.out i h (by omega)
     have NB : Hid (pIn (s[j].toNat : Int) = false → namedP s = false) := fun h => named_bad hlt h
     obtain ⟨N, hN⟩ : ∃ N, pIn (s[j].toNat : Int) = N := ⟨_, rfl⟩
     rw [hN] at NX NB
     simp only [hN] at K
     have HK : Hid (∀ w, Calls Tryz.prog 151 #[.int .u8 (s[j].toNat : Int)] w fun e w' => e = .returned (.bool N) ∧ w' = w) := K
     clear K hN hp hc2
     cases N
     ·go_wp2_with (go_at_call 151; refine (HK.out _).mono ?_; rintro e w1 ⟨rfl, rfl⟩)
      go_ret
      exact ⟨ret_bool (NB.out (by simp)).symm, by first | rfl | trivial⟩
     ·go_wp2_with (go_at_call 151; refine (HK.out _).mono ?_; rintro e w1 ⟨rfl, rfl⟩)
      go_roundw
      case rel => exact ⟨by first | rfl | trivial, j + 1, by omega, by go_num, NX.out (by simp)⟩
      case measure => simp [intOf]; omega
    ·have : j = s.size := by omega
     subst this
     have HF : Hid (namedP s = true) := named_good h0 h64 fun i h => hp.out i h h
     clear hp
     go_wp2
     go_ret
     exact ⟨ret_bool HF.out.symm, rfl⟩
  ·have h64' : (64 : Int) < (s.size : Int) := by omega
   have hf : namedP s = false := by unfold namedP; simp [h64]
   rw [hf]
   go_enter Tryz.func129, Tryz.ntmps129
   go_wp2
   all_goals (go_ret; exact ⟨rfl, rfl⟩)
set_option maxRecDepth 100000 in
set_option maxHeartbeats 2000000 in
theorem mayNot_any (p : Par) (hs : p.name.size ≤ 140737488351232) (w : World) :
  Calls Tryz.prog 99 #[pv p] w fun e w' => e = .returned (.bool (!mayP p)) ∧ Below w.heap.size w w' := by
 rw [may_eq]
 obtain ⟨X, K, L⟩ := p
 unfold pv
 have KN := isName_any X hs
 simp only
 obtain ⟨N, hN⟩ : ∃ N, namedP X = N := ⟨_, rfl⟩
 rw [hN] at KN ⊢
 have HK : Hid (∀ w, Calls Tryz.prog 129 #[.string X] w fun e w' => e = .returned (.bool N) ∧ w' = w) := KN
 clear KN hN
 have hk : ((K == 1) = true ∧ (K == 2) = false) ∨ ((K == 1) = false ∧ (K == 2) = true) ∨ ((K == 1) = false ∧ (K == 2) = false) := by
  by_cases a : K = 1
  ·subst a; exact .inl ⟨rfl, rfl⟩
  ·by_cases b : K = 2
   ·subst b; exact .inr (.inl ⟨rfl, rfl⟩)
   ·exact .inr (.inr ⟨by simpa using a, by simpa using b⟩)
 have hL : (1 ≤ L ∧ L ≤ 4096) ∨ (¬ 1 ≤ L ∧ L ≤ 4096) ∨ (1 ≤ L ∧ ¬ L ≤ 4096) := by omega
 cases N <;> rcases hk with ⟨h1, h2⟩ | ⟨h1, h2⟩ | ⟨h1, h2⟩ <;> rcases hL with ⟨h3, h4⟩ | ⟨h3, h4⟩ | ⟨h3, h4⟩
 all_goals
  go_enter Tryz.func99, Tryz.ntmps99
  go_wp2_with (go_at_call 129; refine (HK.out _).mono ?_; rintro e w1 ⟨rfl, rfl⟩)
  go_ret
  exact ⟨ret_bool (by simp [h1, h2, h3, h4]), bel_alloc _ _⟩
set_option maxRecDepth 100000 in
set_option maxHeartbeats 1000000 in
theorem sNumbers_any (p : Par) (hs : p.name.size ≤ 140737488351232) (w : World) :
  Calls Tryz.prog 130 #[pv p] w fun e w' => e = .returned (.int .i64 (numP p)) ∧ Below w.heap.size w w' := by
 have KM := mayNot_any p hs
 have hm : mayP p = true → 1 ≤ p.len ∧ p.len ≤ 4096 := fun h => by rw [may_eq] at h; simp at h; exact h.2
 have hn : numP p = if mayP p then (if p.kind == 2 then 2 * p.len else p.len) else 0 := rfl
 rw [hn]
 clear hn
 obtain ⟨N, hN⟩ : ∃ N, mayP p = N := ⟨_, rfl⟩
 rw [hN] at KM hm ⊢
 clear hN hs
 obtain ⟨X, K, L⟩ := p
 unfold pv at KM ⊢
 simp only at hm KM ⊢
 have HK : Hid (∀ w, Calls Tryz.prog 99 #[.agg #[.string X, .int .i64 K, .int .i64 L]] w fun e w' => e = .returned (.bool (!N)) ∧ Below w.heap.size w w') := KM
 clear KM
 cases N
 ·clear hm
  go_enter Tryz.func130, Tryz.ntmps130
  go_wp2_with (go_at_call 99; refine (HK.out _).mono ?_; rintro e w1 ⟨rfl, hb1⟩)
  go_ret
  exact ⟨rfl, bel (bel_alloc _ _) hb1⟩
 ·have hL := hm rfl
  clear hm
  cases h2 : (K == 2)
  ·go_enter Tryz.func130, Tryz.ntmps130
   go_wp2_with (go_at_call 99; refine (HK.out _).mono ?_; rintro e w1 ⟨rfl, hb1⟩; have c1 : w1.cell? ⟨w.heap.size, 1, none⟩ = some (.int .i64 K) := (hb1.cell (by simp)).trans (by simp [go_sem]); have c2 : w1.cell? ⟨w.heap.size, 2, none⟩ = some (.int .i64 L) := (hb1.cell (by simp)).trans (by simp [go_sem]))
   go_ret
   exact ⟨rfl, bel (bel_alloc _ _) hb1⟩
  ·have hw : IntKind.i64.wrap (2 * L) = 2 * L := by rw [IntKind.wrap_i64]; omega
   go_enter Tryz.func130, Tryz.ntmps130
   go_wp2_with (go_at_call 99; refine (HK.out _).mono ?_; rintro e w1 ⟨rfl, hb1⟩; have c1 : w1.cell? ⟨w.heap.size, 1, none⟩ = some (.int .i64 K) := (hb1.cell (by simp)).trans (by simp [go_sem]); have c2 : w1.cell? ⟨w.heap.size, 2, none⟩ = some (.int .i64 L) := (hb1.cell (by simp)).trans (by simp [go_sem]))
   go_ret
   exact ⟨ret_int (by simp), bel (bel_alloc _ _) hb1⟩
set_option maxRecDepth 100000 in
set_option maxHeartbeats 1000000 in
theorem sTotal_any (v : Value) (l : List Par) (hl : l.length ≤ 140737488351232) (hM : ∀ p ∈ l, p.name.size ≤ 140737488351232) (w : World) (hr : Rd w v l) :
  Calls Tryz.prog 101 #[v] w fun e w' => e = .returned (.int .i64 (totP l)) ∧ Below w.heap.size w w' := by
 obtain ⟨p, c, rfl, hr⟩ := hr
 obtain ⟨n, hn⟩ : ∃ n, l.length = n := ⟨_, rfl⟩
 rw [hn] at hl ⊢
 have HN : Hid (l.length = n) := hn
 have HR : Hid (Row w p l) := hr
 have HM : Hid (∀ p ∈ l, p.name.size ≤ 140737488351232) := hM
 clear hn hr hM
 go_enter Tryz.func101, Tryz.ntmps101
 go_wp2
 go_loopw [3, 8] (fun tv iv wr => Below w.heap.size w wr ∧ ∃ j : Nat, j ≤ n ∧ iv = .int .i64 j ∧ tv = .int .i64 (totP (l.take j))) (fun _ iv _ => n - (intOf iv).toNat)
 case atStart => exact ⟨bel0 w, 0, Nat.zero_le _, rfl, rfl⟩
 case round =>
  obtain ⟨hb, j, hj, rfl, rfl⟩ := hrel
  by_cases hlt : j < n
  ·have hll : j < l.length := by rw [HN.out]; exact hlt
   obtain ⟨b, o, rfl, hx⟩ := HR.out.at hll
   obtain ⟨x0, x1, x2⟩ := hx.below hb
   have i1 : (0 : Int) ≤ (j : Int) := by omega
   have i2 : (j : Int) < (n : Int) := by omega
   have KN := sNumbers_any l[j] (HM.out _ (List.getElem_mem hll))
   unfold pv at KN
   have HK : Hid (∀ w, Calls Tryz.prog 130 #[.agg #[.string l[j].name, .int .i64 l[j].kind, .int .i64 l[j].len]] w fun e w' => e = .returned (.int .i64 (numP l[j])) ∧ Below w.heap.size w w') := KN
   have ht : totP (l.take (j + 1)) = totP (l.take j) + numP l[j] := by rw [take_succ hll, tot_snoc]
   have hb1 := tot_bounds (l.take j)
   have hb2 := num_bounds l[j]
   rw [List.length_take, HN.out, Nat.min_eq_left hj] at hb1
   obtain ⟨T, hT⟩ : ∃ T, totP (l.take j) = T := ⟨_, rfl⟩
   obtain ⟨U, hU⟩ : ∃ U, numP l[j] = U := ⟨_, rfl⟩
   rw [hT, hU] at ht
   rw [hT] at hb1 ⊢
   rw [hU] at hb2 HK
   have HT : Hid (totP (l.take (j + 1)) = T + U) := ht
   have hw1 : IntKind.i64.wrap (T + U) = T + U := by rw [IntKind.wrap_i64]; omega
   clear KN ht hT hU hx
   go_wp2_with (go_at_call 130; refine (HK.out _).mono ?_; rintro e w1 ⟨rfl, hb3⟩)
   go_roundw
   case rel => exact ⟨bel (bel hb (by go_grown)) hb3, j + 1, by omega, by go_num, by rw [HT.out]⟩
   case measure => simp [intOf]; omega
  ·have : j = n := by omega
   subst this
   have HF : Hid (totP (l.take j) = totP l) := by show _ = _; rw [List.take_of_length_le (by rw [HN.out]; exact Nat.le_refl _)]
   go_wp2
   go_ret
   exact ⟨ret_int HF.out, hb⟩
end Go.Proofs.YtgcmnkanjcfndaaGreatDoor
namespace Go.Proofs.YtgcmnkanjcfndaaGreatDoor
open Go.RowKit
set_option linter.unusedVariables false
set_option linter.unusedSimpArgs false
theorem find_lt {s : ByteArray} : ∀ {l : List Par} {k : Nat}, findP s l = some k → k < l.length ∧ ∀ h : k < l.length, l[k].name = s
 | [], k, h => by cases h
 | p :: r, k, h => by
  simp only [findP] at h
  split at h
  ·rename_i e
   cases h
   exact ⟨by simp, fun _ => e⟩
  ·cases hf : findP s r with
   | none => rw [hf] at h; cases h
   | some m =>
    rw [hf] at h
    cases h
    obtain ⟨h1, h2⟩ := find_lt hf
    exact ⟨by simp; exact h1, fun _ => by simp only [List.getElem_cons_succ]; exact h2 h1⟩
theorem find_le {s : ByteArray} : ∀ {l : List Par} {i : Nat} (h : i < l.length), l[i].name = s → ∃ k, findP s l = some k ∧ k ≤ i
 | [], i, h, _ => absurd h (Nat.not_lt_zero _)
 | p :: r, i, h, e => by
  simp only [findP]
  split
  ·exact ⟨0, rfl, Nat.zero_le _⟩
  ·rename_i hp
   cases i with
   | zero => exact absurd e hp
   | succ i =>
    obtain ⟨k, hk, hki⟩ := find_le (l := r) (i := i) (by simpa using h) (by simpa using e)
    exact ⟨k + 1, by rw [hk]; rfl, by omega⟩
theorem twice_of {l : List Par} {i : Nat} (h : i < l.length) (hk : (findP l[i].name l).getD 0 ≠ i) : twiceP l = true := by
 obtain ⟨k, hk1, hk2⟩ := find_le (l := l) h rfl
 rw [hk1] at hk
 obtain ⟨h1, h2⟩ := find_lt hk1
 have hne : k ≠ i := hk
 exact twice_iff.2 ⟨i, k, h, h1, by omega, h2 h1⟩
theorem once_of {l : List Par} (h : ∀ i (h : i < l.length), (findP l[i].name l).getD 0 = i) : twiceP l = false := by
 cases ht : twiceP l
 ·rfl
 ·obtain ⟨i, j, hi, hj, hji, e⟩ := twice_iff.1 ht
  obtain ⟨k, hk, hkj⟩ := find_le (s := l[i].name) hj e
  have := h i hi
  rw [hk] at this
  have : k = i := this
  omega
set_option maxRecDepth 100000 in
set_option maxHeartbeats 2000000 in
theorem rCheck_any (v : Value) (l : List Par) (hl : l.length ≤ 140737488351232) (hM : ∀ p ∈ l, p.name.size ≤ 140737488351232) (w : World) (hr : Rd w v l) :
  Calls Tryz.prog 30 #[v] w fun e w' => e = .returned (.int .i64 (checkP l)) ∧ Below w.heap.size w w' := by
 have KT : Hid (∀ w, Rd w v l → Calls Tryz.prog 64 #[v] w fun e w' => e = .returned (.int .i64 (totP l)) ∧ Below w.heap.size w w') := fun w h => rTotal_any v l hl hM w h
 have KF : Hid (∀ w s, Rd w v l → Calls Tryz.prog 63 #[v, .string s] w fun e w' => e = .returned (.tuple #[.int .i64 ((findP s l).getD 0 : Nat), .bool (findP s l).isSome]) ∧ w' = w) := fun w s h => rFind_any v l hl s w h
 have HRD : Hid (Rd w v l) := hr
 obtain ⟨p, c, rfl, hr⟩ := hr
 obtain ⟨n, hn⟩ : ∃ n, l.length = n := ⟨_, rfl⟩
 have HN : Hid (l.length = n) := hn
 have HR : Hid (Row w p l) := hr
 have HM : Hid (∀ p ∈ l, p.name.size ≤ 140737488351232) := hM
 have HC : Hid (checkP l = if n > 64 then 2 else if l.all mayP = false then 100 else if twiceP l then 101 else if totP l > 65536 then 102 else 0) := by
  show _ = _
  unfold checkP
  rw [hn]
 rw [hn] at hl HRD KT KF ⊢
 clear hn hr hM
 by_cases h64 : n ≤ 64
 ·have h64' : ¬ (64 : Int) < (n : Int) := by omega
  have hng : ¬ n > 64 := by omega
  have HC2 : Hid (checkP l = if l.all mayP = false then 100 else if twiceP l then 101 else if totP l > 65536 then 102 else 0) := by show _ = _; rw [HC.out, if_neg hng]
  clear HC hng
  go_enter Tryz.func30, Tryz.ntmps30
  go_wp2
  go_loopw [3] (fun iv wr => Below w.heap.size w wr ∧ ∃ j : Nat, j ≤ n ∧ iv = .int .i64 j ∧ Hid (∀ i (h : i < l.length), i < j → mayP l[i] = true)) (fun iv _ => n - (intOf iv).toNat)
  case atStart => exact ⟨bel0 w, 0, Nat.zero_le _, rfl, fun i h hi => absurd hi (Nat.not_lt_zero _)⟩
  case round =>
   obtain ⟨hb, j, hj, rfl, hp⟩ := hrel
   by_cases hlt : j < n
   ·have hll : j < l.length := by rw [HN.out]; exact hlt
    obtain ⟨b, o, rfl, hx⟩ := HR.out.at hll
    obtain ⟨x0, x1, x2⟩ := hx.below hb
    have i1 : (0 : Int) ≤ (j : Int) := by omega
    have i2 : (j : Int) < (n : Int) := by omega
    have KM := rMay_any l[j] (HM.out _ (List.getElem_mem hll))
    unfold pv at KM
    have HA : Hid (mayP l[j] = false → l.all mayP = false) := fun h => List.all_eq_false.2 ⟨l[j], List.getElem_mem hll, by rw [h]; decide⟩
    have HB : Hid (mayP l[j] = true → ∀ i (h : i < l.length), i < j + 1 → mayP l[i] = true) := fun hq i h hi => by
     by_cases e : i = j
     ·subst e; exact hq
     ·exact hp.out i h (by omega)
    obtain ⟨M, hMM⟩ : ∃ M, mayP l[j] = M := ⟨_, rfl⟩
    rw [hMM] at KM HA HB
    have HK : Hid (∀ w, Calls Tryz.prog 62 #[.agg #[.string l[j].name, .int .i64 l[j].kind, .int .i64 l[j].len]] w fun e w' => e = .returned (.bool M) ∧ Below w.heap.size w w') := KM
    clear KM hMM hx hp
    cases M
    ·have HA2 : Hid (checkP l = 100) := by show _ = _; rw [HC2.out, if_pos (HA.out rfl)]
     clear HA HB
     go_wp2_with (go_at_call 62; refine (HK.out _).mono ?_; rintro e w1 ⟨rfl, hb1⟩)
     go_ret
     exact ⟨ret_int HA2.out.symm, bel hb hb1⟩
    ·have HB2 : Hid (∀ i (h : i < l.length), i < j + 1 → mayP l[i] = true) := HB.out rfl
     clear HA HB
     go_wp2_with (go_at_call 62; refine (HK.out _).mono ?_; rintro e w1 ⟨rfl, hb1⟩)
     go_roundw
     case rel => exact ⟨bel hb hb1, j + 1, by omega, by go_num, HB2.out⟩
     case measure => simp [intOf]; omega
   ·have : j = n := by omega
    subst this
    have hall : l.all mayP = true := List.all_eq_true.2 fun q hq => by
     obtain ⟨i, hi, rfl⟩ := List.mem_iff_getElem.1 hq
     exact hp.out i hi (by rw [← HN.out]; exact hi)
    have HC3 : Hid (checkP l = if twiceP l then 101 else if totP l > 65536 then 102 else 0) := by show _ = _; rw [HC2.out, if_neg (by rw [hall]; decide)]
    clear hp hall HC2
    go_wp2
    go_loopw [4] (fun iv wr => Below w.heap.size w wr ∧ ∃ i : Nat, i ≤ j ∧ iv = .int .i64 i ∧ Hid (∀ k (h : k < l.length), k < i → (findP l[k].name l).getD 0 = k)) (fun iv _ => j - (intOf iv).toNat)
    case atStart => exact ⟨hb, 0, Nat.zero_le _, rfl, fun i h hi => absurd hi (Nat.not_lt_zero _)⟩
    case round =>
     obtain ⟨hb', i, hi, rfl, hp⟩ := hrel
     by_cases hlt' : i < j
     ·have hll : i < l.length := by rw [HN.out]; exact hlt'
      obtain ⟨b, o, rfl, hx⟩ := HR.out.at hll
      obtain ⟨x0, x1, x2⟩ := hx.below hb'
      have i1 : (0 : Int) ≤ (i : Int) := by omega
      have i2 : (i : Int) < (j : Int) := by omega
      have K1 := KF.out _ l[i].name (HRD.out.below hb')
      have hlo := find_le (l := l) hll rfl
      obtain ⟨k0, hk0, hk1⟩ := hlo
      have T1 := twice_of (l := l) hll
      rw [hk0] at K1 T1
      have HP0 : Hid ((findP l[i].name l).getD 0 = k0) := by show _ = _; rw [hk0]; rfl
      simp only [Option.getD_some, Option.isSome_some] at K1 T1
      have HK : Hid (Calls Tryz.prog 63 #[.slice (some ⟨b, o, none⟩) j c, .string l[i].name] _ fun e w' => e = .returned (.tuple #[.int .i64 (k0 : Int), .bool true]) ∧ w' = _) := K1
      clear K1 hk0 hx
      by_cases hki : k0 = i
      ·have HB2 : Hid (∀ k (h : k < l.length), k < i + 1 → (findP l[k].name l).getD 0 = k) := fun k h hk => by
        by_cases e : k = i
        ·subst e; rw [HP0.out, hki]
        ·exact hp.out k h (by omega)
       subst hki
       clear T1 hp HP0
       go_wp2_with (go_at_call 63; refine HK.out.mono ?_; rintro e w1 ⟨rfl, rfl⟩)
       go_roundw
       case rel => exact ⟨hb', k0 + 1, by omega, by go_num, HB2.out⟩
       case measure => simp [intOf]; omega
      ·have HA2 : Hid (checkP l = 101) := by show _ = _; rw [HC3.out, if_pos (T1 hki)]
       have hne : ((k0 : Int) == (i : Int)) = false := by rw [beq_eq_false_iff_ne]; omega
       have hne' : ((k0 : Int) != (i : Int)) = true := by rw [bne, hne]; rfl
       clear T1 hp HP0
       go_wp2_with (go_at_call 63; refine HK.out.mono ?_; rintro e w1 ⟨rfl, rfl⟩)
       go_ret
       exact ⟨ret_int HA2.out.symm, hb'⟩
     ·have : i = j := by omega
      subst this
      have hon : twiceP l = false := once_of fun k h => hp.out k h (by rw [← HN.out]; exact h)
      have HC4 : Hid (checkP l = if totP l > 65536 then 102 else 0) := by show _ = _; rw [HC3.out, hon]; rfl
      have K1 := KT.out _ (HRD.out.below hb')
      obtain ⟨T, hT⟩ : ∃ T, totP l = T := ⟨_, rfl⟩
      rw [hT] at HC4 K1
      have HK : Hid (Calls Tryz.prog 64 #[.slice p i c] _ fun e w' => e = .returned (.int .i64 T) ∧ Below _ _ w') := K1
      clear K1 hT hp hon HC3
      by_cases h6 : T > 65536
      ·have HC5 : Hid (checkP l = 102) := by show _ = _; rw [HC4.out, if_pos h6]
       have h6' : (65536 : Int) < T := h6
       clear HC4
       go_wp2_with (go_at_call 64; refine HK.out.mono ?_; rintro e w1 ⟨rfl, hb1⟩)
       go_ret
       exact ⟨ret_int HC5.out.symm, bel hb' hb1⟩
      ·have HC5 : Hid (checkP l = 0) := by show _ = _; rw [HC4.out, if_neg h6]
       have h6' : ¬ (65536 : Int) < T := h6
       clear HC4
       go_wp2_with (go_at_call 64; refine HK.out.mono ?_; rintro e w1 ⟨rfl, hb1⟩)
       go_ret
       exact ⟨ret_int HC5.out.symm, bel hb' hb1⟩
 ·have h64' : (64 : Int) < (n : Int) := by omega
  have HC2 : Hid (checkP l = 2) := by show _ = _; rw [HC.out, if_pos (by omega)]
  clear HC
  go_enter Tryz.func30, Tryz.ntmps30
  go_wp2
  go_ret
  exact ⟨ret_int HC2.out.symm, bel0 _⟩
end Go.Proofs.YtgcmnkanjcfndaaGreatDoor
namespace Go.Proofs.YtgcmnkanjcfndaaGreatDoor
open Go.RowKit
set_option linter.unusedVariables false
set_option linter.unusedSimpArgs false
def sof (x : Bs) : ByteArray := ⟨x.toArray⟩
end Go.Proofs.YtgcmnkanjcfndaaGreatDoor
namespace Go.Proofs.YtgcmnkanjcfndaaGreatDoor
open Go.RowKit
set_option linter.unusedVariables false
set_option linter.unusedSimpArgs false
theorem three {α : Type} {l : List α} (h : l.length = 3) : ∃ a b c, l = [a, b, c] := by
 match l, h with
 | [a, b, c], _ => exact ⟨a, b, c, rfl⟩
theorem keepc {w w' : World} {a : Addr} {v : Value} (k : Below w.heap.size w w') (h : w.cell? a = some v) : w'.cell? a = some v := (k.cell (mcell_lt h)).trans h
end Go.Proofs.YtgcmnkanjcfndaaGreatDoor
namespace Go.Proofs.YtgcmnkanjcfndaaGreatDoor
open Go.RowKit
set_option linter.unusedVariables false
set_option linter.unusedSimpArgs false
end Go.Proofs.YtgcmnkanjcfndaaGreatDoor
namespace Go.Proofs.YtgcmnkanjcfndaaGreatDoor
open Go.RowKit
set_option linter.unusedVariables false
set_option linter.unusedSimpArgs false
theorem sof_app (a b : Bs) : sof a ++ sof b = sof (a ++ b) := by
 unfold sof
 apply ByteArray.ext
 simp
theorem sof_size (a : Bs) : (sof a).size = a.length := by rw [← bs_length]; unfold sof; rw [bs_of]
end Go.Proofs.YtgcmnkanjcfndaaGreatDoor
namespace Go.Proofs.YtgcmnkanjcfndaaGreatDoor
open Go.RowKit Go.Maps
set_option linter.unusedVariables false
set_option linter.unusedSimpArgs false
set_option maxRecDepth 100000 in
set_option maxHeartbeats 1000000 in
theorem indexFunc_any (v : Value) (l : List Par) (hl : l.length ≤ 140737488351232) (hM : ∀ p ∈ l, p.name.size ≤ 140737488351232) (w : World) (hr : Rd w v l) :
  Calls Tryz.prog 128 #[v, .func (.func 99) #[] #[]] w fun e w' => (∃ x : Int, e = .returned (.int .i64 x) ∧ -1 ≤ x ∧ (0 ≤ x ↔ l.all mayP = false)) ∧ Below w.heap.size w w' := by
 obtain ⟨p, c, rfl, hr⟩ := hr
 obtain ⟨n, hn⟩ : ∃ n, l.length = n := ⟨_, rfl⟩
 rw [hn] at hl ⊢
 have HN : Hid (l.length = n) := hn
 have HR : Hid (Row w p l) := hr
 have HM : Hid (∀ p ∈ l, p.name.size ≤ 140737488351232) := hM
 clear hn hr hM
 go_enter Tryz.func128, Tryz.ntmps128
 go_wp2
 go_loopw [8] (fun iv wr => Below w.heap.size w wr ∧ ∃ j : Nat, j ≤ n ∧ iv = .int .i64 j ∧ Hid (∀ i (h : i < l.length), i < j → mayP l[i] = true)) (fun iv _ => n - (intOf iv).toNat)
 case atStart => exact ⟨bel0 w, 0, Nat.zero_le _, rfl, fun i h hi => absurd hi (Nat.not_lt_zero _)⟩
 case round =>
  obtain ⟨hb, j, hj, rfl, hp⟩ := hrel
  by_cases hlt : j < n
  ·have hll : j < l.length := by rw [HN.out]; exact hlt
   obtain ⟨b, o, rfl, hx⟩ := HR.out.at hll
   obtain ⟨x0, x1, x2⟩ := hx.below hb
   have i1 : (0 : Int) ≤ (j : Int) := by omega
   have i2 : (j : Int) < (n : Int) := by omega
   have KN := mayNot_any l[j] (HM.out _ (List.getElem_mem hll))
   unfold pv at KN
   have NX : Hid (mayP l[j] = true → ∀ i (h : i < l.length), i < j + 1 → mayP l[i] = true) := fun hq i h hi => by
    by_cases e : i = j
    ·subst e; exact hq
    ·exact hp.out i h (by omega)
   have NB : Hid (mayP l[j] = false → l.all mayP = false) := fun h => List.all_eq_false.2 ⟨l[j], List.getElem_mem hll, by rw [h]; decide⟩
   obtain ⟨N, hN⟩ : ∃ N, mayP l[j] = N := ⟨_, rfl⟩
   rw [hN] at NX NB
   simp only [hN] at KN
   have HK : Hid (∀ w, Calls Tryz.prog 99 #[.agg #[.string l[j].name, .int .i64 l[j].kind, .int .i64 l[j].len]] w fun e w' => e = .returned (.bool (!N)) ∧ Below w.heap.size w w') := KN
   clear KN hN hp hx
   cases N
   ·go_wp2_with (go_at_call 99; refine (HK.out _).mono ?_; rintro e w1 ⟨rfl, hb3⟩)
    go_ret
    exact ⟨⟨_, rfl, by omega, ⟨fun _ => NB.out (by simp), fun _ => by omega⟩⟩, bel hb hb3⟩
   ·go_wp2_with (go_at_call 99; refine (HK.out _).mono ?_; rintro e w1 ⟨rfl, hb3⟩)
    go_roundw
    case rel => exact ⟨bel hb hb3, j + 1, by omega, by go_num, NX.out (by simp)⟩
    case measure => simp [intOf]; omega
  ·have : j = n := by omega
   subst this
   have HF : Hid (l.all mayP = true) := List.all_eq_true.2 fun q hq => by
    obtain ⟨i, hi, rfl⟩ := List.mem_iff_getElem.1 hq
    exact hp.out i hi (by rw [← HN.out]; exact hi)
   clear hp
   go_wp2
   go_ret
   exact ⟨⟨_, rfl, by omega, ⟨fun h => absurd h (by omega), fun h => absurd h (by rw [HF.out]; decide)⟩⟩, hb⟩
set_option maxRecDepth 100000 in
set_option maxHeartbeats 1000000 in
theorem contains_any (v : Value) (l : List Par) (hl : l.length ≤ 140737488351232) (hM : ∀ p ∈ l, p.name.size ≤ 140737488351232) (w : World) (hr : Rd w v l) :
  Calls Tryz.prog 98 #[v, .func (.func 99) #[] #[]] w fun e w' => e = .returned (.bool (!l.all mayP)) ∧ Below w.heap.size w w' := by
 have HK : Hid (Calls Tryz.prog 128 #[v, .func (.func 99) #[] #[]] w fun e w' => (∃ x : Int, e = .returned (.int .i64 x) ∧ -1 ≤ x ∧ (0 ≤ x ↔ l.all mayP = false)) ∧ Below w.heap.size w w') := indexFunc_any v l hl hM w hr
 obtain ⟨N, hN⟩ : ∃ N, l.all mayP = N := ⟨_, rfl⟩
 rw [hN] at HK ⊢
 clear hN
 go_enter Tryz.func98, Tryz.ntmps98
 go_wp2_with (go_at_call 128; refine HK.out.mono ?_; rintro e w1 ⟨⟨x, rfl, hx1, hx2⟩, hb1⟩; have HX : Hid (0 ≤ x ↔ N = false) := hx2; clear hx2)
 go_ret
 refine ⟨ret_bool ?_, hb1⟩
 have := HX.out
 cases N
 ·simp only [Bool.not_false, decide_eq_true_eq]; exact this.2 rfl
 ·simp only [Bool.not_true, decide_eq_false_iff_not]; intro h; exact absurd (this.1 h) (by decide)
end Go.Proofs.YtgcmnkanjcfndaaGreatDoor
namespace Go.Proofs.YtgcmnkanjcfndaaGreatDoor
open Go.RowKit Go.Maps Go.WideMaps
set_option linter.unusedVariables false
set_option linter.unusedSimpArgs false
def keyL (s : ByteArray) : Lit := .string s.data.toList
theorem keyL_inj {a b : ByteArray} (h : keyL a = keyL b) : a = b := by
 unfold keyL at h
 injection h with h
 exact bs_inj h
theorem find_snoc (s : ByteArray) : ∀ (l : List Par) (p : Par), findP s (l ++ [p]) = match findP s l with | some i => some i | none => if p.name = s then some l.length else none
 | [], p => by simp [findP]
 | q :: l, p => by
  rw [List.cons_append]
  simp only [findP]
  by_cases h : q.name = s
  ·rw [if_pos h, if_pos h]
  ·rw [if_neg h, if_neg h, find_snoc s l p]
   cases findP s l with
   | some i => rfl
   | none =>
    simp only [Option.map_none]
    split
    ·rfl
    ·rfl
theorem find_any (s : ByteArray) : ∀ (l : List Par), (findP s l).isSome = l.any fun q => decide (q.name = s)
 | [] => rfl
 | q :: l => by
  simp only [findP, List.any_cons]
  by_cases h : q.name = s
  ·rw [if_pos h]; simp [h]
  ·rw [if_neg h, Option.isSome_map, find_any s l]; simp [h]
theorem twice_snoc : ∀ (l : List Par) (p : Par), twiceP (l ++ [p]) = (twiceP l || (findP p.name l).isSome)
 | [], p => rfl
 | q :: l, p => by
  rw [List.cons_append]
  simp only [twiceP, List.any_append, List.any_cons, List.any_nil, twice_snoc l p, find_any]
  have e : decide (p.name = q.name) = decide (q.name = p.name) := by rw [decide_eq_decide]; exact eq_comm
  rw [e]
  cases (l.any fun r => decide (r.name = q.name)) <;> cases (twiceP l) <;> cases (decide (q.name = p.name)) <;> cases (l.any fun r => decide (r.name = p.name)) <;> rfl
structure Firsts (l : List Par) (D : DataW Unit) : Prop where
 has : ∀ s, Maps.has D (keyL s) = (findP s l).isSome
 val : ∀ s i z, findP s l = some i → D.atKey (keyL s) z = .lit (.int .i64 (i : Int))
 no : twiceP l = false → Maps.size D = l.length
 yes : twiceP l = true → Maps.size D < l.length
theorem firsts_nil : Firsts [] (.map []) := ⟨fun _ => rfl, fun s i z h => by simp [findP] at h, fun _ => rfl, fun h => by simp [twiceP] at h⟩
theorem firsts_old {l : List Par} {D : DataW Unit} (h : Firsts l D) {p : Par} (hh : Maps.has D (keyL p.name) = true) : Firsts (l ++ [p]) D := by
 have hp : (findP p.name l).isSome = true := by rw [← h.has]; exact hh
 have hf : ∀ s, findP s (l ++ [p]) = findP s l := fun s => by
  rw [find_snoc]
  cases e : findP s l with
  | some i => rfl
  | none =>
   simp only
   rw [if_neg]
   rintro rfl
   rw [e] at hp
   exact absurd hp (by decide)
 have hle : Maps.size D ≤ l.length := by
  cases e : twiceP l
  ·exact Nat.le_of_eq (h.no e)
  ·exact Nat.le_of_lt (h.yes e)
 refine ⟨fun s => by rw [hf]; exact h.has s, fun s i z e => h.val s i z (by rw [← hf]; exact e), fun e => ?_, fun e => ?_⟩
 ·rw [twice_snoc, hp, Bool.or_true] at e
  exact absurd e (by decide)
 ·simp only [List.length_append, List.length_cons, List.length_nil]; omega
theorem firsts_new {l : List Par} {D : DataW Unit} (h : Firsts l D) (ht : Tidy D) {p : Par} (hh : Maps.has D (keyL p.name) = false) : Firsts (l ++ [p]) (D.put (keyL p.name) (.lit (.int .i64 (l.length : Int)))) := by
 have hp : (findP p.name l).isSome = false := by rw [← h.has]; exact hh
 have hpn : findP p.name l = none := by simpa using hp
 have hsz : Maps.size (D.put (keyL p.name) (.lit (.int .i64 (l.length : Int)))) = Maps.size D + 1 := by rw [size_put ht, hh]; rfl
 refine ⟨fun s => ?_, fun s i z e => ?_, fun e => ?_, fun e => ?_⟩
 ·by_cases hs : s = p.name
  ·subst hs
   rw [has_put_same ht.isMap (show WideAt.IsKeyLit (keyL p.name) from trivial), find_snoc, hpn]
   simp
  ·rw [has_put_other (fun e => hs (keyL_inj e)), h.has, find_snoc]
   cases e : findP s l with
   | some i => rfl
   | none => simp only; rw [if_neg (fun e => hs e.symm)]
 ·by_cases hs : s = p.name
  ·subst hs
   rw [find_snoc, hpn] at e
   simp at e
   subst e
   exact atKey_put_same ht.isMap (show WideAt.IsKeyLit (keyL p.name) from trivial) _ _
  ·rw [atKey_put_other (fun e => hs (keyL_inj e))]
   refine h.val s i z ?_
   rw [find_snoc] at e
   cases e2 : findP s l with
   | some j => rw [e2] at e; exact e
   | none => rw [e2] at e; simp only at e; rw [if_neg (fun e => hs e.symm)] at e; exact absurd e (by simp)
 ·rw [twice_snoc, hp, Bool.or_false] at e
  rw [hsz, h.no e]
  simp
 ·rw [twice_snoc, hp, Bool.or_false] at e
  have := h.yes e
  rw [hsz]
  simp only [List.length_append, List.length_cons, List.length_nil]; omega
theorem lawK : Keyed Tryz.prog 9 := string_keyed Tryz.underlying9
theorem zeroI (w : World) : (zeroValue 3).run Tryz.prog w = .ok (.int .i64 0) w := by kernel_rfl
def MapAt (w : World) (b n : Nat) (D : DataW Unit) : Prop := w.ownsMap Tryz.prog 9 (plainElem Tryz.prog 3) b n D
theorem MapAt.below {w w' : World} {b n : Nat} {D : DataW Unit} (h : MapAt w b n D) (k : Below w.heap.size w w') : MapAt w' b n D :=
 World.ownsMap.kept h (row := none) ⟨k.os, k.tape, k.output, k.size, fun j hj _ => k.block j hj⟩ (by simp)
set_option maxRecDepth 100000 in
set_option maxHeartbeats 2000000 in
theorem firsts_any (v : Value) (l : List Par) (hl : l.length ≤ 140737488351232) (hM : ∀ p ∈ l, p.name.size ≤ 140737488351232) (w : World) (hr : Rd w v l) :
  Calls Tryz.prog 100 #[v] w fun e w' => ∃ D, e = .returned (.map (some w.heap.size)) ∧ MapAt w' w.heap.size l.length D ∧ Firsts l D ∧ Below w.heap.size w w' := by
 obtain ⟨p, c, rfl, hr⟩ := hr
 obtain ⟨n, hn⟩ : ∃ n, l.length = n := ⟨_, rfl⟩
 rw [hn] at hl ⊢
 have HN : Hid (l.length = n) := hn
 have HR : Hid (Row w p l) := hr
 have HM : Hid (∀ p ∈ l, p.name.size ≤ 140737488351232) := hM
 clear hn hr hM
 have hmm := @run_makeMap Tryz.prog
 go_enter Tryz.func100, Tryz.ntmps100
 go_wp2
 go_loopw [11] (fun iv wr => Below w.heap.size w wr ∧ ∃ j : Nat, j ≤ n ∧ iv = .int .i64 j ∧ ∃ D, Hid (MapAt wr w.heap.size j D ∧ Firsts (l.take j) D)) (fun iv _ => n - (intOf iv).toNat)
 case atStart => exact ⟨bel_alloc _ _, 0, Nat.zero_le _, rfl, .map [], World.ownsMap_made _ _ _ _, firsts_nil⟩
 case round =>
  obtain ⟨hb, j, hj, rfl, D, hD⟩ := hrel
  by_cases hlt : j < n
  ·have hll : j < l.length := by rw [HN.out]; exact hlt
   obtain ⟨b, o, rfl, hx⟩ := HR.out.at hll
   obtain ⟨x0, x1, x2⟩ := hx.below hb
   have i1 : (0 : Int) ≤ (j : Int) := by omega
   have i2 : (j : Int) < (n : Int) := by omega
   have hkey : keyOf Tryz.prog 9 (.string l[j].name) = some (keyL l[j].name) := keyOf_string_mk Tryz.underlying9 (by have := HM.out _ (List.getElem_mem hll); unfold maxLen; omega)
   have HT : Hid (l.take (j + 1) = l.take j ++ [l[j]] ∧ (l.take j).length = j) := ⟨take_succ hll, by rw [List.length_take]; omega⟩
   have hwf : (Lit.int .i64 (j : Int)).wf = true := WalkArith.wf_i64 (by omega)
   have hown : Hid (MapAt (wr.alloc (.cells #[.string l[j].name, .int .i64 l[j].kind, .int .i64 l[j].len] 48)) w.heap.size j D) := hD.out.1.below (bel_alloc _ _)
   have HF : Hid (Firsts (l.take j) D) := hD.out.2
   clear hD hx
   cases hsn : Maps.has D (keyL l[j].name)
   ·have HS : Hid (Maps.has D (keyL l[j].name) = false) := hsn
    have tok : True := trivial
    clear hsn
    go_wp2_with (first
     | (at_lookup; have _t := tok; refine wpList_lookup_own_ok_int _ rfl _ _ 65 rfl 9 3 .i64 lawK Tryz.underlying65 Tryz.underlying3 (zeroI _) w.heap.size j D rfl hown.out _ _ rfl hkey ?_; intro c hat hwc; rw [HS.out]; clear hat hwc tok)
     | (at_mapUpdate; refine wpList_mapUpdate_own _ rfl _ _ _ 65 rfl 9 3 lawK Tryz.underlying65 _ w.heap.size j D rfl hown.out (by unfold maxLen; omega) _ _ _ rfl rfl hkey _ [] (plainElem_int Tryz.underlying3 hwf) ?_; intro w1 hown1 hgrow1; have H1 : Hid (MapAt w1 w.heap.size (j + 1) (D.put (keyL l[j].name) (.lit (.int .i64 (j : Int)))) ∧ World.grownBy _ w1 (some w.heap.size)) := ⟨hown1, hgrow1⟩; clear hown1 hgrow1))
    go_roundw
    case rel =>
     refine ⟨?_, j + 1, by omega, by go_num, _, H1.out.1, ?_⟩
     ·exact Below.grown (bel hb (bel_alloc _ _)) H1.out.2 (by have := hb.size; simp; omega) (fun k e => by cases e; exact Nat.le_refl _)
     ·rw [HT.out.1]
      have := firsts_new HF.out (World.ownsMap.tidy hown.out lawK) HS.out
      rw [HT.out.2] at this
      exact this
    case measure => simp [intOf]; omega
   ·have HS : Hid (Maps.has D (keyL l[j].name) = true) := hsn
    clear hsn
    go_wp2_with (at_lookup; refine wpList_lookup_own_ok_int _ rfl _ _ 65 rfl 9 3 .i64 lawK Tryz.underlying65 Tryz.underlying3 (zeroI _) w.heap.size j D rfl hown.out _ _ rfl hkey ?_; intro c hat hwc; rw [HS.out]; clear hat hwc)
    go_roundw
    case rel =>
     refine ⟨bel hb (bel_alloc _ _), j + 1, by omega, by go_num, D, World.ownsMap.mono hown.out (Nat.le_succ _), ?_⟩
     rw [HT.out.1]
     exact firsts_old HF.out HS.out
    case measure => simp [intOf]; omega
  ·have : j = n := by omega
   subst this
   have HF : Hid (MapAt wr w.heap.size j D ∧ Firsts l D) := ⟨hD.out.1, by have := hD.out.2; rw [List.take_of_length_le (by rw [HN.out]; exact Nat.le_refl _)] at this; exact this⟩
   clear hD
   go_wp2
   go_ret
   exact ⟨D, rfl, HF.out.1, HF.out.2, hb⟩
end Go.Proofs.YtgcmnkanjcfndaaGreatDoor
namespace Go.Proofs.YtgcmnkanjcfndaaGreatDoor
open Go.RowKit Go.Maps Go.WideMaps
set_option linter.unusedVariables false
set_option linter.unusedSimpArgs false
set_option maxRecDepth 100000 in
set_option maxHeartbeats 1000000 in
theorem sCheck_any (v : Value) (l : List Par) (hl : l.length ≤ 140737488351232) (hM : ∀ p ∈ l, p.name.size ≤ 140737488351232) (w : World) (hr : Rd w v l) :
  Calls Tryz.prog 69 #[v] w fun e w' => e = .returned (.int .i64 (checkP l)) ∧ Below w.heap.size w w' := by
 have K1 := contains_any v l hl hM w hr
 have K2 := fun w h => firsts_any v l hl hM w h
 have K3 := fun w h => sTotal_any v l hl hM w h
 have HR : Hid (Rd w v l) := hr
 have htb := tot_bounds l
 unfold checkP
 obtain ⟨p, c, rfl, _⟩ := hr
 obtain ⟨n, hn⟩ : ∃ n, l.length = n := ⟨_, rfl⟩
 obtain ⟨N, hN⟩ : ∃ N, l.all mayP = N := ⟨_, rfl⟩
 obtain ⟨T, hT⟩ : ∃ T, totP l = T := ⟨_, rfl⟩
 rw [hn] at K1 K2 K3 HR hl htb ⊢
 rw [hN] at K1 ⊢
 rw [hT] at htb ⊢
 simp only [hT] at K3
 have HK1 : Hid (Calls Tryz.prog 98 #[.slice p n c, .func (.func 99) #[] #[]] w fun e w' => e = .returned (.bool (!N)) ∧ Below w.heap.size w w') := K1
 have HK2 : Hid (∀ w, Rd w (.slice p n c) l → Calls Tryz.prog 100 #[.slice p n c] w fun e w' => ∃ D, e = .returned (.map (some w.heap.size)) ∧ MapAt w' w.heap.size n D ∧ Firsts l D ∧ Below w.heap.size w w') := K2
 have HK3 : Hid (∀ w, Rd w (.slice p n c) l → Calls Tryz.prog 101 #[.slice p n c] w fun e w' => e = .returned (.int .i64 T) ∧ Below w.heap.size w w') := K3
 have HN : Hid (l.length = n) := hn
 clear K1 K2 K3 hN hT hM hn
 by_cases h64 : n > 64
 ·have h64' : (64 : Int) < (n : Int) := by omega
  rw [if_pos h64]
  clear h64
  go_enter Tryz.func69, Tryz.ntmps69
  go_wp2
  all_goals (go_ret; exact ⟨rfl, bel0 w⟩)
 ·have h64' : ¬ (64 : Int) < (n : Int) := by omega
  rw [if_neg h64]
  clear h64
  cases N
  ·rw [if_pos rfl]
   go_enter Tryz.func69, Tryz.ntmps69
   go_wp2_with (go_at_call 98; refine HK1.out.mono ?_; rintro e w1 ⟨rfl, hb1⟩)
   all_goals (go_ret; exact ⟨rfl, hb1⟩)
  ·rw [if_neg (by decide)]
   cases htw : twiceP l
   ·rw [if_neg (by decide)]
    have HW : Hid (twiceP l = false) := htw
    clear htw
    by_cases h3 : T > 65536
    ·rw [if_pos h3]
     have h3' : (65536 : Int) < T := by omega
     go_enter Tryz.func69, Tryz.ntmps69
     go_wp2_with (first
      | (go_at_call 98; refine HK1.out.mono ?_; rintro e w1 ⟨rfl, hb1⟩)
      | (go_at_call 100; refine (HK2.out _ (HR.out.below hb1)).mono ?_; rintro e w2 ⟨D, rfl, hm, hf, hb2⟩; have HM1 : Hid (MapAt w2 w1.heap.size n D) := hm; have hs : Maps.size D = n := (by rw [hf.no HW.out, HN.out]); have hs2 : ¬ ((Maps.size D : Int) < (n : Int)) := (by omega); have HS : Hid (¬ ((Maps.size D : Int) < (n : Int))) := hs2; clear hm hf hs)
      | (have _t := HM1; at_len; refine wpList_len_own _ rfl _ 65 rfl 9 3 Tryz.underlying65 _ w1.heap.size n D rfl HM1.out ?_; clear HM1)
      | (go_at_call 101; refine (HK3.out _ (HR.out.below (bel hb1 hb2))).mono ?_; rintro e w3 ⟨rfl, hb3⟩))
     all_goals (go_ret; exact ⟨rfl, bel (bel hb1 hb2) hb3⟩)
    ·rw [if_neg h3]
     have h3' : ¬ (65536 : Int) < T := by omega
     go_enter Tryz.func69, Tryz.ntmps69
     go_wp2_with (first
      | (go_at_call 98; refine HK1.out.mono ?_; rintro e w1 ⟨rfl, hb1⟩)
      | (go_at_call 100; refine (HK2.out _ (HR.out.below hb1)).mono ?_; rintro e w2 ⟨D, rfl, hm, hf, hb2⟩; have HM1 : Hid (MapAt w2 w1.heap.size n D) := hm; have hs : Maps.size D = n := (by rw [hf.no HW.out, HN.out]); have hs2 : ¬ ((Maps.size D : Int) < (n : Int)) := (by omega); have HS : Hid (¬ ((Maps.size D : Int) < (n : Int))) := hs2; clear hm hf hs)
      | (have _t := HM1; at_len; refine wpList_len_own _ rfl _ 65 rfl 9 3 Tryz.underlying65 _ w1.heap.size n D rfl HM1.out ?_; clear HM1)
      | (go_at_call 101; refine (HK3.out _ (HR.out.below (bel hb1 hb2))).mono ?_; rintro e w3 ⟨rfl, hb3⟩))
     all_goals (go_ret; exact ⟨rfl, bel (bel hb1 hb2) hb3⟩)
   ·rw [if_pos rfl]
    have HW : Hid (twiceP l = true) := htw
    clear htw
    go_enter Tryz.func69, Tryz.ntmps69
    go_wp2_with (first
     | (go_at_call 98; refine HK1.out.mono ?_; rintro e w1 ⟨rfl, hb1⟩)
     | (go_at_call 100; refine (HK2.out _ (HR.out.below hb1)).mono ?_; rintro e w2 ⟨D, rfl, hm, hf, hb2⟩; have HM1 : Hid (MapAt w2 w1.heap.size n D) := hm; have hs : Maps.size D < n := (by have := hf.yes HW.out; rw [HN.out] at this; exact this); have hs2 : (Maps.size D : Int) < (n : Int) := (by omega); clear hm hf hs)
     | (have _t := HM1; at_len; refine wpList_len_own _ rfl _ 65 rfl 9 3 Tryz.underlying65 _ w1.heap.size n D rfl HM1.out ?_; clear HM1))
    all_goals (go_ret; exact ⟨rfl, bel hb1 hb2⟩)
end Go.Proofs.YtgcmnkanjcfndaaGreatDoor
