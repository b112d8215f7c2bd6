import Derived.Test.YtgcmnkanjcfndaaGreatDoorTxt1
namespace Go.Proofs.YtgcmnkanjcfndaaGreatDoor
open Go.RowKit
set_option linter.unusedVariables false
set_option linter.unusedSimpArgs false
set_option maxRecDepth 100000 in
set_option maxHeartbeats 1000000 in
theorem isPlace_any (n : Int) (k : Nat) (w : World) : Calls Tryz.prog 131 #[.int .i64 n, .int .i64 k] w fun e w' => e = .returned (.bool (isPl n k)) ∧ w' = w := by
 unfold isPl
 by_cases h : 0 ≤ n
 all_goals
  go_enter Tryz.func131, Tryz.ntmps131
  go_wp2
  go_ret
  exact ⟨ret_bool (by simp [h]; try omega), rfl⟩
set_option maxRecDepth 100000 in
set_option maxHeartbeats 1000000 in
theorem isWhole_any (n : Int) (w : World) : Calls Tryz.prog 132 #[.int .i64 n] w fun e w' => e = .returned (.bool (wholeB n)) ∧ w' = w := by
 unfold wholeB
 by_cases h : 0 ≤ n
 all_goals
  go_enter Tryz.func132, Tryz.ntmps132
  go_wp2
  go_ret
  exact ⟨ret_bool (by simp [h]; try omega), rfl⟩
set_option maxRecDepth 100000 in
set_option maxHeartbeats 1000000 in
theorem isTold_any (a : Int) (h0 : 0 ≤ a) (h1 : a < 4294967296) (w : World) : Calls Tryz.prog 133 #[.int .u32 a] w fun e w' => e = .returned (.bool (toldB a)) ∧ w' = w := by
 have hc : toldB a = (canon a == a) := by unfold toldB canon; cases nan a <;> rw [Bool.eq_iff_iff] <;> simp
 rw [hc]
 have HK : Hid (∀ w, Calls Tryz.prog 152 #[.int .u32 a] w fun e w' => e = .returned (.int .u32 (canon a)) ∧ w' = w) := canon_any a h0 h1
 clear hc
 obtain ⟨x, hx⟩ : ∃ x, canon a = x := ⟨_, rfl⟩
 rw [hx] at HK ⊢
 clear hx
 go_enter Tryz.func133, Tryz.ntmps133
 go_wp2_with (go_at_call 152; refine (HK.out _).mono ?_; rintro e w1 ⟨rfl, rfl⟩)
 go_ret
 exact ⟨rfl, rfl⟩
set_option maxRecDepth 100000 in
set_option maxHeartbeats 1000000 in
theorem typeMayBe_any (t : Ty) (p : Option Addr) (n c : Nat) (hn : n ≤ 140737488351232) (w : World) : Calls Tryz.prog 102 #[tyV t, .slice p n c] w fun e w' => e = .returned (.bool (typeMay t n)) ∧ Below w.heap.size w w' := by
 obtain ⟨K, P⟩ := t
 have HK : Hid (∀ w, Calls Tryz.prog 131 #[.int .i64 P, .int .i64 n] w fun e w' => e = .returned (.bool (isPl P n)) ∧ w' = w) := isPlace_any P n
 unfold typeMay tyV
 simp only
 by_cases h1 : K = 1
 ·subst h1
  rw [if_pos (Or.inl rfl)]
  go_enter Tryz.func102, Tryz.ntmps102
  go_wp2
  go_ret
  exact ⟨rfl, bel_alloc _ _⟩
 ·by_cases h2 : K = 2
  ·subst h2
   rw [if_pos (Or.inr rfl)]
   go_enter Tryz.func102, Tryz.ntmps102
   go_wp2
   go_ret
   exact ⟨rfl, bel_alloc _ _⟩
  ·rw [if_neg (fun e => e.elim h1 h2)]
   have h1' : (K == 1) = false := by simpa using h1
   have h2' : (K == 2) = false := by simpa using h2
   by_cases h3 : K = 3
   ·subst h3
    rw [if_pos rfl]
    go_enter Tryz.func102, Tryz.ntmps102
    go_wp2_with (go_at_call 131; refine (HK.out _).mono ?_; rintro e w1 ⟨rfl, rfl⟩)
    go_ret
    exact ⟨rfl, bel_alloc _ _⟩
   ·rw [if_neg h3]
    have h3' : (K == 3) = false := by simpa using h3
    clear h1 h2 h3
    go_enter Tryz.func102, Tryz.ntmps102
    go_wp2
    go_ret
    exact ⟨rfl, bel_alloc _ _⟩
def slV (s : Sl) : Value := .agg #[.int .i64 s.ty.kind, .int .i64 s.ty.par, .bool s.keep, .int .u32 s.bits, .int .i64 s.int_]
set_option maxRecDepth 100000 in
set_option maxHeartbeats 1000000 in
theorem begins_any (s : Sl) (h0 : 0 ≤ s.bits) (h1 : s.bits < 4294967296) (w : World) : Calls Tryz.prog 103 #[slV s] w fun e w' => e = .returned (.bool (begins s)) ∧ Below w.heap.size w w' := by
 have HK : Hid (∀ w, Calls Tryz.prog 133 #[.int .u32 s.bits] w fun e w' => e = .returned (.bool (toldB s.bits)) ∧ w' = w) := isTold_any s.bits h0 h1
 have HL : Hid (∀ w, Calls Tryz.prog 132 #[.int .i64 s.int_] w fun e w' => e = .returned (.bool (wholeB s.int_)) ∧ w' = w) := isWhole_any s.int_
 obtain ⟨⟨K, P⟩, Q, B, I⟩ := s
 unfold begins slV
 simp only at HK HL h0 h1 ⊢
 obtain ⟨X, hX⟩ : ∃ X, toldB B = X := ⟨_, rfl⟩
 obtain ⟨Y, hY⟩ : ∃ Y, wholeB I = Y := ⟨_, rfl⟩
 rw [hX] at HK ⊢
 rw [hY] at HL ⊢
 clear hX hY
 by_cases h2 : K = 2
 ·subst h2
  rw [if_pos rfl]
  cases hb : (B == 0)
  all_goals
   go_enter Tryz.func103, Tryz.ntmps103
   go_wp2_with (go_at_call 132; refine (HL.out _).mono ?_; rintro e w1 ⟨rfl, rfl⟩)
   go_ret
   exact ⟨ret_bool (by simp [hb]), bel_alloc _ _⟩
 ·rw [if_neg h2]
  have h2' : (K == 2) = false := by simpa using h2
  clear h2
  cases hb : (I == 0)
  all_goals
   go_enter Tryz.func103, Tryz.ntmps103
   go_wp2_with (go_at_call 133; refine (HK.out _).mono ?_; rintro e w1 ⟨rfl, rfl⟩)
   go_ret
   exact ⟨ret_bool (by simp [hb]), bel_alloc _ _⟩
end Go.Proofs.YtgcmnkanjcfndaaGreatDoor
namespace Go.Proofs.YtgcmnkanjcfndaaGreatDoor
open Go.RowKit
set_option linter.unusedVariables false
set_option linter.unusedSimpArgs false
theorem ty_eq (K P L Q : Int) : decide ((⟨K, P⟩ : Ty) = ⟨L, Q⟩) = (K == L && P == Q) := by
 rw [Bool.eq_iff_iff]; simp
set_option maxRecDepth 100000 in
set_option maxHeartbeats 2000000 in
theorem means_any (l : Int) (t m : Ty) (w : World) : Calls Tryz.prog 134 #[.int .i64 l, tyV t, tyV m] w fun e w' => e = .returned (.bool (meansP l t m)) ∧ Below w.heap.size w w' := by
 obtain ⟨K, P⟩ := t
 obtain ⟨L, Q⟩ := m
 unfold meansP tyV
 simp only [ty_eq]
 by_cases h1 : l = 1
 ·subst h1
  rw [if_pos rfl]
  go_enter Tryz.func134, Tryz.ntmps134
  go_wp2
  go_ret
  exact ⟨rfl, bel (bel_alloc _ _) (bel_alloc _ _)⟩
 rw [if_neg h1]
 by_cases h2 : l = 2
 ·subst h2
  rw [if_pos rfl]
  clear h1
  go_enter Tryz.func134, Tryz.ntmps134
  go_wp2
  go_ret
  exact ⟨rfl, bel (bel_alloc _ _) (bel_alloc _ _)⟩
 rw [if_neg h2]
 by_cases h3 : l = 3
 ·subst h3
  rw [if_pos rfl]
  clear h1 h2
  go_enter Tryz.func134, Tryz.ntmps134
  go_wp2
  go_ret
  exact ⟨rfl, bel (bel_alloc _ _) (bel_alloc _ _)⟩
 rw [if_neg h3]
 by_cases h4 : l = 4
 ·subst h4
  rw [if_pos rfl]
  clear h1 h2 h3
  cases hk : (K == 1)
  all_goals
   go_enter Tryz.func134, Tryz.ntmps134
   go_wp2
   go_ret
   exact ⟨ret_bool (by simp [hk]), bel (bel_alloc _ _) (bel_alloc _ _)⟩
 rw [if_neg h4]
 by_cases h5 : l = 5
 ·subst h5
  rw [if_pos rfl]
  clear h1 h2 h3 h4
  cases hk : (K == 1) <;> cases hl : (K == L) <;> cases hq : (P == Q)
  all_goals
   go_enter Tryz.func134, Tryz.ntmps134
   go_wp2
   go_ret
   exact ⟨ret_bool (by simp [hk, hl, hq]), bel (bel_alloc _ _) (bel_alloc _ _)⟩
 rw [if_neg h5]
 have h1' : (l == 1) = false := by simpa using h1
 have h2' : (l == 2) = false := by simpa using h2
 have h3' : (l == 3) = false := by simpa using h3
 have h4' : (l == 4) = false := by simpa using h4
 have h5' : (l == 5) = false := by simpa using h5
 clear h1 h2 h3 h4 h5
 go_enter Tryz.func134, Tryz.ntmps134
 go_wp2
 all_goals
  go_ret
  exact ⟨ret_bool (by simp [*]), bel (bel_alloc _ _) (bel_alloc _ _)⟩
end Go.Proofs.YtgcmnkanjcfndaaGreatDoor
namespace Go.Proofs.YtgcmnkanjcfndaaGreatDoor
open Go.RowKit
set_option linter.unusedVariables false
set_option linter.unusedSimpArgs false
theorem regT_at {l : List Ty} {n : Int} {k : Nat} (h : n = (k : Int)) (hk : k < l.length) : regT l n = l[k] := by
 subst h
 unfold regT
 rw [if_pos (isPl_iff.2 ⟨by omega, by omega⟩), Int.toNat_natCast, List.getElem?_eq_getElem hk]
 rfl
theorem pl_nat {n : Int} {k : Nat} (h : isPl n k = true) : ∃ m : Nat, n = (m : Int) ∧ m < k := by
 obtain ⟨h0, h1⟩ := isPl_iff.1 h
 exact ⟨n.toNat, by omega, by omega⟩
set_option maxRecDepth 100000 in
set_option maxHeartbeats 2000000 in
theorem fitsRegister_any (C : Nat) (v0 v1 v2 v3 : Value) (c : Cd) (hk : CdOk c) (l n : Int) (m : Ty) (w : World) (hc : CdAt w C v0 v1 v2 v3 c) :
  Calls Tryz.prog 106 #[.pointer (some ⟨C, 0, none⟩), .int .i64 l, .int .i64 n, tyV m] w fun e w' => e = .returned (.bool (fitsReg c.regs l n m)) ∧ Below w.heap.size w w' := by
 unfold fitsReg
 by_cases h0 : l = 0
 ·subst h0
  rw [if_pos rfl]
  unfold tyV
  go_enter Tryz.func106, Tryz.ntmps106
  go_wp2
  go_ret
  exact ⟨rfl, bel_alloc _ _⟩
 rw [if_neg h0]
 have h0' : (l == 0) = false := by simpa using h0
 clear h0
 have HB := hk.regsL
 have K1 := isPlace_any n c.regs.length
 obtain ⟨hcc, hcv⟩ := hc
 have c1 := hcc.at 1 rfl
 rw [Nat.zero_add] at c1
 have hr := hcv.regs
 obtain ⟨p, q, rfl, hrr⟩ := hcv.regs
 have HN : Hid (c.regs.length = c.regs.length) := rfl
 obtain ⟨X, hX⟩ : ∃ X, isPl n c.regs.length = X := ⟨_, rfl⟩
 simp only [hX] at K1
 rw [hX]
 have hC := mcell_lt c1
 simp only at hC
 cases X
 ·clear hr hrr hcc hcv
  obtain ⟨N, hN⟩ : ∃ N, c.regs.length = N := ⟨_, rfl⟩
  rw [hN] at K1 c1 HB
  have HK : Hid (∀ w, Calls Tryz.prog 131 #[.int .i64 n, .int .i64 N] w fun e w' => e = .returned (.bool false) ∧ w' = w) := K1
  clear hN K1 hX HN
  obtain ⟨A, B⟩ := m
  unfold tyV
  go_enter Tryz.func106, Tryz.ntmps106
  go_wp2
  have hC' : C ≠ w.heap.size := by omega
  refine wp_region_held_drew (S := (fun v => v.cell? ⟨C, 1, none⟩ = some (.slice p N q))) (by kernel_rfl) ?_ (fun hHeld => ?_)
  ·((try dsimp only); go_keep)
  refine tkT 0 ?_
  refine tkT 1 ?_
  refine tkT 2 ?_
  refine tkT 3 ?_
  refine tkT 4 ?_
  refine tkT 5 ?_
  clear hHeld
  refine wpAnyH_ready (rs := [6]) (by kernel_rfl) (by simp) ?_
  refine AllReadyH.cons (i := 6) (by simp only [List.getElem?_toArray, List.getElem?_cons_succ, List.getElem?_cons_zero]; rfl) (fun K hK => ?_) AllReadyH.nil
  go_simp
  (go_at_call 131; refine (HK.out _).mono ?_; rintro e w1 ⟨rfl, rfl⟩)
  try (go_wp2_with fail)
  refine hK.out _ _ ?_ (fun hHeld => ?_)
  ·((try dsimp only); go_keep)
  clear hK K
  try simp only [Act.put, List.setIfInBounds_toArray, List.set_cons_zero, List.set_cons_succ]
  refine tkT 7 ?_
  refine tkK 8 ?_
  refine tkK 9 ?_
  refine tkK 10 ?_
  refine tkK 11 ?_
  refine tkK 12 ?_
  refine tkK 13 ?_
  refine tkK 14 ?_
  refine tkK 15 ?_
  refine tkK 16 ?_
  refine tkK 17 ?_
  refine tkT 18 ?_
  refine tkT 19 ?_
  refine wpAnyH_done (by kernel_rfl) ?_ _
  go_wp2
  go_ret
  exact ⟨rfl, bel (bel_alloc _ _) (bel_d _)⟩
 ·obtain ⟨k, hnk, hkl⟩ := pl_nat hX
  rw [regT_at hnk hkl]
  have hti : c.regs[k] = c.regs[k] := rfl
  obtain ⟨b, o, hp, hx⟩ := hr.at hkl
  subst hp
  subst hnk
  have x0 := hx.at 0 rfl
  have x1 := hx.at 1 rfl
  rw [Nat.add_zero] at x0
  have hbl := mcell_lt x0
  simp only at hbl
  have K2 := means_any l c.regs[k] m
  obtain ⟨T, hT⟩ : ∃ T, c.regs[k] = T := ⟨_, rfl⟩
  rw [hT] at x0 x1 K2 ⊢
  obtain ⟨N, hN⟩ : ∃ N, c.regs.length = N := ⟨_, rfl⟩
  rw [hN] at K1 c1 HB hkl
  have HK : Hid (∀ w, Calls Tryz.prog 131 #[.int .i64 (k : Int), .int .i64 N] w fun e w' => e = .returned (.bool true) ∧ w' = w) := K1
  clear hN K1 hX HN hr hrr hcc hcv hx hti hT
  obtain ⟨A, B⟩ := m
  obtain ⟨D, E⟩ := T
  unfold tyV at K2 ⊢
  simp only at x0 x1 K2 ⊢
  obtain ⟨Y, hY⟩ : ∃ Y, meansP l ⟨D, E⟩ ⟨A, B⟩ = Y := ⟨_, rfl⟩
  rw [hY] at K2 ⊢
  have HM : Hid (∀ w, Calls Tryz.prog 134 #[.int .i64 l, .agg #[.int .i64 D, .int .i64 E], .agg #[.int .i64 A, .int .i64 B]] w fun e w' => e = .returned (.bool Y) ∧ Below w.heap.size w w') := K2
  clear K2 hY
  have i1 : (0 : Int) ≤ (k : Int) := by omega
  have i2 : (k : Int) < (N : Int) := by omega
  have hC' : C ≠ w.heap.size := by omega
  have hb' : b ≠ w.heap.size := by omega
  have HC : Hid (∀ v, Below (w.alloc (.cells #[.int .i64 A, .int .i64 B] 50)).heap.size (w.alloc (.cells #[.int .i64 A, .int .i64 B] 50)) v → v.cell? ⟨C, 1, none⟩ = some (.slice (some ⟨b, o, none⟩) N q) ∧ v.cell? ⟨b, o + k * 2, none⟩ = some (.int .i64 D) ∧ v.cell? ⟨b, o + k * 2 + 1, none⟩ = some (.int .i64 E) ∧ v.cell? ⟨w.heap.size, 0, none⟩ = some (.int .i64 A) ∧ v.cell? ⟨w.heap.size, 1, none⟩ = some (.int .i64 B)) :=
   fun v hv => ⟨kc hv (kc (bel_alloc _ _) c1), kc hv (kc (bel_alloc _ _) x0), kc hv (kc (bel_alloc _ _) x1), kc hv (by simp [go_sem]), kc hv (by simp [go_sem])⟩
  go_enter Tryz.func106, Tryz.ntmps106
  go_wp2
  refine wp_region_held_drew (S := (fun v => v.cell? ⟨C, 1, none⟩ = some (.slice (some ⟨b, o, none⟩) N q) ∧ v.cell? ⟨b, o + k * 2, none⟩ = some (.int .i64 D) ∧ v.cell? ⟨b, o + k * 2 + 1, none⟩ = some (.int .i64 E) ∧ v.cell? ⟨w.heap.size, 0, none⟩ = some (.int .i64 A) ∧ v.cell? ⟨w.heap.size, 1, none⟩ = some (.int .i64 B))) (by kernel_rfl) ?_ (fun hHeld => ?_)
  ·((try dsimp only); go_keep)
  refine tkT 0 ?_
  refine tkT 1 ?_
  refine tkT 2 ?_
  refine tkT 3 ?_
  refine tkT 4 ?_
  refine tkT 5 ?_
  clear hHeld
  refine wpAnyH_ready (rs := [6]) (by kernel_rfl) (by simp) ?_
  refine AllReadyH.cons (i := 6) (by simp only [List.getElem?_toArray, List.getElem?_cons_succ, List.getElem?_cons_zero]; rfl) (fun K hK => ?_) AllReadyH.nil
  go_simp
  (go_at_call 131; refine (HK.out _).mono ?_; rintro e w1 ⟨rfl, rfl⟩)
  try (go_wp2_with fail)
  refine hK.out _ _ ?_ (fun hHeld => ?_)
  ·((try dsimp only); go_keep)
  clear hK K
  try simp only [Act.put, List.setIfInBounds_toArray, List.set_cons_zero, List.set_cons_succ]
  refine tkT 7 ?_
  refine tkT 8 ?_
  refine tkT 9 ?_
  refine tkT 10 ?_
  refine tkT 11 ?_
  refine tkT 12 ?_
  refine tkT 13 ?_
  refine tkT 14 ?_
  refine tkT 15 ?_
  refine tkT 16 ?_
  clear hHeld
  refine wpAnyH_ready (rs := [17]) (by kernel_rfl) (by simp) ?_
  refine AllReadyH.cons (i := 17) (by simp only [List.getElem?_toArray, List.getElem?_cons_succ, List.getElem?_cons_zero]; rfl) (fun K hK => ?_) AllReadyH.nil
  go_simp
  (go_at_call 134; refine (HM.out _).mono ?_; rintro e w1 ⟨rfl, hb1⟩; have HB1 := bel (bel_d _) hb1; obtain ⟨y0, y1, y2, y3, y4⟩ := HC.out w1 HB1)
  try (go_wp2_with fail)
  refine hK.out _ _ ?_ (fun hHeld => ?_)
  ·((try dsimp only); go_keep)
  clear hK K
  try simp only [Act.put, List.setIfInBounds_toArray, List.set_cons_zero, List.set_cons_succ]
  refine tkT 18 ?_
  refine tkT 19 ?_
  refine wpAnyH_done (by kernel_rfl) ?_ _
  go_wp2
  go_ret
  exact ⟨by simp, bel (bel_alloc _ _) HB1⟩
end Go.Proofs.YtgcmnkanjcfndaaGreatDoor
namespace Go.Proofs.YtgcmnkanjcfndaaGreatDoor
open Go.RowKit
set_option linter.unusedVariables false
set_option linter.unusedSimpArgs false
set_option maxRecDepth 100000 in
set_option maxHeartbeats 2000000 in
theorem mainType_core (C : Nat) (p : Option Addr) (N q : Nat) (l : List Ty) (b o : Nat) (i : Ins) (r : Rw) (w : World) (hN : l.length = N) (c1 : w.cell? ⟨C, 1, none⟩ = some (.slice p N q)) (hr : RowG 2 tyC w (.slice p N q) l) (hB : N ≤ 140737488351232) (hi : CellsAt w b o (inC i)) :
  Calls Tryz.prog 104 #[.pointer (some ⟨C, 0, none⟩), .pointer (some ⟨b, o, none⟩), rwV r] w fun e w' => e = .returned (tyV (mainT l i r)) ∧ Below w.heap.size w w' := by
 unfold mainT mainR
 have e1 := hi.at 1 rfl
 have e2 := hi.at 2 rfl
 have hC := mcell_lt c1
 have hb := mcell_lt e1
 simp only at hC hb
 have n1 : C ≠ w.heap.size := by omega
 have n2 : C ≠ w.heap.size + 1 := by omega
 have n3 : b ≠ w.heap.size := by omega
 have n4 : b ≠ w.heap.size + 1 := by omega
 clear hi hC hb
 obtain ⟨D, A, B, X, Y⟩ := r
 unfold rwV
 simp only
 have HA : Hid (∀ a v, w.cell? a = some v → ((w.alloc (.cells #[.int .i64 D, .int .i64 A, .int .i64 B, .int .i64 X, .int .i64 Y] 129)).alloc (.cells #[.int .i64 0, .int .i64 0] 50)).cell? a = some v) := fun a v h => kc (bel_alloc _ _) (kc (bel_alloc _ _) h)
 obtain ⟨x, hx⟩ : ∃ x, (if D = 0 then i.a else i.d) = x := ⟨_, rfl⟩
 rw [hx]
 have K1 := isPlace_any x N
 have HX : Hid ((D = 0 ∧ x = i.a) ∨ (D ≠ 0 ∧ x = i.d)) := by
  show _ ∨ _
  by_cases h : D = 0
  ·rw [if_pos h] at hx; exact .inl ⟨h, hx.symm⟩
  ·rw [if_neg h] at hx; exact .inr ⟨h, hx.symm⟩
 clear hx
 obtain ⟨P, hP⟩ : ∃ P, isPl x N = P := ⟨_, rfl⟩
 simp only [hP] at K1
 have HK : Hid (∀ w, Calls Tryz.prog 131 #[.int .i64 x, .int .i64 N] w fun e w' => e = .returned (.bool P) ∧ w' = w) := K1
 clear K1
 cases P
 ·have HT : Hid (regT l x = ⟨0, 0⟩) := by show _ = _; unfold regT; rw [hN, hP]; rfl
  clear hP hr
  rcases HX.out with ⟨rfl, rfl⟩ | ⟨hD, rfl⟩
  ·clear HX
   have f1 := HA.out _ _ e1
   have f2 := HA.out _ _ e2
   have f3 := HA.out _ _ c1
   go_enter Tryz.func104, Tryz.ntmps104
   go_wp2_with (go_at_call 131; refine (HK.out _).mono ?_; rintro e w1 ⟨rfl, rfl⟩)
   refine bodyPost_ret (by simp [results, Tryz.results104, go_sem, *]; try rfl) rfl ?_
   exact ⟨by rw [HT.out]; rfl, by go_grown⟩
  ·clear HX
   have hD' : (D == 0) = false := by simpa using hD
   clear hD
   have f1 := HA.out _ _ e1
   have f2 := HA.out _ _ e2
   have f3 := HA.out _ _ c1
   go_enter Tryz.func104, Tryz.ntmps104
   go_wp2_with (go_at_call 131; refine (HK.out _).mono ?_; rintro e w1 ⟨rfl, rfl⟩)
   refine bodyPost_ret (by simp [results, Tryz.results104, go_sem, *]; try rfl) rfl ?_
   exact ⟨by rw [HT.out]; rfl, by go_grown⟩
 ·obtain ⟨k, hxk, hk⟩ := pl_nat hP
  have hkl : k < l.length := by omega
  have HT : Hid (regT l x = l[k]) := regT_at hxk hkl
  obtain ⟨g, u, hp, hx⟩ := hr.at hkl
  subst hp
  have x0 := hx.at 0 rfl
  have x1 := hx.at 1 rfl
  rw [Nat.add_zero] at x0
  obtain ⟨T, hT⟩ : ∃ T, l[k] = T := ⟨_, rfl⟩
  rw [hT] at x0 x1 HT
  obtain ⟨E, G⟩ := T
  simp only at x0 x1
  have hg := mcell_lt x0
  simp only at hg
  have n5 : g ≠ w.heap.size := by omega
  have n6 : g ≠ w.heap.size + 1 := by omega
  have i1 : (0 : Int) ≤ (k : Int) := by omega
  have i2 : (k : Int) < (N : Int) := by omega
  clear hP hr hx hT hg hN hkl
  rcases HX.out with ⟨rfl, hv⟩ | ⟨hD, hv⟩
  ·clear HX
   rw [← hv, hxk] at e2
   rw [hxk] at HK HT ⊢
   clear hv hxk
   have f1 := HA.out _ _ e1
   have f2 := HA.out _ _ e2
   have f3 := HA.out _ _ c1
   have f4 := HA.out _ _ x0
   have f5 := HA.out _ _ x1
   go_enter Tryz.func104, Tryz.ntmps104
   go_wp2_with (go_at_call 131; refine (HK.out _).mono ?_; rintro e w1 ⟨rfl, rfl⟩)
   refine bodyPost_ret (by simp [results, Tryz.results104, go_sem, *]; try rfl) rfl ?_
   exact ⟨by rw [HT.out]; rfl, by go_grown⟩
  ·clear HX
   have hD' : (D == 0) = false := by simpa using hD
   rw [← hv, hxk] at e1
   rw [hxk] at HK HT ⊢
   clear hD hv hxk
   have f1 := HA.out _ _ e1
   have f2 := HA.out _ _ e2
   have f3 := HA.out _ _ c1
   have f4 := HA.out _ _ x0
   have f5 := HA.out _ _ x1
   go_enter Tryz.func104, Tryz.ntmps104
   go_wp2_with (go_at_call 131; refine (HK.out _).mono ?_; rintro e w1 ⟨rfl, rfl⟩)
   refine bodyPost_ret (by simp [results, Tryz.results104, go_sem, *]; try rfl) rfl ?_
   exact ⟨by rw [HT.out]; rfl, by go_grown⟩
theorem mainType_any (C : Nat) (v0 v1 v2 v3 : Value) (c : Cd) (hk : CdOk c) (b o : Nat) (i : Ins) (r : Rw) (w : World) (hc : CdAt w C v0 v1 v2 v3 c) (hi : CellsAt w b o (inC i)) :
  Calls Tryz.prog 104 #[.pointer (some ⟨C, 0, none⟩), .pointer (some ⟨b, o, none⟩), rwV r] w fun e w' => e = .returned (tyV (mainT c.regs i r)) ∧ Below w.heap.size w w' := by
 obtain ⟨hcc, hcv⟩ := hc
 have c1 := hcc.at 1 rfl
 rw [Nat.zero_add] at c1
 have hr := hcv.regs
 obtain ⟨p, q, rfl, hrr⟩ := hcv.regs
 exact mainType_core C p _ q c.regs b o i r w rfl c1 hr hk.regsL hi
end Go.Proofs.YtgcmnkanjcfndaaGreatDoor
namespace Go.Proofs.YtgcmnkanjcfndaaGreatDoor
open Go.RowKit
set_option linter.unusedVariables false
set_option linter.unusedSimpArgs false
theorem kind_at {l : List Par} {n : Int} {k : Nat} (h : n = (k : Int)) (hk : k < l.length) : kindOf l n = l[k].kind := by
 subst h
 unfold kindOf
 rw [Int.toNat_natCast, List.getElem?_eq_getElem hk]
 rfl
theorem slotT_at {l : List Sl} {n : Int} {k : Nat} (h : n = (k : Int)) (hk : k < l.length) : slotT l n = l[k].ty := by
 subst h
 unfold slotT
 rw [Int.toNat_natCast, List.getElem?_eq_getElem hk]
 rfl
set_option maxRecDepth 100000 in
set_option maxHeartbeats 2000000 in
theorem fitsN_part (C : Nat) (v0 v1 v2 v3 : Value) (c : Cd) (hk : CdOk c) (n : Int) (m : Ty) (w : World) (hc : CdAt w C v0 v1 v2 v3 c) (hp : n = 1 → isPl m.par c.sign.length = true) :
  Calls Tryz.prog 135 #[.pointer (some ⟨C, 0, none⟩), .int .i64 n, .int .i64 9, tyV m] w fun e w' => e = .returned (.bool (n == 0 || (n == 1 && kindOf c.sign m.par == 2))) ∧ Below w.heap.size w w' := by
 obtain ⟨hcc, hcv⟩ := hc
 have c1 := hcc.at 0 rfl
 rw [Nat.zero_add] at c1
 have hC := mcell_lt c1
 simp only at hC
 have n1 : C ≠ w.heap.size := by omega
 obtain ⟨K, P⟩ := m
 unfold tyV
 simp only at hp ⊢
 have f1 : (w.alloc (.cells #[.int .i64 K, .int .i64 P] 50)).cell? ⟨C, 0, none⟩ = some v0 := kc (bel_alloc _ _) c1
 by_cases h0 : n = 0
 ·subst h0
  clear hp hcv hcc
  go_enter Tryz.func135, Tryz.ntmps135
  go_wp2
  refine wp_region_held_drew (S := (fun v => v.cell? ⟨C, 0, none⟩ = some v0)) (by kernel_rfl) ?_ (fun hHeld => ?_)
  ·((try dsimp only); go_keep)
  refine tkT 0 ?_
  refine tkT 1 ?_
  refine tkT 2 ?_
  refine tkK 3 ?_
  refine tkK 4 ?_
  refine tkK 5 ?_
  refine tkK 6 ?_
  refine tkK 7 ?_
  refine tkK 8 ?_
  refine tkK 9 ?_
  refine tkK 10 ?_
  refine tkK 11 ?_
  refine tkK 12 ?_
  refine tkK 13 ?_
  refine tkK 14 ?_
  refine tkK 15 ?_
  refine tkK 16 ?_
  refine tkT 17 ?_
  refine tkT 18 ?_
  refine wpAnyH_done (by kernel_rfl) ?_ _
  go_wp2
  go_ret
  exact ⟨rfl, bel (bel_alloc _ _) (bel_d _)⟩
 have h0' : (n == 0) = false := by simpa using h0
 by_cases h1 : n = 1
 ·subst h1
  obtain ⟨k, hxk, hk2⟩ := pl_nat (hp rfl)
  have hT := kind_at hxk hk2
  subst hxk
  have hr := hcv.sign
  obtain ⟨p, q, rfl, hrr⟩ := hcv.sign
  obtain ⟨b, o, rfl, hx⟩ := hr.at hk2
  have x1 := hx.at 1 rfl
  have hb := mcell_lt x1
  simp only at hb
  have n2 : b ≠ w.heap.size := by omega
  have HB := hk.signL
  obtain ⟨T, hT'⟩ : ∃ T, c.sign[k].kind = T := ⟨_, rfl⟩
  rw [hT'] at x1 hT
  rw [hT]
  obtain ⟨N, hN⟩ : ∃ N, c.sign.length = N := ⟨_, rfl⟩
  rw [hN] at c1 HB hk2 f1
  have f2 : (w.alloc (.cells #[.int .i64 K, .int .i64 (k : Int)] 50)).cell? ⟨b, o + k * 3 + 1, none⟩ = some (.int .i64 T) := kc (bel_alloc _ _) x1
  have i1 : (0 : Int) ≤ (k : Int) := by omega
  have i2 : (k : Int) < (N : Int) := by omega
  clear hp hcv hcc hr hrr hx hT hT' hN h0 hk
  go_enter Tryz.func135, Tryz.ntmps135
  go_wp2
  refine wp_region_held_drew (S := (fun v => v.cell? ⟨C, 0, none⟩ = some (.slice (some ⟨b, o, none⟩) N q) ∧ v.cell? ⟨b, o + k * 3 + 1, none⟩ = some (.int .i64 T) ∧ v.cell? ⟨w.heap.size, 1, none⟩ = some (.int .i64 (k : Int)))) (by kernel_rfl) ?_ (fun hHeld => ?_)
  ·((try dsimp only); go_keep)
  refine tkT 0 ?_
  refine tkT 1 ?_
  refine tkT 2 ?_
  refine tkT 3 ?_
  refine tkT 4 ?_
  refine tkT 5 ?_
  refine tkT 6 ?_
  refine tkT 7 ?_
  refine tkT 8 ?_
  refine tkT 9 ?_
  refine tkT 10 ?_
  refine tkT 11 ?_
  refine tkT 12 ?_
  refine tkT 13 ?_
  refine tkT 14 ?_
  refine tkT 15 ?_
  refine tkT 16 ?_
  refine tkT 17 ?_
  refine tkT 18 ?_
  refine wpAnyH_done (by kernel_rfl) ?_ _
  go_wp2
  go_ret
  exact ⟨ret_bool (by simp), bel (bel_alloc _ _) (bel_d _)⟩
 ·have h1' : (n == 1) = false := by simpa using h1
  clear hp hcv hcc h0 h1
  go_enter Tryz.func135, Tryz.ntmps135
  go_wp2
  refine wp_region_held_drew (S := (fun v => v.cell? ⟨C, 0, none⟩ = some v0)) (by kernel_rfl) ?_ (fun hHeld => ?_)
  ·((try dsimp only); go_keep)
  refine tkT 0 ?_
  refine tkT 1 ?_
  refine tkT 2 ?_
  refine tkT 3 ?_
  refine tkT 4 ?_
  refine tkT 5 ?_
  refine tkK 6 ?_
  refine tkK 7 ?_
  refine tkK 8 ?_
  refine tkK 9 ?_
  refine tkK 10 ?_
  refine tkK 11 ?_
  refine tkK 12 ?_
  refine tkK 13 ?_
  refine tkK 14 ?_
  refine tkK 15 ?_
  refine tkT 16 ?_
  refine tkT 17 ?_
  refine tkT 18 ?_
  refine wpAnyH_done (by kernel_rfl) ?_ _
  go_wp2
  go_ret
  exact ⟨ret_bool (by simp [h0', h1']), bel (bel_alloc _ _) (bel_d _)⟩
set_option maxRecDepth 100000 in
set_option maxHeartbeats 2000000 in
theorem fitsN_slot (C : Nat) (v0 v1 v2 v3 : Value) (c : Cd) (hk : CdOk c) (n : Int) (m : Ty) (w : World) (hc : CdAt w C v0 v1 v2 v3 c) :
  Calls Tryz.prog 135 #[.pointer (some ⟨C, 0, none⟩), .int .i64 n, .int .i64 10, tyV m] w fun e w' => e = .returned (.bool (isPl n c.slots.length && decide (slotT c.slots n = m))) ∧ Below w.heap.size w w' := by
 obtain ⟨hcc, hcv⟩ := hc
 have c1 := hcc.at 2 rfl
 rw [Nat.zero_add] at c1
 have hC := mcell_lt c1
 simp only at hC
 have n1 : C ≠ w.heap.size := by omega
 have HB := hk.slotsL
 have K1 := isPlace_any n c.slots.length
 have hr := hcv.slots
 obtain ⟨p, q, rfl, hrr⟩ := hcv.slots
 obtain ⟨X, hX⟩ : ∃ X, isPl n c.slots.length = X := ⟨_, rfl⟩
 simp only [hX] at K1
 rw [hX]
 obtain ⟨K, P⟩ := m
 unfold tyV
 simp only
 cases X
 ·clear hr hrr hcc hcv
  obtain ⟨N, hN⟩ : ∃ N, c.slots.length = N := ⟨_, rfl⟩
  rw [hN] at K1 c1 HB
  have HK : Hid (∀ w, Calls Tryz.prog 131 #[.int .i64 n, .int .i64 N] w fun e w' => e = .returned (.bool false) ∧ w' = w) := K1
  clear hN K1 hX hk
  have f1 : (w.alloc (.cells #[.int .i64 K, .int .i64 P] 50)).cell? ⟨C, 2, none⟩ = some (.slice p N q) := kc (bel_alloc _ _) c1
  go_enter Tryz.func135, Tryz.ntmps135
  go_wp2
  refine wp_region_held_drew (S := (fun v => v.cell? ⟨C, 2, none⟩ = some (.slice p N q))) (by kernel_rfl) ?_ (fun hHeld => ?_)
  ·((try dsimp only); go_keep)
  refine tkT 0 ?_
  refine tkT 1 ?_
  refine tkT 2 ?_
  refine tkT 3 ?_
  refine tkT 4 ?_
  refine tkT 5 ?_
  clear hHeld
  refine wpAnyH_ready (rs := [6]) (by kernel_rfl) (by simp) ?_
  refine AllReadyH.cons (i := 6) (by simp only [List.getElem?_toArray, List.getElem?_cons_succ, List.getElem?_cons_zero]; rfl) (fun K hK => ?_) AllReadyH.nil
  go_simp
  (go_at_call 131; refine (HK.out _).mono ?_; rintro e w1 ⟨rfl, rfl⟩)
  try (go_wp2_with fail)
  refine hK.out _ _ ?_ (fun hHeld => ?_)
  ·((try dsimp only); go_keep)
  clear hK K
  try simp only [Act.put, List.setIfInBounds_toArray, List.set_cons_zero, List.set_cons_succ]
  refine tkT 7 ?_
  refine tkK 8 ?_
  refine tkK 9 ?_
  refine tkK 10 ?_
  refine tkK 11 ?_
  refine tkK 12 ?_
  refine tkK 13 ?_
  refine tkK 14 ?_
  refine tkK 15 ?_
  refine tkK 16 ?_
  refine tkK 17 ?_
  refine tkT 18 ?_
  refine tkT 19 ?_
  refine wpAnyH_done (by kernel_rfl) ?_ _
  go_wp2
  go_ret
  exact ⟨rfl, bel (bel_alloc _ _) (bel_d _)⟩
 ·obtain ⟨k, hnk, hkl⟩ := pl_nat hX
  rw [slotT_at hnk hkl]
  obtain ⟨b, o, hp, hx⟩ := hr.at hkl
  subst hp
  subst hnk
  have x0 := hx.at 0 rfl
  have x1 := hx.at 1 rfl
  rw [Nat.add_zero] at x0
  have hbl := mcell_lt x0
  simp only at hbl
  have n2 : b ≠ w.heap.size := by omega
  obtain ⟨T, hT⟩ : ∃ T, c.slots[k].ty = T := ⟨_, rfl⟩
  rw [hT] at x0 x1 ⊢
  obtain ⟨D, E⟩ := T
  simp only at x0 x1
  rw [ty_eq]
  obtain ⟨N, hN⟩ : ∃ N, c.slots.length = N := ⟨_, rfl⟩
  rw [hN] at K1 c1 HB hkl
  have HK : Hid (∀ w, Calls Tryz.prog 131 #[.int .i64 (k : Int), .int .i64 N] w fun e w' => e = .returned (.bool true) ∧ w' = w) := K1
  have f1 : (w.alloc (.cells #[.int .i64 K, .int .i64 P] 50)).cell? ⟨C, 2, none⟩ = some (.slice (some ⟨b, o, none⟩) N q) := kc (bel_alloc _ _) c1
  have f2 : (w.alloc (.cells #[.int .i64 K, .int .i64 P] 50)).cell? ⟨b, o + k * 5, none⟩ = some (.int .i64 D) := kc (bel_alloc _ _) x0
  have f3 : (w.alloc (.cells #[.int .i64 K, .int .i64 P] 50)).cell? ⟨b, o + k * 5 + 1, none⟩ = some (.int .i64 E) := kc (bel_alloc _ _) x1
  have i1 : (0 : Int) ≤ (k : Int) := by omega
  have i2 : (k : Int) < (N : Int) := by omega
  clear hN K1 hX hr hrr hcc hcv hx hT hk
  cases hl : (D == K) <;> cases hq : (E == P)
  all_goals
   go_enter Tryz.func135, Tryz.ntmps135
   go_wp2
   refine wp_region_held_drew (S := (fun v => v.cell? ⟨C, 2, none⟩ = some (.slice (some ⟨b, o, none⟩) N q) ∧ v.cell? ⟨b, o + k * 5, none⟩ = some (.int .i64 D) ∧ v.cell? ⟨b, o + k * 5 + 1, none⟩ = some (.int .i64 E) ∧ v.cell? ⟨w.heap.size, 0, none⟩ = some (.int .i64 K) ∧ v.cell? ⟨w.heap.size, 1, none⟩ = some (.int .i64 P))) (by kernel_rfl) ?_ (fun hHeld => ?_)
   ·((try dsimp only); go_keep)
   refine tkT 0 ?_
   refine tkT 1 ?_
   refine tkT 2 ?_
   refine tkT 3 ?_
   refine tkT 4 ?_
   refine tkT 5 ?_
   clear hHeld
   refine wpAnyH_ready (rs := [6]) (by kernel_rfl) (by simp) ?_
   refine AllReadyH.cons (i := 6) (by simp only [List.getElem?_toArray, List.getElem?_cons_succ, List.getElem?_cons_zero]; rfl) (fun K hK => ?_) AllReadyH.nil
   go_simp
   (go_at_call 131; refine (HK.out _).mono ?_; rintro e w1 ⟨rfl, rfl⟩)
   try (go_wp2_with fail)
   refine hK.out _ _ ?_ (fun hHeld => ?_)
   ·((try dsimp only); go_keep)
   clear hK K
   try simp only [Act.put, List.setIfInBounds_toArray, List.set_cons_zero, List.set_cons_succ]
   refine tkT 7 ?_
   refine tkT 8 ?_
   refine tkT 9 ?_
   refine tkT 10 ?_
   refine tkT 11 ?_
   refine tkT 12 ?_
   refine tkT 13 ?_
   refine tkT 14 ?_
   refine tkT 15 ?_
   refine tkT 16 ?_
   refine tkT 17 ?_
   refine tkT 18 ?_
   refine tkT 19 ?_
   refine wpAnyH_done (by kernel_rfl) ?_ _
   go_wp2
   go_ret
   exact ⟨ret_bool (by simp [hl, hq]), bel (bel_alloc _ _) (bel_d _)⟩
set_option maxRecDepth 100000 in
set_option maxHeartbeats 2000000 in
theorem fitsN_any (C : Nat) (v0 v1 v2 v3 : Value) (c : Cd) (hk : CdOk c) (n l : Int) (m : Ty) (w : World) (hc : CdAt w C v0 v1 v2 v3 c) (hp : l = 9 → isPl m.par c.sign.length = true) :
  Calls Tryz.prog 135 #[.pointer (some ⟨C, 0, none⟩), .int .i64 n, .int .i64 l, tyV m] w fun e w' => e = .returned (.bool (fitsN c n l m)) ∧ Below w.heap.size w w' := by
 unfold fitsN
 by_cases h8 : l = 8
 ·subst h8
  rw [if_pos rfl]
  have HK : Hid (∀ w, Calls Tryz.prog 132 #[.int .i64 n] w fun e w' => e = .returned (.bool (wholeB n)) ∧ w' = w) := isWhole_any n
  unfold tyV
  clear hp hc
  go_enter Tryz.func135, Tryz.ntmps135
  go_wp2_with (go_at_call 132; refine (HK.out _).mono ?_; rintro e w1 ⟨rfl, rfl⟩)
  go_ret
  exact ⟨rfl, bel_alloc _ _⟩
 rw [if_neg h8]
 by_cases h9 : l = 9
 ·subst h9
  rw [if_pos rfl]
  exact fitsN_part C v0 v1 v2 v3 c hk n m w hc fun _ => hp rfl
 rw [if_neg h9]
 by_cases h10 : l = 10
 ·subst h10
  rw [if_pos rfl]
  exact fitsN_slot C v0 v1 v2 v3 c hk n m w hc
 rw [if_neg h10]
 have h8' : (l == 8) = false := by simpa using h8
 have h9' : (l == 9) = false := by simpa using h9
 have h10' : (l == 10) = false := by simpa using h10
 clear h8 h9 h10 hp
 by_cases h11 : l = 11
 ·subst h11
  rw [if_pos rfl]
  have K1 := isPlace_any n c.sign.length
  have HB := hk.signL
  obtain ⟨hcc, hcv⟩ := hc
  have c1 := hcc.at 0 rfl
  rw [Nat.zero_add] at c1
  have hC := mcell_lt c1
  simp only at hC
  have n1 : C ≠ w.heap.size := by omega
  obtain ⟨p, q, rfl, hrr⟩ := hcv.sign
  obtain ⟨X, hX⟩ : ∃ X, isPl n c.sign.length = X := ⟨_, rfl⟩
  simp only [hX] at K1
  rw [hX]
  obtain ⟨N, hN⟩ : ∃ N, c.sign.length = N := ⟨_, rfl⟩
  rw [hN] at K1 c1 HB
  have HK : Hid (∀ w, Calls Tryz.prog 131 #[.int .i64 n, .int .i64 N] w fun e w' => e = .returned (.bool X) ∧ w' = w) := K1
  clear hN K1 hX hrr hcc hcv hk h8' h9' h10'
  unfold tyV
  go_enter Tryz.func135, Tryz.ntmps135
  go_wp2_with (go_at_call 131; refine (HK.out _).mono ?_; rintro e w1 ⟨rfl, rfl⟩)
  go_ret
  exact ⟨rfl, bel_alloc _ _⟩
 rw [if_neg h11]
 have h11' : (l == 11) = false := by simpa using h11
 clear h11 hc
 unfold tyV
 go_enter Tryz.func135, Tryz.ntmps135
 go_wp2
 go_ret
 exact ⟨rfl, bel_alloc _ _⟩
set_option maxRecDepth 100000 in
set_option maxHeartbeats 2000000 in
theorem fitsRest_any (C : Nat) (v0 v1 v2 v3 : Value) (c : Cd) (hk : CdOk c) (b o : Nat) (i : Ins) (l : Int) (m : Ty) (w : World) (hc : CdAt w C v0 v1 v2 v3 c) (hi : CellsAt w b o (inC i)) (h0 : 0 ≤ i.bits) (h1 : i.bits < 4294967296) (hp : l = 9 → isPl m.par c.sign.length = true) :
  Calls Tryz.prog 107 #[.pointer (some ⟨C, 0, none⟩), .pointer (some ⟨b, o, none⟩), .int .i64 l, tyV m] w fun e w' => e = .returned (.bool (fitsRest c i l m)) ∧ Below w.heap.size w w' := by
 have e5 := hi.at 5 rfl
 have e6 := hi.at 6 rfl
 have hb := mcell_lt e5
 simp only at hb
 have n1 : b ≠ w.heap.size := by omega
 have K1 := isTold_any i.bits h0 h1
 have K2 := fun w h => fitsN_any C v0 v1 v2 v3 c hk i.n l m w h hp
 unfold fitsRest
 obtain ⟨X, hX⟩ : ∃ X, toldB i.bits = X := ⟨_, rfl⟩
 obtain ⟨Y, hY⟩ : ∃ Y, fitsN c i.n l m = Y := ⟨_, rfl⟩
 simp only [hX] at K1 ⊢
 simp only [hY] at K2 ⊢
 obtain ⟨bt, hbt⟩ : ∃ x, i.bits = x := ⟨_, rfl⟩
 obtain ⟨n, hn⟩ : ∃ x, i.n = x := ⟨_, rfl⟩
 rw [hbt] at e6 K1 ⊢
 rw [hn] at e5 K2 ⊢
 have HK : Hid (∀ w, Calls Tryz.prog 133 #[.int .u32 bt] w fun e w' => e = .returned (.bool X) ∧ w' = w) := K1
 obtain ⟨K, P⟩ := m
 unfold tyV at K2 ⊢
 simp only at K2 ⊢
 have HN : Hid (∀ w, CdAt w C v0 v1 v2 v3 c → Calls Tryz.prog 135 #[.pointer (some ⟨C, 0, none⟩), .int .i64 n, .int .i64 l, .agg #[.int .i64 K, .int .i64 P]] w fun e w' => e = .returned (.bool Y) ∧ Below w.heap.size w w') := K2
 have f5 : (w.alloc (.cells #[.int .i64 K, .int .i64 P] 50)).cell? ⟨b, o + 5, none⟩ = some (.int .i64 n) := kc (bel_alloc _ _) e5
 have f6 : (w.alloc (.cells #[.int .i64 K, .int .i64 P] 50)).cell? ⟨b, o + 6, none⟩ = some (.int .u32 bt) := kc (bel_alloc _ _) e6
 have HC0 : Hid (CdAt w C v0 v1 v2 v3 c) := hc
 clear K1 K2 hX hY hbt hn hi hp h0 h1 hk hc
 by_cases h7 : l = 7
 ·subst h7
  rw [if_pos rfl]
  clear HN
  cases hz : (n == 0)
  all_goals
   go_enter Tryz.func107, Tryz.ntmps107
   go_wp2_with (go_at_call 133; refine (HK.out _).mono ?_; rintro e w1 ⟨rfl, rfl⟩)
   go_ret
   exact ⟨ret_bool (by simp [hz]), bel_alloc _ _⟩
 rw [if_neg h7]
 have h7' : (l == 7) = false := by simpa using h7
 clear h7 HK
 cases hz : (bt == 0)
 ·go_enter Tryz.func107, Tryz.ntmps107
  go_wp2
  refine wp_region_held_drew (S := (fun v => v.cell? ⟨b, o + 5, none⟩ = some (.int .i64 n) ∧ v.cell? ⟨b, o + 6, none⟩ = some (.int .u32 bt))) (by kernel_rfl) ?_ (fun hHeld => ?_)
  ·((try dsimp only); go_keep)
  refine tkT 0 ?_
  refine tkT 1 ?_
  refine tkT 2 ?_
  refine tkT 3 ?_
  refine tkT 4 ?_
  refine tkT 5 ?_
  refine tkK 6 ?_
  refine tkK 7 ?_
  refine tkK 8 ?_
  refine tkK 9 ?_
  refine tkK 10 ?_
  refine tkK 11 ?_
  refine tkK 12 ?_
  refine tkK 13 ?_
  refine tkT 14 ?_
  refine tkT 15 ?_
  refine wpAnyH_done (by kernel_rfl) ?_ _
  go_wp2
  go_ret
  exact ⟨ret_bool (by simp [hz]), bel (bel_alloc _ _) (bel_d _)⟩
 ·go_enter Tryz.func107, Tryz.ntmps107
  go_wp2
  have HC : Hid (∀ v, Below (w.alloc (.cells #[.int .i64 K, .int .i64 P] 50)).heap.size (w.alloc (.cells #[.int .i64 K, .int .i64 P] 50)) v → v.cell? ⟨b, o + 5, none⟩ = some (.int .i64 n) ∧ v.cell? ⟨b, o + 6, none⟩ = some (.int .u32 bt) ∧ v.cell? ⟨w.heap.size, 0, none⟩ = some (.int .i64 K) ∧ v.cell? ⟨w.heap.size, 1, none⟩ = some (.int .i64 P)) :=
   fun v hv => ⟨kc hv f5, kc hv f6, kc hv (by simp [go_sem]), kc hv (by simp [go_sem])⟩
  refine wp_region_held_drew (S := (fun v => v.cell? ⟨b, o + 5, none⟩ = some (.int .i64 n) ∧ v.cell? ⟨b, o + 6, none⟩ = some (.int .u32 bt) ∧ v.cell? ⟨w.heap.size, 0, none⟩ = some (.int .i64 K) ∧ v.cell? ⟨w.heap.size, 1, none⟩ = some (.int .i64 P))) (by kernel_rfl) ?_ (fun hHeld => ?_)
  ·((try dsimp only); go_keep)
  refine tkT 0 ?_
  refine tkT 1 ?_
  refine tkT 2 ?_
  refine tkT 3 ?_
  refine tkT 4 ?_
  refine tkT 5 ?_
  refine tkT 6 ?_
  refine tkT 7 ?_
  refine tkT 8 ?_
  refine tkT 9 ?_
  refine tkT 10 ?_
  refine tkT 11 ?_
  refine tkT 12 ?_
  clear hHeld
  refine wpAnyH_ready (rs := [13]) (by kernel_rfl) (by simp) ?_
  refine AllReadyH.cons (i := 13) (by simp only [List.getElem?_toArray, List.getElem?_cons_succ, List.getElem?_cons_zero]; rfl) (fun K hK => ?_) AllReadyH.nil
  go_simp
  (go_at_call 135; refine (HN.out _ ((HC0.out.below (bel_alloc _ _)).below (bel_d _))).mono ?_; rintro e w1 ⟨rfl, hb1⟩; have HB1 := bel (bel_d _) hb1; obtain ⟨y0, y1, y2, y3⟩ := HC.out w1 HB1)
  try (go_wp2_with fail)
  refine hK.out _ _ ?_ (fun hHeld => ?_)
  ·((try dsimp only); go_keep)
  clear hK K
  try simp only [Act.put, List.setIfInBounds_toArray, List.set_cons_zero, List.set_cons_succ]
  refine tkT 14 ?_
  refine tkT 15 ?_
  refine wpAnyH_done (by kernel_rfl) ?_ _
  go_wp2
  go_ret
  exact ⟨ret_bool (by simp [hz]), bel (bel_alloc _ _) HB1⟩
end Go.Proofs.YtgcmnkanjcfndaaGreatDoor
