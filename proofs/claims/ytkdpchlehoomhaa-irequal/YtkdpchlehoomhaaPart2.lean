import Derived.Test.YtkdpchlehoomhaaPart1
namespace Go.Proofs.Ytkdpchlehoomhaa
open Go.RowKit
set_option linter.unusedVariables false
set_option linter.unusedSimpArgs false
set_option maxRecDepth 100000 in
set_option maxHeartbeats 2000000 in
theorem mainType_core (C : Nat) (p : Option Addr) (N q : Nat) (l : List Ty) (b o : Nat) (i : Ins) (r : Rw) (w : World) (hN : l.length = N) (c1 : w.cell? ⟨C, 1, none⟩ = some (.slice p N q)) (hr : RowG 2 tyC w (.slice p N q) l) (hB : N ≤ 140737488351232) (hi : CellsAt w b o (inC i)) :
  Calls Try.prog 56 #[.pointer (some ⟨C, 0, none⟩), .pointer (some ⟨b, o, none⟩), rwV r] w fun e w' => e = .returned (tyV (mainT l i r)) ∧ Below w.heap.size w w' := by
 unfold mainT mainR
 have e1 := hi.at 1 rfl
 have e2 := hi.at 2 rfl
 have hC := mcell_lt c1
 have hb := mcell_lt e1
 simp only at hC hb
 have n1 : C ≠ w.heap.size := by omega
 have n2 : C ≠ w.heap.size + 1 := by omega
 have n3 : b ≠ w.heap.size := by omega
 have n4 : b ≠ w.heap.size + 1 := by omega
 clear hi hC hb
 obtain ⟨D, A, B, X, Y⟩ := r
 unfold rwV
 simp only
 have HA : Hid (∀ a v, w.cell? a = some v → ((w.alloc (.cells #[.int .i64 D, .int .i64 A, .int .i64 B, .int .i64 X, .int .i64 Y] 53)).alloc (.cells #[.int .i64 0, .int .i64 0] 65)).cell? a = some v) := fun a v h => kc (bel_alloc _ _) (kc (bel_alloc _ _) h)
 obtain ⟨x, hx⟩ : ∃ x, (if D = 0 then i.a else i.d) = x := ⟨_, rfl⟩
 rw [hx]
 have K1 := isPlace_any x N
 have HX : Hid ((D = 0 ∧ x = i.a) ∨ (D ≠ 0 ∧ x = i.d)) := by
  show _ ∨ _
  by_cases h : D = 0
  ·rw [if_pos h] at hx; exact .inl ⟨h, hx.symm⟩
  ·rw [if_neg h] at hx; exact .inr ⟨h, hx.symm⟩
 clear hx
 obtain ⟨P, hP⟩ : ∃ P, isPl x N = P := ⟨_, rfl⟩
 simp only [hP] at K1
 have HK : Hid (∀ w, Calls Try.prog 70 #[.int .i64 x, .int .i64 N] w fun e w' => e = .returned (.bool P) ∧ w' = w) := K1
 clear K1
 cases P
 ·have HT : Hid (regT l x = ⟨0, 0⟩) := by show _ = _; unfold regT; rw [hN, hP]; rfl
  clear hP hr
  rcases HX.out with ⟨rfl, rfl⟩ | ⟨hD, rfl⟩
  ·clear HX
   have f1 := HA.out _ _ e1
   have f2 := HA.out _ _ e2
   have f3 := HA.out _ _ c1
   go_enter Try.func56, Try.ntmps56
   go_wp2_with (go_at_call 70; refine (HK.out _).mono ?_; rintro e w1 ⟨rfl, rfl⟩)
   refine bodyPost_ret (by simp [results, Try.results56, go_sem, *]; try rfl) rfl ?_
   exact ⟨by rw [HT.out]; rfl, by go_grown⟩
  ·clear HX
   have hD' : (D == 0) = false := by simpa using hD
   clear hD
   have f1 := HA.out _ _ e1
   have f2 := HA.out _ _ e2
   have f3 := HA.out _ _ c1
   go_enter Try.func56, Try.ntmps56
   go_wp2_with (go_at_call 70; refine (HK.out _).mono ?_; rintro e w1 ⟨rfl, rfl⟩)
   refine bodyPost_ret (by simp [results, Try.results56, go_sem, *]; try rfl) rfl ?_
   exact ⟨by rw [HT.out]; rfl, by go_grown⟩
 ·obtain ⟨k, hxk, hk⟩ := pl_nat hP
  have hkl : k < l.length := by omega
  have HT : Hid (regT l x = l[k]) := regT_at hxk hkl
  obtain ⟨g, u, hp, hx⟩ := hr.at hkl
  subst hp
  have x0 := hx.at 0 rfl
  have x1 := hx.at 1 rfl
  rw [Nat.add_zero] at x0
  obtain ⟨T, hT⟩ : ∃ T, l[k] = T := ⟨_, rfl⟩
  rw [hT] at x0 x1 HT
  obtain ⟨E, G⟩ := T
  simp only at x0 x1
  have hg := mcell_lt x0
  simp only at hg
  have n5 : g ≠ w.heap.size := by omega
  have n6 : g ≠ w.heap.size + 1 := by omega
  have i1 : (0 : Int) ≤ (k : Int) := by omega
  have i2 : (k : Int) < (N : Int) := by omega
  clear hP hr hx hT hg hN hkl
  rcases HX.out with ⟨rfl, hv⟩ | ⟨hD, hv⟩
  ·clear HX
   rw [← hv, hxk] at e2
   rw [hxk] at HK HT ⊢
   clear hv hxk
   have f1 := HA.out _ _ e1
   have f2 := HA.out _ _ e2
   have f3 := HA.out _ _ c1
   have f4 := HA.out _ _ x0
   have f5 := HA.out _ _ x1
   go_enter Try.func56, Try.ntmps56
   go_wp2_with (go_at_call 70; refine (HK.out _).mono ?_; rintro e w1 ⟨rfl, rfl⟩)
   refine bodyPost_ret (by simp [results, Try.results56, go_sem, *]; try rfl) rfl ?_
   exact ⟨by rw [HT.out]; rfl, by go_grown⟩
  ·clear HX
   have hD' : (D == 0) = false := by simpa using hD
   rw [← hv, hxk] at e1
   rw [hxk] at HK HT ⊢
   clear hD hv hxk
   have f1 := HA.out _ _ e1
   have f2 := HA.out _ _ e2
   have f3 := HA.out _ _ c1
   have f4 := HA.out _ _ x0
   have f5 := HA.out _ _ x1
   go_enter Try.func56, Try.ntmps56
   go_wp2_with (go_at_call 70; refine (HK.out _).mono ?_; rintro e w1 ⟨rfl, rfl⟩)
   refine bodyPost_ret (by simp [results, Try.results56, go_sem, *]; try rfl) rfl ?_
   exact ⟨by rw [HT.out]; rfl, by go_grown⟩
theorem mainType_any (C : Nat) (v0 v1 v2 v3 : Value) (c : Cd) (hk : CdOk c) (b o : Nat) (i : Ins) (r : Rw) (w : World) (hc : CdAt w C v0 v1 v2 v3 c) (hi : CellsAt w b o (inC i)) :
  Calls Try.prog 56 #[.pointer (some ⟨C, 0, none⟩), .pointer (some ⟨b, o, none⟩), rwV r] w fun e w' => e = .returned (tyV (mainT c.regs i r)) ∧ Below w.heap.size w w' := by
 obtain ⟨hcc, hcv⟩ := hc
 have c1 := hcc.at 1 rfl
 rw [Nat.zero_add] at c1
 have hr := hcv.regs
 obtain ⟨p, q, rfl, hrr⟩ := hcv.regs
 exact mainType_core C p _ q c.regs b o i r w rfl c1 hr hk.regsL hi
end Go.Proofs.Ytkdpchlehoomhaa
