import Derived.Test.YtgcmnkanjcfndaaGreatDoorTxt2
import Derived.Test.YtgcmnkanjcfndaaGreatDoorTxt8
import Ieee.Arith
import Derived.Laws.FloatBits
import Derived.Test.YtgcmnkanjcfndaaGreatDoorTxt1
import Derived.Laws.FloatArith
import Derived.Below
import Derived.Test.YtgcmnkanjcfndaaGreatDoorTxt12
import Derived.Laws.Externs
import Derived.Handy
namespace Go.Proofs.YtgcmnkanjcfndaaGreatDoor
open Go.RowKit
set_option linter.unusedVariables false
set_option linter.unusedSimpArgs false
set_option maxRecDepth 100000 in
set_option maxHeartbeats 1000000 in
theorem rmayType_any (t : Ty) (p : Option Addr) (n c : Nat) (hn : n ≤ 140737488351232) (w : World) : Calls Tryz.prog 31 #[tyV t, .slice p n c] w fun e w' => e = .returned (.bool (typeMay t n)) ∧ Below w.heap.size w w' := by
 obtain ⟨K, P⟩ := t
 unfold typeMay tyV isPl
 simp only
 by_cases h1 : K = 1
 ·subst h1
  rw [if_pos (Or.inl rfl)]
  go_enter Tryz.func31, Tryz.ntmps31
  go_wp2
  go_ret
  exact ⟨rfl, bel_alloc _ _⟩
 ·by_cases h2 : K = 2
  ·subst h2
   rw [if_pos (Or.inr rfl)]
   go_enter Tryz.func31, Tryz.ntmps31
   go_wp2
   go_ret
   exact ⟨rfl, bel_alloc _ _⟩
  ·rw [if_neg (fun e => e.elim h1 h2)]
   have h1' : (K == 1) = false := by simpa using h1
   have h2' : (K == 2) = false := by simpa using h2
   by_cases h3 : K = 3
   ·subst h3
    rw [if_pos rfl]
    by_cases h : 0 ≤ P
    all_goals
     go_enter Tryz.func31, Tryz.ntmps31
     go_wp2
     go_ret
     exact ⟨ret_bool (by simp [h]; try omega), bel_alloc _ _⟩
   ·rw [if_neg h3]
    have h3' : (K == 3) = false := by simpa using h3
    clear h1 h2 h3
    go_enter Tryz.func31, Tryz.ntmps31
    go_wp2
    go_ret
    exact ⟨rfl, bel_alloc _ _⟩
set_option maxRecDepth 100000 in
set_option maxHeartbeats 1000000 in
theorem rtypeOf_any (v0 v1 v2 v3 : Value) (c : Cd) (hk : CdOk c) (n : Int) (w : World) (hv : CdV w v0 v1 v2 v3 c) :
  Calls Tryz.prog 127 #[.agg #[v0, v1, v2, v3], .int .i64 n] w fun e w' => e = .returned (.tuple #[tyV (regT c.regs n), .bool (isPl n c.regs.length)]) ∧ Below w.heap.size w w' := by
 have HB := hk.regsL
 have hr := hv.regs
 obtain ⟨p, q, rfl, hrr⟩ := hv.regs
 clear hv hk
 by_cases h0 : 0 ≤ n
 ·by_cases h1 : n < (c.regs.length : Int)
  ·obtain ⟨k, rfl⟩ : ∃ k : Nat, n = (k : Int) := ⟨n.toNat, by omega⟩
   have hk : k < c.regs.length := by omega
   have e : regT c.regs (k : Int) = c.regs[k] := regT_at rfl hk
   have e2 : isPl (k : Int) c.regs.length = true := isPl_iff.2 ⟨by omega, by omega⟩
   rw [e, e2]
   obtain ⟨lb, lo, rfl, hc⟩ := hr.at hk
   obtain ⟨⟨K, P⟩, ht⟩ : ∃ t : Ty, c.regs[k] = t := ⟨_, rfl⟩
   rw [ht] at hc ⊢
   have y0 : w.cell? ⟨lb, lo + k * 2, none⟩ = some (.int .i64 K) := hc.at 0 rfl
   have y1 : w.cell? ⟨lb, lo + k * 2 + 1, none⟩ = some (.int .i64 P) := hc.at 1 rfl
   have hlb : lb ≠ w.heap.size := by have := mcell_lt y0; simp only at this; omega
   obtain ⟨N, hN⟩ : ∃ N, c.regs.length = N := ⟨_, rfl⟩
   rw [hN] at hk HB ⊢
   clear hr hrr hc ht e e2 h0 h1 hN
   have g0 : ∀ o o', ((w.alloc o).alloc o').cell? ⟨lb, lo + k * 2, none⟩ = some (.int .i64 K) := fun o o' => kc (bel (bel_alloc _ _) (bel_alloc _ _)) y0
   have g1 : ∀ o o', ((w.alloc o).alloc o').cell? ⟨lb, lo + k * 2 + 1, none⟩ = some (.int .i64 P) := fun o o' => kc (bel (bel_alloc _ _) (bel_alloc _ _)) y1
   unfold tyV
   go_enter Tryz.func127, Tryz.ntmps127
   go_wp2
   refine bodyPost_ret (by simp [results, Tryz.results127, go_sem, *]; try rfl) rfl ?_
   exact ⟨rfl, bel (bel_alloc _ _) (bel_alloc _ _)⟩
  ·have e2 : isPl n c.regs.length = false := by unfold isPl; simp; omega
   have e : regT c.regs n = ⟨0, 0⟩ := by unfold regT; rw [e2]; rfl
   rw [e, e2]
   obtain ⟨N, hN⟩ : ∃ N, c.regs.length = N := ⟨_, rfl⟩
   rw [hN] at h1 HB ⊢
   clear hr hrr e e2 hN
   unfold tyV
   go_enter Tryz.func127, Tryz.ntmps127
   go_wp2
   refine bodyPost_ret (by simp [results, Tryz.results127, go_sem, *]; try rfl) rfl ?_
   exact ⟨rfl, bel (bel_alloc _ _) (bel_alloc _ _)⟩
 ·have e2 : isPl n c.regs.length = false := by unfold isPl; simp; omega
  have e : regT c.regs n = ⟨0, 0⟩ := by unfold regT; rw [e2]; rfl
  rw [e, e2]
  obtain ⟨N, hN⟩ : ∃ N, c.regs.length = N := ⟨_, rfl⟩
  rw [hN] at HB ⊢
  clear hr hrr e e2 hN
  unfold tyV
  go_enter Tryz.func127, Tryz.ntmps127
  go_wp2
  refine bodyPost_ret (by simp [results, Tryz.results127, go_sem, *]; try rfl) rfl ?_
  exact ⟨rfl, bel (bel_alloc _ _) (bel_alloc _ _)⟩
def letR (b : Int) (t d : Ty) : Bool :=
 if b = 110 then t.kind == 1 else if b = 119 then t.kind == 2 else if b = 118 then t.kind == 3 else if b = 100 then t.kind == 1 || t.kind == 3
 else if b = 120 then t.kind == 1 || decide (t = d) else if b = 99 then decide (t = d) || (t.kind == 1 && d.kind == 3) else true
def operR (rs : List Ty) (b n : Int) (d : Ty) : Bool := if b = 45 then n == 0 else isPl n rs.length && letR b (regT rs n) d
set_option maxRecDepth 100000 in
set_option maxHeartbeats 2000000 in
theorem roperand_any (v0 v1 v2 v3 : Value) (c : Cd) (hk : CdOk c) (b n : Int) (d : Ty) (hb : b = 45 ∨ b = 110 ∨ b = 119 ∨ b = 118 ∨ b = 100 ∨ b = 120 ∨ b = 99 ∨ b = 97) (w : World) (hv : CdV w v0 v1 v2 v3 c) :
  Calls Tryz.prog 95 #[.agg #[v0, v1, v2, v3], .int .u8 b, .int .i64 n, tyV d] w fun e w' => e = .returned (.bool (operR c.regs b n d)) ∧ Below w.heap.size w w' := by
 have KT : Hid (∀ v, Below w.heap.size w v → Calls Tryz.prog 127 #[.agg #[v0, v1, v2, v3], .int .i64 n] v fun e w' => e = .returned (.tuple #[tyV (regT c.regs n), .bool (isPl n c.regs.length)]) ∧ Below v.heap.size v w') := fun v h => rtypeOf_any v0 v1 v2 v3 c hk n v (hv.below h)
 unfold operR
 obtain ⟨X, hX⟩ : ∃ X, isPl n c.regs.length = X := ⟨_, rfl⟩
 obtain ⟨⟨K, P⟩, ht⟩ : ∃ t : Ty, regT c.regs n = t := ⟨_, rfl⟩
 rw [hX, ht] at KT ⊢
 clear hX ht hv hk
 obtain ⟨dk, dp⟩ := d
 unfold tyV at KT ⊢
 simp only at KT ⊢
 by_cases h45 : b = 45
 ·subst h45
  rw [if_pos rfl]
  go_enter Tryz.func95, Tryz.ntmps95
  go_wp2
  go_ret
  exact ⟨rfl, bel (bel_alloc _ _) (bel_alloc _ _)⟩
 ·rw [if_neg h45]
  have h45' : (b == 45) = false := by simpa using h45
  cases X
  ·rw [Bool.false_and]
   clear hb h45
   go_enter Tryz.func95, Tryz.ntmps95
   go_wp2_with (go_at_call 127; (with_reducible refine (KT.out _ (bel (bel_alloc _ _) (bel_alloc _ _))).mono ?_); rintro e w1 ⟨rfl, hb1⟩; have f0 : ∀ o, (w1.alloc o).cell? ⟨w.heap.size + 1, 0, none⟩ = some (.int .i64 dk) := (fun o => kc (bel hb1 (bel_alloc _ _)) (by simp [go_sem])); have f1 : ∀ o, (w1.alloc o).cell? ⟨w.heap.size + 1, 1, none⟩ = some (.int .i64 dp) := (fun o => kc (bel hb1 (bel_alloc _ _)) (by simp [go_sem])); have HB1 : Hid _ := hb1; clear hb1)
   go_ret
   exact ⟨rfl, bel (bel (bel_alloc _ _) (bel_alloc _ _)) (bel HB1.out (bel_alloc _ _))⟩
  ·rw [Bool.true_and]
   rcases hb with rfl | rfl | rfl | rfl | rfl | rfl | rfl | rfl
   ·exact absurd rfl h45
   all_goals clear h45 h45'
   all_goals
    cases h1 : (K == 1)
    all_goals
     by_cases hkd : K = dk
     ·subst hkd
      by_cases hpd : P = dp
      ·subst hpd
       go_enter Tryz.func95, Tryz.ntmps95
       go_wp2_with (go_at_call 127; (with_reducible refine (KT.out _ (bel (bel_alloc _ _) (bel_alloc _ _))).mono ?_); rintro e w1 ⟨rfl, hb1⟩; have f0 : ∀ o, (w1.alloc o).cell? ⟨w.heap.size + 1, 0, none⟩ = some (.int .i64 K) := (fun o => kc (bel hb1 (bel_alloc _ _)) (by simp [go_sem])); have f1 : ∀ o, (w1.alloc o).cell? ⟨w.heap.size + 1, 1, none⟩ = some (.int .i64 P) := (fun o => kc (bel hb1 (bel_alloc _ _)) (by simp [go_sem])); have HB1 : Hid _ := hb1; clear hb1)
       go_ret
       refine ⟨ret_bool ?_, bel (bel (bel_alloc _ _) (bel_alloc _ _)) (bel HB1.out (bel_alloc _ _))⟩
       simp [letR, *]
      ·go_enter Tryz.func95, Tryz.ntmps95
       go_wp2_with (go_at_call 127; (with_reducible refine (KT.out _ (bel (bel_alloc _ _) (bel_alloc _ _))).mono ?_); rintro e w1 ⟨rfl, hb1⟩; have f0 : ∀ o, (w1.alloc o).cell? ⟨w.heap.size + 1, 0, none⟩ = some (.int .i64 K) := (fun o => kc (bel hb1 (bel_alloc _ _)) (by simp [go_sem])); have f1 : ∀ o, (w1.alloc o).cell? ⟨w.heap.size + 1, 1, none⟩ = some (.int .i64 dp) := (fun o => kc (bel hb1 (bel_alloc _ _)) (by simp [go_sem])); have HB1 : Hid _ := hb1; clear hb1)
       go_ret
       refine ⟨ret_bool ?_, bel (bel (bel_alloc _ _) (bel_alloc _ _)) (bel HB1.out (bel_alloc _ _))⟩
       simp [letR, *]
     ·go_enter Tryz.func95, Tryz.ntmps95
      go_wp2_with (go_at_call 127; (with_reducible refine (KT.out _ (bel (bel_alloc _ _) (bel_alloc _ _))).mono ?_); rintro e w1 ⟨rfl, hb1⟩; have f0 : ∀ o, (w1.alloc o).cell? ⟨w.heap.size + 1, 0, none⟩ = some (.int .i64 dk) := (fun o => kc (bel hb1 (bel_alloc _ _)) (by simp [go_sem])); have f1 : ∀ o, (w1.alloc o).cell? ⟨w.heap.size + 1, 1, none⟩ = some (.int .i64 dp) := (fun o => kc (bel hb1 (bel_alloc _ _)) (by simp [go_sem])); have HB1 : Hid _ := hb1; clear hb1)
      go_ret
      refine ⟨ret_bool ?_, bel (bel (bel_alloc _ _) (bel_alloc _ _)) (bel HB1.out (bel_alloc _ _))⟩
      simp [letR, *]
end Go.Proofs.YtgcmnkanjcfndaaGreatDoor
namespace Go.Proofs.YtgcmnkanjcfndaaGreatDoor
open Go.RowKit
set_option linter.unusedVariables false
set_option linter.unusedSimpArgs false
set_option maxRecDepth 100000 in
set_option maxHeartbeats 1000000 in
theorem rpart_any (v0 v1 v2 v3 : Value) (c : Cd) (hk : CdOk c) (n p : Int) (hp : n = 1 → isPl p c.sign.length = true) (w : World) (hv : CdV w v0 v1 v2 v3 c) :
  Calls Tryz.prog 96 #[.agg #[v0, v1, v2, v3], .int .i64 n, .int .i64 p] w fun e w' => e = .returned (.bool (n == 0 || (n == 1 && kindOf c.sign p == 2))) ∧ Below w.heap.size w w' := by
 have HB := hk.signL
 by_cases h0 : n = 0
 ·subst h0
  clear hp hv
  go_enter Tryz.func96, Tryz.ntmps96
  go_wp2
  go_ret
  exact ⟨rfl, bel_alloc _ _⟩
 ·have h0' : (n == 0) = false := by simpa using h0
  by_cases h1 : n = 1
  ·subst h1
   obtain ⟨k, rfl, hkl⟩ := pl_nat (hp rfl)
   have hr := hv.sign
   obtain ⟨p, q, rfl, hrr⟩ := hv.sign
   obtain ⟨lb, lo, rfl, hc⟩ := hr.at hkl
   have e : kindOf c.sign (k : Int) = c.sign[k].kind := by unfold kindOf; rw [Int.toNat_natCast, List.getElem?_eq_getElem hkl]; rfl
   rw [e]
   obtain ⟨⟨nm, K, L⟩, ht⟩ : ∃ t : Par, c.sign[k] = t := ⟨_, rfl⟩
   rw [ht] at hc ⊢
   have y1 : w.cell? ⟨lb, lo + k * 3 + 1, none⟩ = some (.int .i64 K) := hc.at 1 rfl
   have g1 : ∀ o, (w.alloc o).cell? ⟨lb, lo + k * 3 + 1, none⟩ = some (.int .i64 K) := fun o => kc (bel_alloc _ _) y1
   obtain ⟨N, hN⟩ : ∃ N, c.sign.length = N := ⟨_, rfl⟩
   rw [hN] at hkl HB ⊢
   clear hr hrr hc ht e hp hv hN h0 hk
   simp only
   go_enter Tryz.func96, Tryz.ntmps96
   go_wp2
   go_ret
   exact ⟨ret_bool (by simp), bel_alloc _ _⟩
  ·have h1' : (n == 1) = false := by simpa using h1
   rw [h0', h1']
   clear hp hv h0 h1
   go_enter Tryz.func96, Tryz.ntmps96
   go_wp2
   go_ret
   exact ⟨rfl, bel_alloc _ _⟩
def vecN (i : Ins) : Int := if elemP i.op || (i.op == 29 || (i.op == 30 || i.op == 32)) then i.d else if i.op == 31 || i.op == 33 then i.a else -1
def vecR (rs : List Ty) (n : Int) : Int := if isPl n rs.length && (regT rs n).kind == 3 then (regT rs n).par else -1
set_option maxRecDepth 100000 in
set_option maxHeartbeats 2000000 in
theorem rvector_any (v0 v1 v2 v3 : Value) (c : Cd) (hk : CdOk c) (i : Ins) (w : World) (hv : CdV w v0 v1 v2 v3 c) :
  Calls Tryz.prog 67 #[.agg #[v0, v1, v2, v3], insV i] w fun e w' => e = .returned (.int .i64 (vecR c.regs (vecN i))) ∧ Below w.heap.size w w' := by
 have HB := hk.regsL
 have KE : Hid (∀ v, Calls Tryz.prog 97 #[.int .i64 i.op] v fun e w' => e = .returned (.bool (elemP i.op)) ∧ w' = v) := relem_any i.op
 have hr := hv.regs
 obtain ⟨p, q, rfl, hrr⟩ := hv.regs
 clear hv hk hrr
 obtain ⟨op, D, A, B, E, nn, bb⟩ := i
 unfold insV
 simp only at KE ⊢
 -- the cells that an index within the list finds
 have key : ∀ n : Int, (isPl n c.regs.length = false ∧ vecR c.regs n = -1) ∨ ∃ (k : Nat) (lb lo : Nat) (K P : Int), n = (k : Int) ∧ k < c.regs.length ∧ p = some ⟨lb, lo, none⟩ ∧ w.cell? ⟨lb, lo + k * 2, none⟩ = some (.int .i64 K) ∧ w.cell? ⟨lb, lo + k * 2 + 1, none⟩ = some (.int .i64 P) ∧ vecR c.regs n = if K == 3 then P else -1 := by
  intro n
  cases h : isPl n c.regs.length
  ·exact .inl ⟨rfl, by unfold vecR; rw [h]; rfl⟩
  ·obtain ⟨k, rfl, hkl⟩ := pl_nat h
   obtain ⟨lb, lo, hp, hc⟩ := hr.at hkl
   refine .inr ⟨k, lb, lo, c.regs[k].kind, c.regs[k].par, rfl, hkl, hp, hc.at 0 rfl, hc.at 1 rfl, ?_⟩
   unfold vecR
   rw [h, regT_at rfl hkl, Bool.true_and]
 obtain ⟨N, hN⟩ : ∃ N, c.regs.length = N := ⟨_, rfl⟩
 rw [hN] at HB key ⊢
 clear hr
 cases hX : elemP op
 ·rw [hX] at KE
  by_cases a29 : op = 29
  ·subst a29
   rw [show vecN ⟨29, D, A, B, E, nn, bb⟩ = D from rfl]
   rcases key D with ⟨hpl, e9⟩ | ⟨k, lb, lo, K, P, rfl, hkl, rfl, y0, y1, e9⟩
   ·rw [e9]
    clear key e9
    by_cases h0 : D < 0
    ·go_enter Tryz.func67, Tryz.ntmps67
     go_wp2_with (go_at_call 97; (with_reducible refine (KE.out _).mono ?_); rintro e w1 ⟨rfl, rfl⟩)
     go_ret
     refine ⟨?_, bel (bel_alloc _ _) (bel_alloc _ _)⟩
     first | rfl | simp [*]
    ·have h1 : (N : Int) ≤ D := by unfold isPl at hpl; simp at hpl; omega
     go_enter Tryz.func67, Tryz.ntmps67
     go_wp2_with (go_at_call 97; (with_reducible refine (KE.out _).mono ?_); rintro e w1 ⟨rfl, rfl⟩)
     go_ret
     refine ⟨?_, bel (bel_alloc _ _) (bel_alloc _ _)⟩
     first | rfl | simp [*]
   ·rw [e9]
    clear key e9
    have g0 : ∀ o o', ((w.alloc o).alloc o').cell? ⟨lb, lo + k * 2, none⟩ = some (.int .i64 K) := fun o o' => kc (bel (bel_alloc _ _) (bel_alloc _ _)) y0
    have g1 : ∀ o o', ((w.alloc o).alloc o').cell? ⟨lb, lo + k * 2 + 1, none⟩ = some (.int .i64 P) := fun o o' => kc (bel (bel_alloc _ _) (bel_alloc _ _)) y1
    by_cases h3 : K = 3
    ·subst h3
     go_enter Tryz.func67, Tryz.ntmps67
     go_wp2_with (go_at_call 97; (with_reducible refine (KE.out _).mono ?_); rintro e w1 ⟨rfl, rfl⟩)
     go_ret
     refine ⟨?_, bel (bel_alloc _ _) (bel_alloc _ _)⟩
     first | rfl | simp [*]
    ·have h3' : (K == 3) = false := by simpa using h3
     have h3b : (K != 3) = true := by simpa using h3
     rw [h3']
     clear h3
     go_enter Tryz.func67, Tryz.ntmps67
     go_wp2_with (go_at_call 97; (with_reducible refine (KE.out _).mono ?_); rintro e w1 ⟨rfl, rfl⟩)
     go_ret
     refine ⟨?_, bel (bel_alloc _ _) (bel_alloc _ _)⟩
     first | rfl | simp [*]
  by_cases a30 : op = 30
  ·subst a30
   rw [show vecN ⟨30, D, A, B, E, nn, bb⟩ = D from rfl]
   rcases key D with ⟨hpl, e9⟩ | ⟨k, lb, lo, K, P, rfl, hkl, rfl, y0, y1, e9⟩
   ·rw [e9]
    clear key e9
    by_cases h0 : D < 0
    ·go_enter Tryz.func67, Tryz.ntmps67
     go_wp2_with (go_at_call 97; (with_reducible refine (KE.out _).mono ?_); rintro e w1 ⟨rfl, rfl⟩)
     go_ret
     refine ⟨?_, bel (bel_alloc _ _) (bel_alloc _ _)⟩
     first | rfl | simp [*]
    ·have h1 : (N : Int) ≤ D := by unfold isPl at hpl; simp at hpl; omega
     go_enter Tryz.func67, Tryz.ntmps67
     go_wp2_with (go_at_call 97; (with_reducible refine (KE.out _).mono ?_); rintro e w1 ⟨rfl, rfl⟩)
     go_ret
     refine ⟨?_, bel (bel_alloc _ _) (bel_alloc _ _)⟩
     first | rfl | simp [*]
   ·rw [e9]
    clear key e9
    have g0 : ∀ o o', ((w.alloc o).alloc o').cell? ⟨lb, lo + k * 2, none⟩ = some (.int .i64 K) := fun o o' => kc (bel (bel_alloc _ _) (bel_alloc _ _)) y0
    have g1 : ∀ o o', ((w.alloc o).alloc o').cell? ⟨lb, lo + k * 2 + 1, none⟩ = some (.int .i64 P) := fun o o' => kc (bel (bel_alloc _ _) (bel_alloc _ _)) y1
    by_cases h3 : K = 3
    ·subst h3
     go_enter Tryz.func67, Tryz.ntmps67
     go_wp2_with (go_at_call 97; (with_reducible refine (KE.out _).mono ?_); rintro e w1 ⟨rfl, rfl⟩)
     go_ret
     refine ⟨?_, bel (bel_alloc _ _) (bel_alloc _ _)⟩
     first | rfl | simp [*]
    ·have h3' : (K == 3) = false := by simpa using h3
     have h3b : (K != 3) = true := by simpa using h3
     rw [h3']
     clear h3
     go_enter Tryz.func67, Tryz.ntmps67
     go_wp2_with (go_at_call 97; (with_reducible refine (KE.out _).mono ?_); rintro e w1 ⟨rfl, rfl⟩)
     go_ret
     refine ⟨?_, bel (bel_alloc _ _) (bel_alloc _ _)⟩
     first | rfl | simp [*]
  by_cases a32 : op = 32
  ·subst a32
   rw [show vecN ⟨32, D, A, B, E, nn, bb⟩ = D from rfl]
   rcases key D with ⟨hpl, e9⟩ | ⟨k, lb, lo, K, P, rfl, hkl, rfl, y0, y1, e9⟩
   ·rw [e9]
    clear key e9
    by_cases h0 : D < 0
    ·go_enter Tryz.func67, Tryz.ntmps67
     go_wp2_with (go_at_call 97; (with_reducible refine (KE.out _).mono ?_); rintro e w1 ⟨rfl, rfl⟩)
     go_ret
     refine ⟨?_, bel (bel_alloc _ _) (bel_alloc _ _)⟩
     first | rfl | simp [*]
    ·have h1 : (N : Int) ≤ D := by unfold isPl at hpl; simp at hpl; omega
     go_enter Tryz.func67, Tryz.ntmps67
     go_wp2_with (go_at_call 97; (with_reducible refine (KE.out _).mono ?_); rintro e w1 ⟨rfl, rfl⟩)
     go_ret
     refine ⟨?_, bel (bel_alloc _ _) (bel_alloc _ _)⟩
     first | rfl | simp [*]
   ·rw [e9]
    clear key e9
    have g0 : ∀ o o', ((w.alloc o).alloc o').cell? ⟨lb, lo + k * 2, none⟩ = some (.int .i64 K) := fun o o' => kc (bel (bel_alloc _ _) (bel_alloc _ _)) y0
    have g1 : ∀ o o', ((w.alloc o).alloc o').cell? ⟨lb, lo + k * 2 + 1, none⟩ = some (.int .i64 P) := fun o o' => kc (bel (bel_alloc _ _) (bel_alloc _ _)) y1
    by_cases h3 : K = 3
    ·subst h3
     go_enter Tryz.func67, Tryz.ntmps67
     go_wp2_with (go_at_call 97; (with_reducible refine (KE.out _).mono ?_); rintro e w1 ⟨rfl, rfl⟩)
     go_ret
     refine ⟨?_, bel (bel_alloc _ _) (bel_alloc _ _)⟩
     first | rfl | simp [*]
    ·have h3' : (K == 3) = false := by simpa using h3
     have h3b : (K != 3) = true := by simpa using h3
     rw [h3']
     clear h3
     go_enter Tryz.func67, Tryz.ntmps67
     go_wp2_with (go_at_call 97; (with_reducible refine (KE.out _).mono ?_); rintro e w1 ⟨rfl, rfl⟩)
     go_ret
     refine ⟨?_, bel (bel_alloc _ _) (bel_alloc _ _)⟩
     first | rfl | simp [*]
  by_cases a31 : op = 31
  ·subst a31
   rw [show vecN ⟨31, D, A, B, E, nn, bb⟩ = A from rfl]
   rcases key A with ⟨hpl, e9⟩ | ⟨k, lb, lo, K, P, rfl, hkl, rfl, y0, y1, e9⟩
   ·rw [e9]
    clear key e9
    by_cases h0 : A < 0
    ·go_enter Tryz.func67, Tryz.ntmps67
     go_wp2_with (go_at_call 97; (with_reducible refine (KE.out _).mono ?_); rintro e w1 ⟨rfl, rfl⟩)
     go_ret
     refine ⟨?_, bel (bel_alloc _ _) (bel_alloc _ _)⟩
     first | rfl | simp [*]
    ·have h1 : (N : Int) ≤ A := by unfold isPl at hpl; simp at hpl; omega
     go_enter Tryz.func67, Tryz.ntmps67
     go_wp2_with (go_at_call 97; (with_reducible refine (KE.out _).mono ?_); rintro e w1 ⟨rfl, rfl⟩)
     go_ret
     refine ⟨?_, bel (bel_alloc _ _) (bel_alloc _ _)⟩
     first | rfl | simp [*]
   ·rw [e9]
    clear key e9
    have g0 : ∀ o o', ((w.alloc o).alloc o').cell? ⟨lb, lo + k * 2, none⟩ = some (.int .i64 K) := fun o o' => kc (bel (bel_alloc _ _) (bel_alloc _ _)) y0
    have g1 : ∀ o o', ((w.alloc o).alloc o').cell? ⟨lb, lo + k * 2 + 1, none⟩ = some (.int .i64 P) := fun o o' => kc (bel (bel_alloc _ _) (bel_alloc _ _)) y1
    by_cases h3 : K = 3
    ·subst h3
     go_enter Tryz.func67, Tryz.ntmps67
     go_wp2_with (go_at_call 97; (with_reducible refine (KE.out _).mono ?_); rintro e w1 ⟨rfl, rfl⟩)
     go_ret
     refine ⟨?_, bel (bel_alloc _ _) (bel_alloc _ _)⟩
     first | rfl | simp [*]
    ·have h3' : (K == 3) = false := by simpa using h3
     have h3b : (K != 3) = true := by simpa using h3
     rw [h3']
     clear h3
     go_enter Tryz.func67, Tryz.ntmps67
     go_wp2_with (go_at_call 97; (with_reducible refine (KE.out _).mono ?_); rintro e w1 ⟨rfl, rfl⟩)
     go_ret
     refine ⟨?_, bel (bel_alloc _ _) (bel_alloc _ _)⟩
     first | rfl | simp [*]
  by_cases a33 : op = 33
  ·subst a33
   rw [show vecN ⟨33, D, A, B, E, nn, bb⟩ = A from rfl]
   rcases key A with ⟨hpl, e9⟩ | ⟨k, lb, lo, K, P, rfl, hkl, rfl, y0, y1, e9⟩
   ·rw [e9]
    clear key e9
    by_cases h0 : A < 0
    ·go_enter Tryz.func67, Tryz.ntmps67
     go_wp2_with (go_at_call 97; (with_reducible refine (KE.out _).mono ?_); rintro e w1 ⟨rfl, rfl⟩)
     go_ret
     refine ⟨?_, bel (bel_alloc _ _) (bel_alloc _ _)⟩
     first | rfl | simp [*]
    ·have h1 : (N : Int) ≤ A := by unfold isPl at hpl; simp at hpl; omega
     go_enter Tryz.func67, Tryz.ntmps67
     go_wp2_with (go_at_call 97; (with_reducible refine (KE.out _).mono ?_); rintro e w1 ⟨rfl, rfl⟩)
     go_ret
     refine ⟨?_, bel (bel_alloc _ _) (bel_alloc _ _)⟩
     first | rfl | simp [*]
   ·rw [e9]
    clear key e9
    have g0 : ∀ o o', ((w.alloc o).alloc o').cell? ⟨lb, lo + k * 2, none⟩ = some (.int .i64 K) := fun o o' => kc (bel (bel_alloc _ _) (bel_alloc _ _)) y0
    have g1 : ∀ o o', ((w.alloc o).alloc o').cell? ⟨lb, lo + k * 2 + 1, none⟩ = some (.int .i64 P) := fun o o' => kc (bel (bel_alloc _ _) (bel_alloc _ _)) y1
    by_cases h3 : K = 3
    ·subst h3
     go_enter Tryz.func67, Tryz.ntmps67
     go_wp2_with (go_at_call 97; (with_reducible refine (KE.out _).mono ?_); rintro e w1 ⟨rfl, rfl⟩)
     go_ret
     refine ⟨?_, bel (bel_alloc _ _) (bel_alloc _ _)⟩
     first | rfl | simp [*]
    ·have h3' : (K == 3) = false := by simpa using h3
     have h3b : (K != 3) = true := by simpa using h3
     rw [h3']
     clear h3
     go_enter Tryz.func67, Tryz.ntmps67
     go_wp2_with (go_at_call 97; (with_reducible refine (KE.out _).mono ?_); rintro e w1 ⟨rfl, rfl⟩)
     go_ret
     refine ⟨?_, bel (bel_alloc _ _) (bel_alloc _ _)⟩
     first | rfl | simp [*]
  ·have b29 : (op == 29) = false := by simpa using a29
   have b30 : (op == 30) = false := by simpa using a30
   have b31 : (op == 31) = false := by simpa using a31
   have b32 : (op == 32) = false := by simpa using a32
   have b33 : (op == 33) = false := by simpa using a33
   rw [show vecN ⟨op, D, A, B, E, nn, bb⟩ = -1 by unfold vecN; simp [hX, b29, b30, b31, b32, b33]]
   rw [show vecR c.regs (-1) = -1 by unfold vecR isPl; simp]
   clear key a29 a30 a31 a32 a33
   go_enter Tryz.func67, Tryz.ntmps67
   go_wp2_with (go_at_call 97; (with_reducible refine (KE.out _).mono ?_); rintro e w1 ⟨rfl, rfl⟩)
   go_ret
   refine ⟨?_, bel (bel_alloc _ _) (bel_alloc _ _)⟩
   first | rfl | simp [*]
 ·rw [hX] at KE
  rw [show vecN ⟨op, D, A, B, E, nn, bb⟩ = D by unfold vecN; simp [hX]]
  rcases key D with ⟨hpl, e9⟩ | ⟨k, lb, lo, K, P, rfl, hkl, rfl, y0, y1, e9⟩
  ·rw [e9]
   clear key e9
   by_cases h0 : D < 0
   ·go_enter Tryz.func67, Tryz.ntmps67
    go_wp2_with (go_at_call 97; (with_reducible refine (KE.out _).mono ?_); rintro e w1 ⟨rfl, rfl⟩)
    go_ret
    refine ⟨?_, bel (bel_alloc _ _) (bel_alloc _ _)⟩
    first | rfl | simp [*]
   ·have h1 : (N : Int) ≤ D := by unfold isPl at hpl; simp at hpl; omega
    go_enter Tryz.func67, Tryz.ntmps67
    go_wp2_with (go_at_call 97; (with_reducible refine (KE.out _).mono ?_); rintro e w1 ⟨rfl, rfl⟩)
    go_ret
    refine ⟨?_, bel (bel_alloc _ _) (bel_alloc _ _)⟩
    first | rfl | simp [*]
  ·rw [e9]
   clear key e9
   have g0 : ∀ o o', ((w.alloc o).alloc o').cell? ⟨lb, lo + k * 2, none⟩ = some (.int .i64 K) := fun o o' => kc (bel (bel_alloc _ _) (bel_alloc _ _)) y0
   have g1 : ∀ o o', ((w.alloc o).alloc o').cell? ⟨lb, lo + k * 2 + 1, none⟩ = some (.int .i64 P) := fun o o' => kc (bel (bel_alloc _ _) (bel_alloc _ _)) y1
   by_cases h3 : K = 3
   ·subst h3
    go_enter Tryz.func67, Tryz.ntmps67
    go_wp2_with (go_at_call 97; (with_reducible refine (KE.out _).mono ?_); rintro e w1 ⟨rfl, rfl⟩)
    go_ret
    refine ⟨?_, bel (bel_alloc _ _) (bel_alloc _ _)⟩
    first | rfl | simp [*]
   ·have h3' : (K == 3) = false := by simpa using h3
    have h3b : (K != 3) = true := by simpa using h3
    rw [h3']
    clear h3
    go_enter Tryz.func67, Tryz.ntmps67
    go_wp2_with (go_at_call 97; (with_reducible refine (KE.out _).mono ?_); rintro e w1 ⟨rfl, rfl⟩)
    go_ret
    refine ⟨?_, bel (bel_alloc _ _) (bel_alloc _ _)⟩
    first | rfl | simp [*]
end Go.Proofs.YtgcmnkanjcfndaaGreatDoor
namespace Go.Proofs.YtgcmnkanjcfndaaGreatDoor
set_option linter.unusedVariables false
def V (p k : Nat) : Nat := if k < 2 ^ p then k else (2 ^ p + k % 2 ^ p) * 2 ^ (k / 2 ^ p - 1)
theorem V_at (p t k : Nat) (h : k ≤ 2 * 2 ^ p) (h' : t = 0 ∨ 2 ^ p ≤ k) : V p (t * 2 ^ p + k) = k * 2 ^ t := by
 unfold V
 have hB : 0 < 2 ^ p := Nat.two_pow_pos p
 generalize 2 ^ p = B at *
 rcases Nat.lt_or_ge k B with c | c
 ·have : t = 0 := by omega
  subst this
  simp [c]
 ·have hge : ¬ (t * B + k < B) := by have := Nat.zero_le (t * B); omega
  rw [if_neg hge]
  rcases Nat.lt_or_ge k (2 * B) with c2 | c2
  ·have e1 : (t * B + k) % B = k - B := by
    have : t * B + k = (k - B) + B * (t + 1) := by rw [Nat.mul_add, Nat.mul_comm]; omega
    rw [this, Nat.add_mul_mod_self_left, Nat.mod_eq_of_lt (by omega)]
   have e2 : (t * B + k) / B = t + 1 := by
    have : t * B + k = (k - B) + B * (t + 1) := by rw [Nat.mul_add, Nat.mul_comm]; omega
    rw [this, Nat.add_mul_div_left _ _ hB, Nat.div_eq_of_lt (by omega)]; omega
   rw [e1, e2, show B + (k - B) = k by omega, Nat.add_sub_cancel]
  ·have hk : k = 2 * B := by omega
   subst hk
   have e0 : t * B + 2 * B = 0 + B * (t + 2) := by rw [Nat.mul_add, Nat.mul_comm]; omega
   rw [e0, Nat.add_mul_mod_self_left, Nat.add_mul_div_left _ _ hB, Nat.zero_mod, Nat.zero_div]
   rw [show 0 + (t + 2) - 1 = t + 1 by omega, Nat.pow_succ]
   grind
theorem rung_split (p r : Nat) : ∃ t k, r = t * 2 ^ p + k ∧ k < 2 * 2 ^ p ∧ (t = 0 ∨ 2 ^ p ≤ k) ∧ t = r / 2 ^ p - 1 := by
 have hB : 0 < 2 ^ p := Nat.two_pow_pos p
 generalize 2 ^ p = B at *
 have hd := Nat.div_add_mod r B
 have hm := Nat.mod_lt r hB
 rcases Nat.lt_or_ge r B with c | c
 ·exact ⟨0, r, by omega, by omega, Or.inl rfl, by rw [Nat.div_eq_of_lt c]⟩
 ·have : 1 ≤ r / B := (Nat.le_div_iff_mul_le hB).2 (by omega)
  obtain ⟨t, ht⟩ : ∃ t, r / B = t + 1 := ⟨r / B - 1, by omega⟩
  refine ⟨t, B + r % B, ?_, by omega, Or.inr (by omega), by omega⟩
  rw [ht, Nat.mul_add, Nat.mul_comm] at hd
  omega
theorem V_step (p r : Nat) : V p (r + 1) = V p r + 2 ^ (r / 2 ^ p - 1) := by
 obtain ⟨t, k, hr, hk, h, ht⟩ := rung_split p r
 have e1 : V p r = k * 2 ^ t := by rw [hr]; exact V_at p t k (by omega) h
 have e2 : V p (r + 1) = (k + 1) * 2 ^ t := by rw [hr, Nat.add_assoc]; exact V_at p t (k + 1) (by omega) (by omega)
 rw [e1, e2, ← ht, Nat.add_mul, Nat.one_mul]
theorem V_lt_succ (p r : Nat) : V p r < V p (r + 1) := by
 rw [V_step]; have := Nat.two_pow_pos (r / 2 ^ p - 1); omega
theorem V_lt (p : Nat) {r s : Nat} (h : r < s) : V p r < V p s := by
 induction s with
 | zero => omega
 | succ s ih =>
  rcases Nat.lt_or_ge r s with c | c
  ·exact Nat.lt_trans (ih c) (V_lt_succ p s)
  ·have : r = s := by omega
   subst this; exact V_lt_succ p r
theorem V_inj (p : Nat) {r s : Nat} (h : V p r = V p s) : r = s := by
 rcases Nat.lt_trichotomy r s with c | c | c
 ·have := V_lt p c; omega
 ·exact c
 ·have := V_lt p c; omega
theorem V_zero (p : Nat) : V p 0 = 0 := by
 have hB : 0 < 2 ^ p := Nat.two_pow_pos p
 simp [V, hB]
structure Cut (n d k t : Nat) : Prop where
 up : 2 * n ≤ (2 * k + 1) * 2 ^ t * d
 ue : 2 * n = (2 * k + 1) * 2 ^ t * d → k % 2 = 0
 dn : 2 * k * 2 ^ t * d ≤ 2 * n + 2 ^ t * d
 de : 2 * k * 2 ^ t * d = 2 * n + 2 ^ t * d → k % 2 = 0
def rungOf (p : Nat) (L : Int) (mag : Nat) (place : Int) : Nat :=
 if mag = 0 then 0 else
 (max (place + mag.log2 - p) L - L).toNat * 2 ^ p + Ieee.Toward.even.cut false (mag <<< (place - max (place + mag.log2 - p) L).toNat) (max (place + mag.log2 - p) L - place).toNat
def ng (a : Nat) : Bool := a / 2147483648 % 2 == 1
def rg (a : Nat) : Nat := a % 2147483648
def te (a : Nat) : Nat := rg a / 8388608 - 1
def mv (a : Nat) : Nat := V 23 (rg a)
def sg (s : Bool) (m : Nat) : Int := if s then -(m : Int) else m
def sv (a : Nat) : Int := sg (ng a) (mv a)
def R (n : Nat) : Nat := rungOf 23 (-149) n (-149)
end Go.Proofs.YtgcmnkanjcfndaaGreatDoor
namespace Go.Proofs.YtgcmnkanjcfndaaGreatDoor
set_option linter.unusedVariables false
section
variable {P : Program} (w : World)
end
end Go.Proofs.YtgcmnkanjcfndaaGreatDoor
namespace Go.Proofs.YtgcmnkanjcfndaaGreatDoor
open Go.RowKit
end Go.Proofs.YtgcmnkanjcfndaaGreatDoor
namespace Go.Proofs.YtgcmnkanjcfndaaGreatDoor
open Go.RowKit
set_option linter.unusedVariables false
section
variable {P : Program} (w : World)
end
end Go.Proofs.YtgcmnkanjcfndaaGreatDoor
namespace Go.Proofs.YtgcmnkanjcfndaaGreatDoor
open Go.RowKit
set_option linter.unusedVariables false
section
variable {P : Program} (w : World)
end
end Go.Proofs.YtgcmnkanjcfndaaGreatDoor
namespace Go.Proofs.YtgcmnkanjcfndaaGreatDoor
set_option linter.unusedVariables false
theorem rg_toNat (a : Int) (h0 : 0 ≤ a) : (rg a.toNat : Int) = a % 2147483648 := by unfold rg; omega
theorem sv_inj {x y : Nat} (h : sv x = sv y) : rg x = rg y ∧ (ng x = ng y ∨ rg x = 0) := by
 have hz : ∀ z, mv z = 0 → rg z = 0 := by
  intro z hz; unfold mv at hz; rw [← V_zero 23] at hz; exact V_inj 23 hz
 have key : mv x = mv y ∧ (ng x = ng y ∨ mv x = 0) := by
  unfold sv sg at h
  cases hx : ng x <;> cases hy : ng y <;> rw [hx, hy] at h <;> simp only [if_true, if_false, Bool.false_eq_true] at h
  ·exact ⟨by omega, Or.inl rfl⟩
  ·exact ⟨by omega, Or.inr (by omega)⟩
  ·exact ⟨by omega, Or.inr (by omega)⟩
  ·exact ⟨by omega, Or.inl rfl⟩
 refine ⟨V_inj 23 key.1, ?_⟩
 rcases key.2 with e | e
 ·exact Or.inl e
 ·exact Or.inr (hz x e)
theorem toNat_parts (a : Int) (h0 : 0 ≤ a) (h1 : a < 4294967296) : a = (if ng a.toNat then 2147483648 else 0) + (rg a.toNat : Int) := by
 unfold ng rg; by_cases c : 2147483648 ≤ a
 ·have : a.toNat / 2147483648 % 2 = 1 := by omega
  simp [this]; omega
 ·have : a.toNat / 2147483648 % 2 = 0 := by omega
  simp [this]; omega
theorem pat_ext {a b : Int} (h0 : 0 ≤ a) (h1 : a < 4294967296) (g0 : 0 ≤ b) (g1 : b < 4294967296) (hr : rg a.toNat = rg b.toNat) (hs : ng a.toNat = ng b.toNat) : a = b := by
 rw [toNat_parts a h0 h1, toNat_parts b g0 g1, hr, hs]
end Go.Proofs.YtgcmnkanjcfndaaGreatDoor
namespace Go.Proofs.YtgcmnkanjcfndaaGreatDoor
open Go.RowKit
set_option linter.unusedVariables false
end Go.Proofs.YtgcmnkanjcfndaaGreatDoor
namespace Go.Proofs.YtgcmnkanjcfndaaGreatDoor
open Go.RowKit
set_option linter.unusedVariables false
theorem and_mask64 (a : Int) (k : Nat) (hk : k < 64) (h0 : 0 ≤ a) (h1 : a < 18446744073709551616) : bits .and .u64 a ((2 ^ k - 1 : Nat) : Int) = a % ((2 ^ k : Nat) : Int) := by
 have hp : 2 ^ k < 2 ^ 64 := Nat.pow_lt_pow_right (by omega) hk
 have hq : 0 < 2 ^ k := Nat.two_pow_pos k
 obtain ⟨n, rfl⟩ := Int.eq_ofNat_of_zero_le h0
 rw [u64_and _ _ h0 h1 (by omega) (by omega), Int.toNat_natCast, Int.toNat_natCast, Nat.and_two_pow_sub_one_eq_mod]
 rfl
theorem and64_8 (a : Int) (h0 : 0 ≤ a) (h1 : a < 18446744073709551616) : bits .and .u64 a 255 = a % 256 := and_mask64 a 8 (by decide) h0 h1
theorem and64_23 (a : Int) (h0 : 0 ≤ a) (h1 : a < 18446744073709551616) : bits .and .u64 a 8388607 = a % 8388608 := and_mask64 a 23 (by decide) h0 h1
def nMin (a : Int) : Bool := a / 2147483648 == 1
def nM (a : Int) : Int := if a / 8388608 % 256 = 255 then 0 else if a / 8388608 % 256 = 0 then a % 8388608 else 8388608 + a % 8388608
def nE (a : Int) : Int := if a / 8388608 % 256 = 255 then 0 else if a / 8388608 % 256 = 0 then -149 else a / 8388608 % 256 - 150
def nInf (a : Int) : Bool := if a / 8388608 % 256 = 255 then a % 8388608 == 0 else false
def nNan (a : Int) : Bool := if a / 8388608 % 256 = 255 then a % 8388608 != 0 else false
set_option maxHeartbeats 400000 in
theorem rof_any (a : Int) (h0 : 0 ≤ a) (h1 : a < 4294967296) (w : World) :
  Calls Tryz.prog 126 #[.int .i64 a] w fun e w' => e = .returned (.agg #[.bool (nMin a), .int .u64 (nM a), .int .i64 (nE a), .bool (nInf a), .bool (nNan a)]) ∧ ∃ o, w' = (w.alloc o).alloc o := by
 have e1 := and64_8 (a / 8388608) (by omega) (by omega)
 have e2 := and64_23 a h0 (by omega)
 by_cases c : a / 8388608 % 256 = 255
 ·have f1 : nM a = 0 := by unfold nM; rw [if_pos c]
  have f2 : nE a = 0 := by unfold nE; rw [if_pos c]
  have f3 : nInf a = (a % 8388608 == 0) := by unfold nInf; rw [if_pos c]
  have f4 : nNan a = (a % 8388608 != 0) := by unfold nNan; rw [if_pos c]
  rw [f1, f2, f3, f4]; unfold nMin; clear f1 f2 f3 f4
  go_enter Tryz.func126, Tryz.ntmps126
  go_wp2
  go_returns
  exact ⟨rfl, _, rfl⟩
 ·by_cases c2 : a / 8388608 % 256 = 0
  ·have f1 : nM a = a % 8388608 := by unfold nM; rw [if_neg c, if_pos c2]
   have f2 : nE a = -149 := by unfold nE; rw [if_neg c, if_pos c2]
   have f3 : nInf a = false := by unfold nInf; rw [if_neg c]
   have f4 : nNan a = false := by unfold nNan; rw [if_neg c]
   rw [f1, f2, f3, f4]; unfold nMin; clear f1 f2 f3 f4
   go_enter Tryz.func126, Tryz.ntmps126
   go_wp2
   go_returns
   exact ⟨rfl, _, rfl⟩
  ·have f1 : nM a = 8388608 + a % 8388608 := by unfold nM; rw [if_neg c, if_neg c2]
   have f2 : nE a = a / 8388608 % 256 - 150 := by unfold nE; rw [if_neg c, if_neg c2]
   have f3 : nInf a = false := by unfold nInf; rw [if_neg c]
   have f4 : nNan a = false := by unfold nNan; rw [if_neg c]
   rw [f1, f2, f3, f4]; unfold nMin; clear f1 f2 f3 f4
   go_enter Tryz.func126, Tryz.ntmps126
   go_wp2
   go_returns
   exact ⟨rfl, _, rfl⟩
end Go.Proofs.YtgcmnkanjcfndaaGreatDoor
namespace Go.Proofs.YtgcmnkanjcfndaaGreatDoor
open Go.RowKit
set_option linter.unusedVariables false
end Go.Proofs.YtgcmnkanjcfndaaGreatDoor
namespace Go.Proofs.YtgcmnkanjcfndaaGreatDoor
open Go.RowKit
set_option linter.unusedVariables false
theorem nNan_iff (a : Int) (h0 : 0 ≤ a) (h1 : a < 4294967296) : nNan a = nan a := by
 unfold nNan nan
 by_cases c : a / 8388608 % 256 = 255
 ·rw [if_pos c]
  by_cases d : a % 8388608 = 0
  ·have : ¬ (2139095040 < a % 2147483648) := by omega
   simp [d, this]
  ·have : 2139095040 < a % 2147483648 := by omega
   simp [d, this]
 ·rw [if_neg c]; have : ¬ (2139095040 < a % 2147483648) := by omega
  simp [this]
theorem field_nan (w : World) (v0 v1 v2 v3 v4 : Value) : (Instr.field 180 (.agg #[v0, v1, v2, v3, v4]) 4).run Tryz.prog w = .ok v4 w := by
 simp [Instr.field, run_underlying Tryz.underlying180, asAgg, part, go_sem]
end Go.Proofs.YtgcmnkanjcfndaaGreatDoor
namespace Go.Proofs.YtgcmnkanjcfndaaGreatDoor
open Go.RowKit
set_option linter.unusedVariables false
theorem mv_zero (x : Nat) : mv x = 0 ↔ rg x = 0 := by
 unfold mv
 constructor
 ·intro h; rw [← V_zero 23] at h; exact V_inj 23 h
 ·intro h; rw [h, V_zero]
theorem noughts (a b : Int) (h0 : 0 ≤ a) (h1 : a < 4294967296) (g0 : 0 ≤ b) (g1 : b < 4294967296) : sv a.toNat = sv b.toNat ↔ (a = b ∨ (a % 2147483648 = 0 ∧ b % 2147483648 = 0)) := by
 have hr := rg_toNat a h0
 have hs := rg_toNat b g0
 constructor
 ·intro h
  obtain ⟨e, f⟩ := sv_inj h
  rcases f with f | f
  ·exact Or.inl (pat_ext h0 h1 g0 g1 e f)
  ·right; omega
 ·rintro (h | ⟨h, k⟩)
  ·rw [h]
  ·have z1 := (mv_zero a.toNat).2 (by omega)
   have z2 := (mv_zero b.toNat).2 (by omega)
   unfold sv sg; rw [z1, z2]; simp
set_option maxHeartbeats 400000 in
theorem rcanon2_any (a : Int) (h0 : 0 ≤ a) (h1 : a < 4294967296) (w : World) :
  Calls Tryz.prog 94 #[.int .i64 a] w fun e w' => e = .returned (.int .i64 (canon a)) ∧ Below w.heap.size w w' := by
 have hf := field_nan
 unfold canon
 rw [← nNan_iff a h0 h1]
 cases hna : nNan a
 ·rw [if_neg (by decide)]
  go_enter Tryz.func94, Tryz.ntmps94
  go_wp2_with (go_at_call 126; refine (rof_any _ (by omega) (by omega) _).mono ?_; rintro e w' ⟨rfl, o, rfl⟩)
  go_ret
  exact ⟨rfl, by go_grown⟩
 ·rw [if_pos rfl]
  go_enter Tryz.func94, Tryz.ntmps94
  go_wp2_with (go_at_call 126; refine (rof_any _ (by omega) (by omega) _).mono ?_; rintro e w' ⟨rfl, o, rfl⟩)
  go_ret
  exact ⟨rfl, by go_grown⟩
end Go.Proofs.YtgcmnkanjcfndaaGreatDoor
namespace Go.Proofs.YtgcmnkanjcfndaaGreatDoor
open Go.RowKit
set_option linter.unusedVariables false
set_option linter.unusedSimpArgs false
set_option maxRecDepth 100000 in
set_option maxHeartbeats 1000000 in
theorem rcanonical_any (a : Int) (h0 : 0 ≤ a) (h1 : a < 4294967296) (w : World) : Calls Tryz.prog 65 #[.int .u32 a] w fun e w' => e = .returned (.bool (toldB a)) ∧ Below w.heap.size w w' := by
 have hc : toldB a = (canon a == a) := by unfold toldB canon; cases nan a <;> rw [Bool.eq_iff_iff] <;> simp
 rw [hc]
 have HK : Hid (∀ w, Calls Tryz.prog 94 #[.int .i64 a] w fun e w' => e = .returned (.int .i64 (canon a)) ∧ Below w.heap.size w w') := rcanon2_any a h0 h1
 have hw : IntKind.i64.wrap a = a := by rw [IntKind.wrap_i64]; omega
 clear hc
 obtain ⟨x, hx⟩ : ∃ x, canon a = x := ⟨_, rfl⟩
 rw [hx] at HK ⊢
 clear hx
 go_enter Tryz.func65, Tryz.ntmps65
 go_wp2_with (go_at_call 94; refine (HK.out _).mono ?_; rintro e w1 ⟨rfl, hb1⟩; have HB1 : Hid _ := hb1; clear hb1)
 go_ret
 exact ⟨rfl, HB1.out⟩
set_option maxRecDepth 100000 in
set_option maxHeartbeats 1000000 in
theorem rmaySlot_any (s : Sl) (h0 : 0 ≤ s.bits) (h1 : s.bits < 4294967296) (p : Option Addr) (n c : Nat) (hn : n ≤ 140737488351232) (w : World) :
  Calls Tryz.prog 32 #[slV s, .slice p n c] w fun e w' => e = .returned (.bool (slotMay s n)) ∧ Below w.heap.size w w' := by
 have HK : Hid (∀ w, Calls Tryz.prog 65 #[.int .u32 s.bits] w fun e w' => e = .returned (.bool (toldB s.bits)) ∧ Below w.heap.size w w') := rcanonical_any s.bits h0 h1
 have HT : Hid (∀ w, Calls Tryz.prog 31 #[tyV s.ty, .slice p n c] w fun e w' => e = .returned (.bool (typeMay s.ty n)) ∧ Below w.heap.size w w') := rmayType_any s.ty p n c hn
 obtain ⟨⟨K, P⟩, Q, B, I⟩ := s
 unfold slotMay begins slV wholeB
 unfold tyV at HT
 simp only at HK HT h0 h1 ⊢
 obtain ⟨X, hX⟩ : ∃ X, toldB B = X := ⟨_, rfl⟩
 obtain ⟨Y, hY⟩ : ∃ Y, typeMay ⟨K, P⟩ n = Y := ⟨_, rfl⟩
 rw [hX] at HK ⊢
 rw [hY] at HT ⊢
 clear hX hY
 cases Y
 ·rw [Bool.false_and]
  go_enter Tryz.func32, Tryz.ntmps32
  go_wp2_with (first
   | (go_at_call 31; refine (HT.out _).mono ?_; rintro e w1 ⟨rfl, hb1⟩; have f0 : w1.cell? ⟨w.heap.size, 0, none⟩ = some (.int .i64 K) := kc hb1 (by simp [go_sem]); have f3 : w1.cell? ⟨w.heap.size, 3, none⟩ = some (.int .u32 B) := kc hb1 (by simp [go_sem]); have f4 : w1.cell? ⟨w.heap.size, 4, none⟩ = some (.int .i64 I) := kc hb1 (by simp [go_sem]); have HB1 : Hid _ := hb1; clear hb1)
   | (go_at_call 65; refine (HK.out _).mono ?_; rintro e w2 ⟨rfl, hb2⟩; have HB2 : Hid _ := hb2; clear hb2))
  go_ret
  first
   | refine ⟨ret_bool ?_, bel (bel_alloc _ _) (bel HB1.out HB2.out)⟩
   | refine ⟨ret_bool ?_, bel (bel_alloc _ _) HB1.out⟩
  first
   | (simp [*]; done)
   | (simp [*]; omega)
   | (simp [*]; intro h; omega)
 ·rw [Bool.true_and]
  by_cases h2 : K = 2
  ·subst h2
   rw [if_pos rfl]
   cases hb : (B == 0)
   ·have hb' : (B != 0) = true := by simpa using hb
    go_enter Tryz.func32, Tryz.ntmps32
    go_wp2_with (first
     | (go_at_call 31; refine (HT.out _).mono ?_; rintro e w1 ⟨rfl, hb1⟩; have f0 : w1.cell? ⟨w.heap.size, 0, none⟩ = some (.int .i64 2) := kc hb1 (by simp [go_sem]); have f3 : w1.cell? ⟨w.heap.size, 3, none⟩ = some (.int .u32 B) := kc hb1 (by simp [go_sem]); have f4 : w1.cell? ⟨w.heap.size, 4, none⟩ = some (.int .i64 I) := kc hb1 (by simp [go_sem]); have HB1 : Hid _ := hb1; clear hb1)
     | (go_at_call 65; refine (HK.out _).mono ?_; rintro e w2 ⟨rfl, hb2⟩; have HB2 : Hid _ := hb2; clear hb2))
    go_ret
    first
     | refine ⟨ret_bool ?_, bel (bel_alloc _ _) (bel HB1.out HB2.out)⟩
     | refine ⟨ret_bool ?_, bel (bel_alloc _ _) HB1.out⟩
    first
     | (simp [*]; done)
     | (simp [*]; omega)
     | (simp [*]; intro h; omega)
   ·by_cases hi : 0 ≤ I
    all_goals
     go_enter Tryz.func32, Tryz.ntmps32
     go_wp2_with (first
      | (go_at_call 31; refine (HT.out _).mono ?_; rintro e w1 ⟨rfl, hb1⟩; have f0 : w1.cell? ⟨w.heap.size, 0, none⟩ = some (.int .i64 2) := kc hb1 (by simp [go_sem]); have f3 : w1.cell? ⟨w.heap.size, 3, none⟩ = some (.int .u32 B) := kc hb1 (by simp [go_sem]); have f4 : w1.cell? ⟨w.heap.size, 4, none⟩ = some (.int .i64 I) := kc hb1 (by simp [go_sem]); have HB1 : Hid _ := hb1; clear hb1)
      | (go_at_call 65; refine (HK.out _).mono ?_; rintro e w2 ⟨rfl, hb2⟩; have HB2 : Hid _ := hb2; clear hb2))
     go_ret
     first
      | refine ⟨ret_bool ?_, bel (bel_alloc _ _) (bel HB1.out HB2.out)⟩
      | refine ⟨ret_bool ?_, bel (bel_alloc _ _) HB1.out⟩
     first
      | (simp [*]; done)
      | (simp [*]; omega)
      | (simp [*]; intro h; omega)
  ·rw [if_neg h2]
   have h2' : (K == 2) = false := by simpa using h2
   clear h2
   cases hi : (I == 0)
   all_goals
    go_enter Tryz.func32, Tryz.ntmps32
    go_wp2_with (first
     | (go_at_call 31; refine (HT.out _).mono ?_; rintro e w1 ⟨rfl, hb1⟩; have f0 : w1.cell? ⟨w.heap.size, 0, none⟩ = some (.int .i64 K) := kc hb1 (by simp [go_sem]); have f3 : w1.cell? ⟨w.heap.size, 3, none⟩ = some (.int .u32 B) := kc hb1 (by simp [go_sem]); have f4 : w1.cell? ⟨w.heap.size, 4, none⟩ = some (.int .i64 I) := kc hb1 (by simp [go_sem]); have HB1 : Hid _ := hb1; clear hb1)
     | (go_at_call 65; refine (HK.out _).mono ?_; rintro e w2 ⟨rfl, hb2⟩; have HB2 : Hid _ := hb2; clear hb2))
    go_ret
    first
     | refine ⟨ret_bool ?_, bel (bel_alloc _ _) (bel HB1.out HB2.out)⟩
     | refine ⟨ret_bool ?_, bel (bel_alloc _ _) HB1.out⟩
    first
     | (simp [*]; done)
     | (simp [*]; omega)
     | (simp [*]; intro h; omega)
end Go.Proofs.YtgcmnkanjcfndaaGreatDoor
namespace Go.Proofs.YtgcmnkanjcfndaaGreatDoor
set_option linter.unusedVariables false
set_option linter.unusedSimpArgs false
structure Lt where
 a : Int
 b : Int
 c : Int
 d : Int
 e : Int
def ltR (op : Int) : Lt :=
 if op = 1 then ⟨110, 45, 45, 45, 45⟩
 else if op = 2 then ⟨119, 45, 45, 45, 105⟩
 else if op = 3 then ⟨97, 99, 45, 45, 45⟩
 else if 4 ≤ op ∧ op ≤ 10 then ⟨100, 120, 120, 45, 45⟩
 else if 11 ≤ op ∧ op ≤ 14 then ⟨100, 120, 45, 45, 45⟩
 else if op = 15 then ⟨100, 120, 120, 120, 45⟩
 else if op = 16 then ⟨110, 110, 119, 45, 45⟩
 else if op = 17 then ⟨110, 119, 45, 45, 45⟩
 else if op = 18 then ⟨119, 110, 45, 45, 45⟩
 else if 19 ≤ op ∧ op ≤ 20 then ⟨110, 118, 45, 45, 45⟩
 else if op = 21 ∨ op = 25 then ⟨119, 119, 45, 45, 45⟩
 else if op = 26 then ⟨119, 119, 119, 119, 45⟩
 else if 22 ≤ op ∧ op ≤ 28 then ⟨119, 119, 119, 45, 45⟩
 else if 29 ≤ op ∧ op ≤ 30 then ⟨118, 45, 45, 45, 112⟩
 else if op = 31 then ⟨45, 118, 45, 45, 112⟩
 else if op = 32 then ⟨97, 45, 45, 45, 115⟩
 else if op = 33 then ⟨45, 97, 45, 45, 115⟩
 else if op = 34 then ⟨45, 119, 45, 45, 45⟩
 else if op = 36 then ⟨45, 45, 45, 45, 113⟩
 else ⟨45, 45, 45, 45, 45⟩
def dR (rs : List Ty) (l D : Int) : Ty := if l = 45 then ⟨0, 0⟩ else regT rs D
def tR (rs : List Ty) (l0 l1 D A : Int) : Ty := if l0 = 45 ∧ l1 ≠ 45 then regT rs A else dR rs l0 D
def tailR (c : Cd) (l n : Int) (t : Ty) : Bool :=
 if l = 105 then wholeB n
 else if l = 112 then n == 0 || (n == 1 && kindOf c.sign t.par == 2)
 else if l = 115 then isPl n c.slots.length && decide (slotT c.slots n = t)
 else if l = 113 then isPl n c.sign.length
 else n == 0
def fitsR (c : Cd) (i : Ins) (L : Lt) : Bool :=
 (i.op == 1 || i.bits == 0) && (toldB i.bits && (operR c.regs L.a i.d ⟨0, 0⟩ && (operR c.regs L.b i.a (dR c.regs L.a i.d) && (operR c.regs L.c i.b (dR c.regs L.a i.d) && (operR c.regs L.d i.c (dR c.regs L.a i.d) && tailR c L.e i.n (tR c.regs L.a L.b i.d i.a))))))
theorem may_num {c : Cd} (h : typesMay c = true) {n : Int} (hp : isPl n c.regs.length = true) : typeMay (regT c.regs n) c.sign.length = true := by
 obtain ⟨k, rfl, hk⟩ := pl_nat hp
 rw [regT_at rfl hk]
 unfold typesMay at h
 exact List.all_eq_true.1 h _ (List.getElem_mem hk)
theorem may_par {c : Cd} (h : typesMay c = true) {n : Int} (hp : isPl n c.regs.length = true) (hk : (regT c.regs n).kind = 1) : (regT c.regs n).par = 0 := by
 have := may_num h hp
 unfold typeMay at this
 rw [if_pos (.inl hk)] at this
 simpa using this
theorem x_eq {c : Cd} (h : typesMay c = true) {n m : Int} (hn : isPl n c.regs.length = true) (hm : isPl m c.regs.length = true) (hk : ((regT c.regs m).kind == 1 || (regT c.regs m).kind == 3) = true) :
  ((regT c.regs n).kind == 1 || decide (regT c.regs n = regT c.regs m)) = (decide (regT c.regs n = regT c.regs m) || ((regT c.regs n).kind == 1 && (regT c.regs m).kind == 3)) := by
 have h1 := may_par h hn
 have h2 := may_par h hm
 generalize regT c.regs n = t at *
 generalize regT c.regs m = d at *
 obtain ⟨K, P⟩ := t
 obtain ⟨A, B⟩ := d
 simp only at h1 h2 hk ⊢
 rw [Bool.eq_iff_iff]
 simp only [Bool.or_eq_true, beq_iff_eq, decide_eq_true_eq, Bool.and_eq_true, Ty.mk.injEq] at hk ⊢
 constructor
 ·rintro (e | e)
  ·rcases hk with k | k
   ·exact .inl ⟨by omega, by rw [h1 e, h2 k]⟩
   ·exact .inr ⟨e, k⟩
  ·exact .inl e
 ·rintro (e | e)
  ·exact .inr e
  ·exact .inl e.1
theorem told0 : toldB 0 = true := by decide
theorem operR_no (rs : List Ty) (n : Int) (d : Ty) : operR rs 45 n d = (n == 0) := if_pos rfl
theorem fitsReg_no (rs : List Ty) (n : Int) (d : Ty) : fitsReg rs 0 n d = (n == 0) := if_pos rfl
theorem fitsReg_yes {l : Int} (h : l ≠ 0) (rs : List Ty) (n : Int) (d : Ty) : fitsReg rs l n d = (isPl n rs.length && meansP l (regT rs n) d) := if_neg h
theorem operR_yes {l : Int} (h : l ≠ 45) (rs : List Ty) (n : Int) (d : Ty) : operR rs l n d = (isPl n rs.length && letR l (regT rs n) d) := if_neg h
theorem oper_n (rs : List Ty) (n : Int) (d m : Ty) : operR rs 110 n d = fitsReg rs 1 n m := by rw [operR_yes (by decide), fitsReg_yes (by decide)]; rfl
theorem oper_w (rs : List Ty) (n : Int) (d m : Ty) : operR rs 119 n d = fitsReg rs 2 n m := by rw [operR_yes (by decide), fitsReg_yes (by decide)]; rfl
theorem oper_v (rs : List Ty) (n : Int) (d m : Ty) : operR rs 118 n d = fitsReg rs 3 n m := by rw [operR_yes (by decide), fitsReg_yes (by decide)]; rfl
theorem oper_d (rs : List Ty) (n : Int) (d m : Ty) : operR rs 100 n d = fitsReg rs 4 n m := by rw [operR_yes (by decide), fitsReg_yes (by decide)]; rfl
theorem oper_no (rs : List Ty) (n : Int) (d m : Ty) : operR rs 45 n d = fitsReg rs 0 n m := by rw [operR_no, fitsReg_no]
theorem oper_a (rs : List Ty) (n : Int) (d : Ty) : operR rs 97 n d = fitsReg rs 6 n (regT rs n) := by rw [operR_yes (by decide), fitsReg_yes (by decide)]; simp [letR, meansP]
theorem oper_c (rs : List Ty) (n : Int) (d : Ty) : operR rs 99 n d = fitsReg rs 5 n d := by rw [operR_yes (by decide), fitsReg_yes (by decide)]; simp [letR, meansP]
theorem oper_x {c : Cd} (h : typesMay c = true) (n : Int) {m : Int} (hd : fitsReg c.regs 4 m (regT c.regs m) = true) : operR c.regs 120 n (regT c.regs m) = fitsReg c.regs 5 n (regT c.regs m) := by
 rw [operR_yes (by decide), fitsReg_yes (by decide)]
 rw [fitsReg_yes (by decide)] at hd
 simp only [Bool.and_eq_true] at hd
 cases hn : isPl n c.regs.length
 ·rfl
 ·rw [Bool.true_and, Bool.true_and]
  exact x_eq h hn hd.1 hd.2
theorem fits_fin {c : Cd} {i : Ins} {L : Lt} {R : Rw} (h1 : i.op ≠ 1) (h7 : R.n ≠ 7) (ha : operR c.regs L.a i.d ⟨0, 0⟩ = fitsReg c.regs R.d i.d (mainT c.regs i R))
  (hb : fitsReg c.regs R.d i.d (mainT c.regs i R) = true → operR c.regs L.b i.a (dR c.regs L.a i.d) = fitsReg c.regs R.a i.a (mainT c.regs i R))
  (hc : fitsReg c.regs R.d i.d (mainT c.regs i R) = true → operR c.regs L.c i.b (dR c.regs L.a i.d) = fitsReg c.regs R.b i.b (mainT c.regs i R))
  (hd : fitsReg c.regs R.d i.d (mainT c.regs i R) = true → operR c.regs L.d i.c (dR c.regs L.a i.d) = fitsReg c.regs R.c i.c (mainT c.regs i R))
  (he : tailR c L.e i.n (tR c.regs L.a L.b i.d i.a) = fitsN c i.n R.n (mainT c.regs i R)) : fitsR c i L = fitsC c i R := by
 unfold fitsR fitsC fitsRest
 rw [if_neg h7, ha, he]
 have : (i.op == 1) = false := by simpa using h1
 rw [this, Bool.false_or]
 cases hX : fitsReg c.regs R.d i.d (mainT c.regs i R)
 ·simp
 ·rw [hb hX, hc hX, hd hX]
  cases hb : (i.bits == 0)
  ·simp
  ·have : i.bits = 0 := by simpa using hb
   rw [this, told0]
   simp
theorem fitsR_eq {c : Cd} (h : typesMay c = true) (i : Ins) : fitsR c i (ltR i.op) = fitsC c i (rowP i.op) := by
 have x := fun n => @oper_x c h n i.d
 by_cases h1 : i.op = 1
 ·have e1 : ltR i.op = ⟨110, 45, 45, 45, 45⟩ := by rw [h1]; rfl
  have e2 : rowP i.op = ⟨1, 0, 0, 0, 7⟩ := by rw [h1]; rfl
  rw [e1, e2]
  unfold fitsR fitsC fitsRest
  simp only
  rw [h1, oper_n _ _ _ (mainT c.regs i ⟨1, 0, 0, 0, 7⟩), operR_no, operR_no, operR_no, fitsReg_no, fitsReg_no, fitsReg_no]
  rw [show tailR c 45 i.n (tR c.regs 110 45 i.d i.a) = (i.n == 0) from rfl]
  generalize fitsReg c.regs 1 i.d _ = A1
  cases A1 <;> cases toldB i.bits <;> simp
 unfold ltR rowP
 rw [if_neg h1, if_neg h1]
 by_cases h2 : i.op = 2
 ·rw [if_pos h2, if_pos h2]
  exact fits_fin h1 (by decide) (oper_w _ _ _ _) (fun _ => oper_no _ _ _ _) (fun _ => oper_no _ _ _ _) (fun _ => oper_no _ _ _ _) rfl
 rw [if_neg h2, if_neg h2]
 by_cases h3 : i.op = 3
 ·rw [if_pos h3, if_pos h3]
  exact fits_fin h1 (by decide) (oper_a _ _ _) (fun _ => oper_c _ _ _) (fun _ => oper_no _ _ _ _) (fun _ => oper_no _ _ _ _) rfl
 rw [if_neg h3, if_neg h3]
 by_cases h4 : 4 ≤ i.op ∧ i.op ≤ 10
 ·rw [if_pos h4, if_pos h4]
  exact fits_fin h1 (by decide) (oper_d _ _ _ _) (x _) (x _) (fun _ => oper_no _ _ _ _) rfl
 rw [if_neg h4, if_neg h4]
 by_cases h5 : 11 ≤ i.op ∧ i.op ≤ 14
 ·rw [if_pos h5, if_pos h5]
  exact fits_fin h1 (by decide) (oper_d _ _ _ _) (x _) (fun _ => oper_no _ _ _ _) (fun _ => oper_no _ _ _ _) rfl
 rw [if_neg h5, if_neg h5]
 by_cases h6 : i.op = 15
 ·rw [if_pos h6, if_pos h6]
  exact fits_fin h1 (by decide) (oper_d _ _ _ _) (x _) (x _) (x _) rfl
 rw [if_neg h6, if_neg h6]
 by_cases h7 : i.op = 16
 ·rw [if_pos h7, if_pos h7]
  exact fits_fin h1 (by decide) (oper_n _ _ _ _) (fun _ => oper_n _ _ _ _) (fun _ => oper_w _ _ _ _) (fun _ => oper_no _ _ _ _) rfl
 rw [if_neg h7, if_neg h7]
 by_cases h8 : i.op = 17
 ·rw [if_pos h8, if_pos h8]
  exact fits_fin h1 (by decide) (oper_n _ _ _ _) (fun _ => oper_w _ _ _ _) (fun _ => oper_no _ _ _ _) (fun _ => oper_no _ _ _ _) rfl
 rw [if_neg h8, if_neg h8]
 by_cases h9 : i.op = 18
 ·rw [if_pos h9, if_pos h9]
  exact fits_fin h1 (by decide) (oper_w _ _ _ _) (fun _ => oper_n _ _ _ _) (fun _ => oper_no _ _ _ _) (fun _ => oper_no _ _ _ _) rfl
 rw [if_neg h9, if_neg h9]
 by_cases h10 : 19 ≤ i.op ∧ i.op ≤ 20
 ·rw [if_pos h10, if_pos h10]
  exact fits_fin h1 (by decide) (oper_n _ _ _ _) (fun _ => oper_v _ _ _ _) (fun _ => oper_no _ _ _ _) (fun _ => oper_no _ _ _ _) rfl
 rw [if_neg h10, if_neg h10]
 by_cases h11 : i.op = 21 ∨ i.op = 25
 ·rw [if_pos h11, if_pos h11]
  exact fits_fin h1 (by decide) (oper_w _ _ _ _) (fun _ => oper_w _ _ _ _) (fun _ => oper_no _ _ _ _) (fun _ => oper_no _ _ _ _) rfl
 rw [if_neg h11, if_neg h11]
 by_cases h12 : i.op = 26
 ·rw [if_pos h12, if_pos h12]
  exact fits_fin h1 (by decide) (oper_w _ _ _ _) (fun _ => oper_w _ _ _ _) (fun _ => oper_w _ _ _ _) (fun _ => oper_w _ _ _ _) rfl
 rw [if_neg h12, if_neg h12]
 by_cases h13 : 22 ≤ i.op ∧ i.op ≤ 28
 ·rw [if_pos h13, if_pos h13]
  exact fits_fin h1 (by decide) (oper_w _ _ _ _) (fun _ => oper_w _ _ _ _) (fun _ => oper_w _ _ _ _) (fun _ => oper_no _ _ _ _) rfl
 rw [if_neg h13, if_neg h13]
 by_cases h14 : 29 ≤ i.op ∧ i.op ≤ 30
 ·rw [if_pos h14, if_pos h14]
  exact fits_fin h1 (by decide) (oper_v _ _ _ _) (fun _ => oper_no _ _ _ _) (fun _ => oper_no _ _ _ _) (fun _ => oper_no _ _ _ _) rfl
 rw [if_neg h14, if_neg h14]
 by_cases h15 : i.op = 31
 ·rw [if_pos h15, if_pos h15]
  exact fits_fin h1 (by decide) (oper_no _ _ _ _) (fun _ => oper_v _ _ _ _) (fun _ => oper_no _ _ _ _) (fun _ => oper_no _ _ _ _) rfl
 rw [if_neg h15, if_neg h15]
 by_cases h16 : i.op = 32
 ·rw [if_pos h16, if_pos h16]
  exact fits_fin h1 (by decide) (oper_a _ _ _) (fun _ => oper_no _ _ _ _) (fun _ => oper_no _ _ _ _) (fun _ => oper_no _ _ _ _) rfl
 rw [if_neg h16, if_neg h16]
 by_cases h17 : i.op = 33
 ·rw [if_pos h17, if_pos h17]
  exact fits_fin h1 (by decide) (oper_no _ _ _ _) (fun _ => oper_a _ _ _) (fun _ => oper_no _ _ _ _) (fun _ => oper_no _ _ _ _) rfl
 rw [if_neg h17, if_neg h17]
 by_cases h18 : i.op = 34
 ·rw [if_pos h18, if_pos h18]
  exact fits_fin h1 (by decide) (oper_no _ _ _ _) (fun _ => oper_w _ _ _ _) (fun _ => oper_no _ _ _ _) (fun _ => oper_no _ _ _ _) rfl
 rw [if_neg h18, if_neg h18]
 by_cases h19 : i.op = 36
 ·rw [if_pos h19, if_pos h19]
  exact fits_fin h1 (by decide) (oper_no _ _ _ _) (fun _ => oper_no _ _ _ _) (fun _ => oper_no _ _ _ _) (fun _ => oper_no _ _ _ _) rfl
 rw [if_neg h19, if_neg h19]
 exact fits_fin h1 (by decide) (oper_no _ _ _ _) (fun _ => oper_no _ _ _ _) (fun _ => oper_no _ _ _ _) (fun _ => oper_no _ _ _ _) rfl
end Go.Proofs.YtgcmnkanjcfndaaGreatDoor
