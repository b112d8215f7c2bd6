import Derived.Test.YtgcmnkanjcfndaaGreatDoorFth12
import Derived.Deep.DeepCutAuto
import Derived.Test.YtgcmnkanjcfndaaGreatDoorFth9
import Derived.Test.YtgcmnkanjcfndaaGreatDoorFth10
import Derived.Test.YtgcmnkanjcfndaaGreatDoorFth2
import Derived.Test.YtgcmnkanjcfndaaGreatDoorFth8
import Ieee.Arith
import Derived.Laws.FloatBits
import Derived.Test.YtgcmnkanjcfndaaGreatDoorFth1
import Derived.Laws.FloatArith
import Derived.Below
import Derived.Laws.Externs
import Derived.Handy
/- Package asm: the lists of words. -/
namespace Go.Proofs.YtgcmnkanjcfndaaGreatDoor
open Go.RowKit
set_option linter.unusedVariables false
set_option linter.unusedSimpArgs false

theorem row_list (L : List Bs) (w : World) (cs : Array Value) (t : TypeId) (h : cs.toList = L.map fun x => .string (sof x)) : (w.alloc (.cells cs t)).rowIs w.heap.size t L.length (fun i => .string (sof ((L[i]?).getD []))) := by
  have hs : cs.size = L.length := by rw [← Array.length_toList, h, List.length_map]
  rw [← hs]
  refine World.rowIs_alloc w cs t _ fun i hi => ?_
  have hl : i < L.length := by rw [← hs]; exact hi
  rw [← Array.getElem?_toList, h, List.getElem?_map, List.getElem?_eq_getElem hl]
  rfl
def sortL : List Bs := [paramB, regB, slotB]
def kindL : List Bs := [[], realB, complexB]
def typeL : List Bs := [[], numberB, wholeT, vectorB]
def keepL : List Bs := [localB, keepB]

set_option maxRecDepth 100000 in
set_option maxHeartbeats 4000000 in
theorem sortWords_any (w : World) : Calls Tryz.prog 38 #[] w fun e w' => ∃ p, e = .returned (.slice (some ⟨p, 0, none⟩) 3 3) ∧ w.heap.size ≤ p ∧ w'.rowIs p 9 3 (fun i => .string (sof ((sortL[i]?).getD []))) ∧ Below w.heap.size w w' := by
  go_enter Tryz.func38, Tryz.ntmps38
  go_wp2
  go_ret
  refine ⟨_, rfl, ?_, ?_, ?_⟩
  · simp
  · exact row_list sortL w _ _ (by rfl)
  · exact bel_alloc _ _

set_option maxRecDepth 100000 in
set_option maxHeartbeats 4000000 in
theorem kindWords_any (w : World) : Calls Tryz.prog 39 #[] w fun e w' => ∃ p, e = .returned (.slice (some ⟨p, 0, none⟩) 3 3) ∧ w.heap.size ≤ p ∧ w'.rowIs p 9 3 (fun i => .string (sof ((kindL[i]?).getD []))) ∧ Below w.heap.size w w' := by
  go_enter Tryz.func39, Tryz.ntmps39
  go_wp2
  go_ret
  refine ⟨_, rfl, ?_, ?_, ?_⟩
  · simp
  · exact row_list kindL w _ _ (by rfl)
  · exact bel_alloc _ _

set_option maxRecDepth 100000 in
set_option maxHeartbeats 4000000 in
theorem typeWords_any (w : World) : Calls Tryz.prog 40 #[] w fun e w' => ∃ p, e = .returned (.slice (some ⟨p, 0, none⟩) 4 4) ∧ w.heap.size ≤ p ∧ w'.rowIs p 9 4 (fun i => .string (sof ((typeL[i]?).getD []))) ∧ Below w.heap.size w w' := by
  go_enter Tryz.func40, Tryz.ntmps40
  go_wp2
  go_ret
  refine ⟨_, rfl, ?_, ?_, ?_⟩
  · simp
  · exact row_list typeL w _ _ (by rfl)
  · exact bel_alloc _ _

set_option maxRecDepth 100000 in
set_option maxHeartbeats 4000000 in
theorem keepWords_any (w : World) : Calls Tryz.prog 41 #[] w fun e w' => ∃ p, e = .returned (.slice (some ⟨p, 0, none⟩) 2 2) ∧ w.heap.size ≤ p ∧ w'.rowIs p 9 2 (fun i => .string (sof ((keepL[i]?).getD []))) ∧ Below w.heap.size w w' := by
  go_enter Tryz.func41, Tryz.ntmps41
  go_wp2
  go_ret
  refine ⟨_, rfl, ?_, ?_, ?_⟩
  · simp
  · exact row_list keepL w _ _ (by rfl)
  · exact bel_alloc _ _

set_option maxRecDepth 100000 in
set_option maxHeartbeats 4000000 in
theorem opWords_any (w : World) : Calls Tryz.prog 42 #[] w fun e w' => ∃ p, e = .returned (.slice (some ⟨p, 0, none⟩) 38 38) ∧ w.heap.size ≤ p ∧ w'.rowIs p 9 38 (fun i => .string (sof ((opsB[i]?).getD []))) ∧ Below w.heap.size w w' := by
  go_enter Tryz.func42, Tryz.ntmps42
  go_wp2
  go_ret
  refine ⟨_, rfl, ?_, ?_, ?_⟩
  · simp
  · exact row_list opsB w _ _ (by rfl)
  · exact bel_alloc _ _

end Go.Proofs.YtgcmnkanjcfndaaGreatDoor
/- What IrBegins makes of lists: beginnings, tails, appends. -/
namespace Go.Proofs.YtgcmnkanjcfndaaGreatDoor
open Go.RowKit
set_option linter.unusedVariables false
set_option linter.unusedSimpArgs false

end Go.Proofs.YtgcmnkanjcfndaaGreatDoor
/- The worlds of IrBegins' walk. -/
namespace Go.Proofs.YtgcmnkanjcfndaaGreatDoor
open Go.RowKit
set_option linter.unusedVariables false
set_option linter.unusedSimpArgs false

/-- A row of another type lies in another block. -/
theorem own_other {w : World} {B B' : Nat} {t t' : TypeId} {k k' n n' : Nat} {v v' : Value} {xs xs' : List Value} (h : w.ownsRow B t k v n xs) (h' : w.ownsRow B' t' k' v' n' xs') (ht : t ≠ t') : ∀ b, v.ownBlock = some b → v'.ownBlock ≠ some b := by
  intro b hb hb'
  rcases h.2 with ⟨rfl, _⟩ | ⟨g, cap, cur, rfl, _, hg, _⟩
  · exact absurd (show (none : Option Nat) = some b from hb) (by simp)
  rcases h'.2 with ⟨rfl, _⟩ | ⟨g', cap', cur', rfl, _, hg', _⟩
  · exact absurd (show (none : Option Nat) = some b from hb') (by simp)
  have e1 : g = b := Option.some.inj hb
  have e2 : g' = b := Option.some.inj hb'
  rw [e1] at hg
  rw [e2, hg] at hg'
  simp only [Option.some.injEq, Obj.cells.injEq] at hg'
  exact ht hg'.2.1

end Go.Proofs.YtgcmnkanjcfndaaGreatDoor
/- Layer 16, plainly: the ways through a code's blocks. No program in it. -/
namespace Go.Proofs.YtgcmnkanjcfndaaGreatDoor
set_option linter.unusedVariables false
set_option linter.unusedSimpArgs false

/- What is set, block for block. -/
def insP (S : List Nat) (i : Ins) : List Nat := if (rowP i.op).d ≠ 0 ∧ i.d.toNat ∉ S then S ++ [i.d.toNat] else S
theorem okO_le : ∀ {r : List Bk} {n : Nat}, okO n r → ∀ b ∈ r, b.ahead ≤ n
  | [], _, _, b, hb => absurd hb (by simp)
  | a :: r, n, h, b, hb => by
    rcases List.mem_cons.1 hb with rfl | hb
    · exact h.1
    · exact Nat.le_trans (okO_le h.2 b hb) h.1
theorem addP_none {s : Wk} {i : Ins} (h : (rowP i.op).d = 0) : addP s i (rowP i.op) = s := by unfold addP; rw [if_neg (fun e => e.1 h)]
theorem ins_mem {S : List Nat} {i : Ins} {x : Nat} : x ∈ insP S i ↔ x ∈ S ∨ ((rowP i.op).d ≠ 0 ∧ x = i.d.toNat) := by
  unfold insP
  by_cases h : (rowP i.op).d ≠ 0 ∧ i.d.toNat ∉ S
  · rw [if_pos h, List.mem_append]; simp only [List.mem_singleton]; exact ⟨fun q => q.imp id fun e => ⟨h.1, e⟩, fun q => q.imp id fun e => e.2⟩
  · rw [if_neg h]
    constructor
    · exact .inl
    · rintro (q | ⟨q1, q2⟩)
      · exact q
      · rw [q2]; exact Decidable.byContradiction fun e => h ⟨q1, e⟩
end Go.Proofs.YtgcmnkanjcfndaaGreatDoor
/- The worlds of lathelaw16.preamble. -/
namespace Go.Proofs.YtgcmnkanjcfndaaGreatDoor
open Go.RowKit
set_option linter.unusedVariables false
set_option linter.unusedSimpArgs false

end Go.Proofs.YtgcmnkanjcfndaaGreatDoor
/- The reference of layer 16: types, registers, parts. -/
namespace Go.Proofs.YtgcmnkanjcfndaaGreatDoor
open Go.RowKit
set_option linter.unusedVariables false
set_option linter.unusedSimpArgs false

set_option maxRecDepth 100000 in
set_option maxHeartbeats 1000000 in
theorem rmayType_any (t : Ty) (p : Option Addr) (n c : Nat) (hn : n ≤ 140737488351232) (w : World) : Calls Tryz.prog 31 #[tyV t, .slice p n c] w fun e w' => e = .returned (.bool (typeMay t n)) ∧ Below w.heap.size w w' := by
  obtain ⟨K, P⟩ := t
  unfold typeMay tyV isPl
  simp only
  by_cases h1 : K = 1
  · subst h1
    rw [if_pos (Or.inl rfl)]
    go_enter Tryz.func31, Tryz.ntmps31
    go_wp2
    go_ret
    exact ⟨rfl, bel_alloc _ _⟩
  · by_cases h2 : K = 2
    · subst h2
      rw [if_pos (Or.inr rfl)]
      go_enter Tryz.func31, Tryz.ntmps31
      go_wp2
      go_ret
      exact ⟨rfl, bel_alloc _ _⟩
    · rw [if_neg (fun e => e.elim h1 h2)]
      have h1' : (K == 1) = false := by simpa using h1
      have h2' : (K == 2) = false := by simpa using h2
      by_cases h3 : K = 3
      · subst h3
        rw [if_pos rfl]
        by_cases h : 0 ≤ P
        all_goals
          go_enter Tryz.func31, Tryz.ntmps31
          go_wp2
          go_ret
          exact ⟨ret_bool (by simp [h]; try omega), bel_alloc _ _⟩
      · rw [if_neg h3]
        have h3' : (K == 3) = false := by simpa using h3
        clear h1 h2 h3
        go_enter Tryz.func31, Tryz.ntmps31
        go_wp2
        go_ret
        exact ⟨rfl, bel_alloc _ _⟩

set_option maxRecDepth 100000 in
set_option maxHeartbeats 1000000 in
theorem rtypeOf_any (v0 v1 v2 v3 : Value) (c : Cd) (hk : CdOk c) (n : Int) (w : World) (hv : CdV w v0 v1 v2 v3 c) :
    Calls Tryz.prog 127 #[.agg #[v0, v1, v2, v3], .int .i64 n] w fun e w' => e = .returned (.tuple #[tyV (regT c.regs n), .bool (isPl n c.regs.length)]) ∧ Below w.heap.size w w' := by
  have HB := hk.regsL
  have hr := hv.regs
  obtain ⟨p, q, rfl, hrr⟩ := hv.regs
  clear hv hk
  by_cases h0 : 0 ≤ n
  · by_cases h1 : n < (c.regs.length : Int)
    · obtain ⟨k, rfl⟩ : ∃ k : Nat, n = (k : Int) := ⟨n.toNat, by omega⟩
      have hk : k < c.regs.length := by omega
      have e : regT c.regs (k : Int) = c.regs[k] := regT_at rfl hk
      have e2 : isPl (k : Int) c.regs.length = true := isPl_iff.2 ⟨by omega, by omega⟩
      rw [e, e2]
      obtain ⟨lb, lo, rfl, hc⟩ := hr.at hk
      obtain ⟨⟨K, P⟩, ht⟩ : ∃ t : Ty, c.regs[k] = t := ⟨_, rfl⟩
      rw [ht] at hc ⊢
      have y0 : w.cell? ⟨lb, lo + k * 2, none⟩ = some (.int .i64 K) := hc.at 0 rfl
      have y1 : w.cell? ⟨lb, lo + k * 2 + 1, none⟩ = some (.int .i64 P) := hc.at 1 rfl
      have hlb : lb ≠ w.heap.size := by have := mcell_lt y0; simp only at this; omega
      obtain ⟨N, hN⟩ : ∃ N, c.regs.length = N := ⟨_, rfl⟩
      rw [hN] at hk HB ⊢
      clear hr hrr hc ht e e2 h0 h1 hN
      have g0 : ∀ o o', ((w.alloc o).alloc o').cell? ⟨lb, lo + k * 2, none⟩ = some (.int .i64 K) := fun o o' => kc (bel (bel_alloc _ _) (bel_alloc _ _)) y0
      have g1 : ∀ o o', ((w.alloc o).alloc o').cell? ⟨lb, lo + k * 2 + 1, none⟩ = some (.int .i64 P) := fun o o' => kc (bel (bel_alloc _ _) (bel_alloc _ _)) y1
      unfold tyV
      go_enter Tryz.func127, Tryz.ntmps127
      go_wp2
      refine bodyPost_ret (by simp [results, Tryz.results127, go_sem, *]; try rfl) rfl ?_
      exact ⟨rfl, bel (bel_alloc _ _) (bel_alloc _ _)⟩
    · have e2 : isPl n c.regs.length = false := by unfold isPl; simp; omega
      have e : regT c.regs n = ⟨0, 0⟩ := by unfold regT; rw [e2]; rfl
      rw [e, e2]
      obtain ⟨N, hN⟩ : ∃ N, c.regs.length = N := ⟨_, rfl⟩
      rw [hN] at h1 HB ⊢
      clear hr hrr e e2 hN
      unfold tyV
      go_enter Tryz.func127, Tryz.ntmps127
      go_wp2
      refine bodyPost_ret (by simp [results, Tryz.results127, go_sem, *]; try rfl) rfl ?_
      exact ⟨rfl, bel (bel_alloc _ _) (bel_alloc _ _)⟩
  · have e2 : isPl n c.regs.length = false := by unfold isPl; simp; omega
    have e : regT c.regs n = ⟨0, 0⟩ := by unfold regT; rw [e2]; rfl
    rw [e, e2]
    obtain ⟨N, hN⟩ : ∃ N, c.regs.length = N := ⟨_, rfl⟩
    rw [hN] at HB ⊢
    clear hr hrr e e2 hN
    unfold tyV
    go_enter Tryz.func127, Tryz.ntmps127
    go_wp2
    refine bodyPost_ret (by simp [results, Tryz.results127, go_sem, *]; try rfl) rfl ?_
    exact ⟨rfl, bel (bel_alloc _ _) (bel_alloc _ _)⟩

/-- What may stand at a letter of the reference's rows. -/
def letR (b : Int) (t d : Ty) : Bool :=
  if b = 110 then t.kind == 1 else if b = 119 then t.kind == 2 else if b = 118 then t.kind == 3 else if b = 100 then t.kind == 1 || t.kind == 3
  else if b = 120 then t.kind == 1 || decide (t = d) else if b = 99 then decide (t = d) || (t.kind == 1 && d.kind == 3) else true
def operR (rs : List Ty) (b n : Int) (d : Ty) : Bool := if b = 45 then n == 0 else isPl n rs.length && letR b (regT rs n) d

set_option maxRecDepth 100000 in
set_option maxHeartbeats 2000000 in
theorem roperand_any (v0 v1 v2 v3 : Value) (c : Cd) (hk : CdOk c) (b n : Int) (d : Ty) (hb : b = 45 ∨ b = 110 ∨ b = 119 ∨ b = 118 ∨ b = 100 ∨ b = 120 ∨ b = 99 ∨ b = 97) (w : World) (hv : CdV w v0 v1 v2 v3 c) :
    Calls Tryz.prog 95 #[.agg #[v0, v1, v2, v3], .int .u8 b, .int .i64 n, tyV d] w fun e w' => e = .returned (.bool (operR c.regs b n d)) ∧ Below w.heap.size w w' := by
  have KT : Hid (∀ v, Below w.heap.size w v → Calls Tryz.prog 127 #[.agg #[v0, v1, v2, v3], .int .i64 n] v fun e w' => e = .returned (.tuple #[tyV (regT c.regs n), .bool (isPl n c.regs.length)]) ∧ Below v.heap.size v w') := fun v h => rtypeOf_any v0 v1 v2 v3 c hk n v (hv.below h)
  unfold operR
  obtain ⟨X, hX⟩ : ∃ X, isPl n c.regs.length = X := ⟨_, rfl⟩
  obtain ⟨⟨K, P⟩, ht⟩ : ∃ t : Ty, regT c.regs n = t := ⟨_, rfl⟩
  rw [hX, ht] at KT ⊢
  clear hX ht hv hk
  obtain ⟨dk, dp⟩ := d
  unfold tyV at KT ⊢
  simp only at KT ⊢
  by_cases h45 : b = 45
  · subst h45
    rw [if_pos rfl]
    go_enter Tryz.func95, Tryz.ntmps95
    go_wp2
    go_ret
    exact ⟨rfl, bel (bel_alloc _ _) (bel_alloc _ _)⟩
  · rw [if_neg h45]
    have h45' : (b == 45) = false := by simpa using h45
    cases X
    · rw [Bool.false_and]
      clear hb h45
      go_enter Tryz.func95, Tryz.ntmps95
      go_wp2_with (go_at_call 127; (with_reducible refine (KT.out _ (bel (bel_alloc _ _) (bel_alloc _ _))).mono ?_); rintro e w1 ⟨rfl, hb1⟩; have f0 : ∀ o, (w1.alloc o).cell? ⟨w.heap.size + 1, 0, none⟩ = some (.int .i64 dk) := (fun o => kc (bel hb1 (bel_alloc _ _)) (by simp [go_sem])); have f1 : ∀ o, (w1.alloc o).cell? ⟨w.heap.size + 1, 1, none⟩ = some (.int .i64 dp) := (fun o => kc (bel hb1 (bel_alloc _ _)) (by simp [go_sem])); have HB1 : Hid _ := hb1; clear hb1)
      go_ret
      exact ⟨rfl, bel (bel (bel_alloc _ _) (bel_alloc _ _)) (bel HB1.out (bel_alloc _ _))⟩
    · rw [Bool.true_and]
      rcases hb with rfl | rfl | rfl | rfl | rfl | rfl | rfl | rfl
      · exact absurd rfl h45
      all_goals clear h45 h45'
      all_goals
        cases h1 : (K == 1)
        all_goals
          by_cases hkd : K = dk
          · subst hkd
            by_cases hpd : P = dp
            · subst hpd
              go_enter Tryz.func95, Tryz.ntmps95
              go_wp2_with (go_at_call 127; (with_reducible refine (KT.out _ (bel (bel_alloc _ _) (bel_alloc _ _))).mono ?_); rintro e w1 ⟨rfl, hb1⟩; have f0 : ∀ o, (w1.alloc o).cell? ⟨w.heap.size + 1, 0, none⟩ = some (.int .i64 K) := (fun o => kc (bel hb1 (bel_alloc _ _)) (by simp [go_sem])); have f1 : ∀ o, (w1.alloc o).cell? ⟨w.heap.size + 1, 1, none⟩ = some (.int .i64 P) := (fun o => kc (bel hb1 (bel_alloc _ _)) (by simp [go_sem])); have HB1 : Hid _ := hb1; clear hb1)
              go_ret
              refine ⟨ret_bool ?_, bel (bel (bel_alloc _ _) (bel_alloc _ _)) (bel HB1.out (bel_alloc _ _))⟩
              simp [letR, *]
            · go_enter Tryz.func95, Tryz.ntmps95
              go_wp2_with (go_at_call 127; (with_reducible refine (KT.out _ (bel (bel_alloc _ _) (bel_alloc _ _))).mono ?_); rintro e w1 ⟨rfl, hb1⟩; have f0 : ∀ o, (w1.alloc o).cell? ⟨w.heap.size + 1, 0, none⟩ = some (.int .i64 K) := (fun o => kc (bel hb1 (bel_alloc _ _)) (by simp [go_sem])); have f1 : ∀ o, (w1.alloc o).cell? ⟨w.heap.size + 1, 1, none⟩ = some (.int .i64 dp) := (fun o => kc (bel hb1 (bel_alloc _ _)) (by simp [go_sem])); have HB1 : Hid _ := hb1; clear hb1)
              go_ret
              refine ⟨ret_bool ?_, bel (bel (bel_alloc _ _) (bel_alloc _ _)) (bel HB1.out (bel_alloc _ _))⟩
              simp [letR, *]
          · go_enter Tryz.func95, Tryz.ntmps95
            go_wp2_with (go_at_call 127; (with_reducible refine (KT.out _ (bel (bel_alloc _ _) (bel_alloc _ _))).mono ?_); rintro e w1 ⟨rfl, hb1⟩; have f0 : ∀ o, (w1.alloc o).cell? ⟨w.heap.size + 1, 0, none⟩ = some (.int .i64 dk) := (fun o => kc (bel hb1 (bel_alloc _ _)) (by simp [go_sem])); have f1 : ∀ o, (w1.alloc o).cell? ⟨w.heap.size + 1, 1, none⟩ = some (.int .i64 dp) := (fun o => kc (bel hb1 (bel_alloc _ _)) (by simp [go_sem])); have HB1 : Hid _ := hb1; clear hb1)
            go_ret
            refine ⟨ret_bool ?_, bel (bel (bel_alloc _ _) (bel_alloc _ _)) (bel HB1.out (bel_alloc _ _))⟩
            simp [letR, *]

end Go.Proofs.YtgcmnkanjcfndaaGreatDoor
/- The reference of layer 16: parts, the vector of an instruction. -/
namespace Go.Proofs.YtgcmnkanjcfndaaGreatDoor
open Go.RowKit
set_option linter.unusedVariables false
set_option linter.unusedSimpArgs false

set_option maxRecDepth 100000 in
set_option maxHeartbeats 1000000 in
theorem rpart_any (v0 v1 v2 v3 : Value) (c : Cd) (hk : CdOk c) (n p : Int) (hp : n = 1 → isPl p c.sign.length = true) (w : World) (hv : CdV w v0 v1 v2 v3 c) :
    Calls Tryz.prog 96 #[.agg #[v0, v1, v2, v3], .int .i64 n, .int .i64 p] w fun e w' => e = .returned (.bool (n == 0 || (n == 1 && kindOf c.sign p == 2))) ∧ Below w.heap.size w w' := by
  have HB := hk.signL
  by_cases h0 : n = 0
  · subst h0
    clear hp hv
    go_enter Tryz.func96, Tryz.ntmps96
    go_wp2
    go_ret
    exact ⟨rfl, bel_alloc _ _⟩
  · have h0' : (n == 0) = false := by simpa using h0
    by_cases h1 : n = 1
    · subst h1
      obtain ⟨k, rfl, hkl⟩ := pl_nat (hp rfl)
      have hr := hv.sign
      obtain ⟨p, q, rfl, hrr⟩ := hv.sign
      obtain ⟨lb, lo, rfl, hc⟩ := hr.at hkl
      have e : kindOf c.sign (k : Int) = c.sign[k].kind := by unfold kindOf; rw [Int.toNat_natCast, List.getElem?_eq_getElem hkl]; rfl
      rw [e]
      obtain ⟨⟨nm, K, L⟩, ht⟩ : ∃ t : Par, c.sign[k] = t := ⟨_, rfl⟩
      rw [ht] at hc ⊢
      have y1 : w.cell? ⟨lb, lo + k * 3 + 1, none⟩ = some (.int .i64 K) := hc.at 1 rfl
      have g1 : ∀ o, (w.alloc o).cell? ⟨lb, lo + k * 3 + 1, none⟩ = some (.int .i64 K) := fun o => kc (bel_alloc _ _) y1
      obtain ⟨N, hN⟩ : ∃ N, c.sign.length = N := ⟨_, rfl⟩
      rw [hN] at hkl HB ⊢
      clear hr hrr hc ht e hp hv hN h0 hk
      simp only
      go_enter Tryz.func96, Tryz.ntmps96
      go_wp2
      go_ret
      exact ⟨ret_bool (by simp), bel_alloc _ _⟩
    · have h1' : (n == 1) = false := by simpa using h1
      rw [h0', h1']
      clear hp hv h0 h1
      go_enter Tryz.func96, Tryz.ntmps96
      go_wp2
      go_ret
      exact ⟨rfl, bel_alloc _ _⟩

def vecN (i : Ins) : Int := if elemP i.op || (i.op == 29 || (i.op == 30 || i.op == 32)) then i.d else if i.op == 31 || i.op == 33 then i.a else -1
def vecR (rs : List Ty) (n : Int) : Int := if isPl n rs.length && (regT rs n).kind == 3 then (regT rs n).par else -1

set_option maxRecDepth 100000 in
set_option maxHeartbeats 2000000 in
theorem rvector_any (v0 v1 v2 v3 : Value) (c : Cd) (hk : CdOk c) (i : Ins) (w : World) (hv : CdV w v0 v1 v2 v3 c) :
    Calls Tryz.prog 67 #[.agg #[v0, v1, v2, v3], insV i] w fun e w' => e = .returned (.int .i64 (vecR c.regs (vecN i))) ∧ Below w.heap.size w w' := by
  have HB := hk.regsL
  have KE : Hid (∀ v, Calls Tryz.prog 97 #[.int .i64 i.op] v fun e w' => e = .returned (.bool (elemP i.op)) ∧ w' = v) := relem_any i.op
  have hr := hv.regs
  obtain ⟨p, q, rfl, hrr⟩ := hv.regs
  clear hv hk hrr
  obtain ⟨op, D, A, B, E, nn, bb⟩ := i
  unfold insV
  simp only at KE ⊢
  -- the cells that an index within the list finds
  have key : ∀ n : Int, (isPl n c.regs.length = false ∧ vecR c.regs n = -1) ∨ ∃ (k : Nat) (lb lo : Nat) (K P : Int), n = (k : Int) ∧ k < c.regs.length ∧ p = some ⟨lb, lo, none⟩ ∧ w.cell? ⟨lb, lo + k * 2, none⟩ = some (.int .i64 K) ∧ w.cell? ⟨lb, lo + k * 2 + 1, none⟩ = some (.int .i64 P) ∧ vecR c.regs n = if K == 3 then P else -1 := by
    intro n
    cases h : isPl n c.regs.length
    · exact .inl ⟨rfl, by unfold vecR; rw [h]; rfl⟩
    · obtain ⟨k, rfl, hkl⟩ := pl_nat h
      obtain ⟨lb, lo, hp, hc⟩ := hr.at hkl
      refine .inr ⟨k, lb, lo, c.regs[k].kind, c.regs[k].par, rfl, hkl, hp, hc.at 0 rfl, hc.at 1 rfl, ?_⟩
      unfold vecR
      rw [h, regT_at rfl hkl, Bool.true_and]
  obtain ⟨N, hN⟩ : ∃ N, c.regs.length = N := ⟨_, rfl⟩
  rw [hN] at HB key ⊢
  clear hr
  cases hX : elemP op
  · rw [hX] at KE
    by_cases a29 : op = 29
    · subst a29
      rw [show vecN ⟨29, D, A, B, E, nn, bb⟩ = D from rfl]
      rcases key D with ⟨hpl, e9⟩ | ⟨k, lb, lo, K, P, rfl, hkl, rfl, y0, y1, e9⟩
      · rw [e9]
        clear key e9
        by_cases h0 : D < 0
        · go_enter Tryz.func67, Tryz.ntmps67
          go_wp2_with (go_at_call 97; (with_reducible refine (KE.out _).mono ?_); rintro e w1 ⟨rfl, rfl⟩)
          go_ret
          refine ⟨?_, bel (bel_alloc _ _) (bel_alloc _ _)⟩
          first | rfl | simp [*]
        · have h1 : (N : Int) ≤ D := by unfold isPl at hpl; simp at hpl; omega
          go_enter Tryz.func67, Tryz.ntmps67
          go_wp2_with (go_at_call 97; (with_reducible refine (KE.out _).mono ?_); rintro e w1 ⟨rfl, rfl⟩)
          go_ret
          refine ⟨?_, bel (bel_alloc _ _) (bel_alloc _ _)⟩
          first | rfl | simp [*]
      · rw [e9]
        clear key e9
        have g0 : ∀ o o', ((w.alloc o).alloc o').cell? ⟨lb, lo + k * 2, none⟩ = some (.int .i64 K) := fun o o' => kc (bel (bel_alloc _ _) (bel_alloc _ _)) y0
        have g1 : ∀ o o', ((w.alloc o).alloc o').cell? ⟨lb, lo + k * 2 + 1, none⟩ = some (.int .i64 P) := fun o o' => kc (bel (bel_alloc _ _) (bel_alloc _ _)) y1
        by_cases h3 : K = 3
        · subst h3
          go_enter Tryz.func67, Tryz.ntmps67
          go_wp2_with (go_at_call 97; (with_reducible refine (KE.out _).mono ?_); rintro e w1 ⟨rfl, rfl⟩)
          go_ret
          refine ⟨?_, bel (bel_alloc _ _) (bel_alloc _ _)⟩
          first | rfl | simp [*]
        · have h3' : (K == 3) = false := by simpa using h3
          have h3b : (K != 3) = true := by simpa using h3
          rw [h3']
          clear h3
          go_enter Tryz.func67, Tryz.ntmps67
          go_wp2_with (go_at_call 97; (with_reducible refine (KE.out _).mono ?_); rintro e w1 ⟨rfl, rfl⟩)
          go_ret
          refine ⟨?_, bel (bel_alloc _ _) (bel_alloc _ _)⟩
          first | rfl | simp [*]
    by_cases a30 : op = 30
    · subst a30
      rw [show vecN ⟨30, D, A, B, E, nn, bb⟩ = D from rfl]
      rcases key D with ⟨hpl, e9⟩ | ⟨k, lb, lo, K, P, rfl, hkl, rfl, y0, y1, e9⟩
      · rw [e9]
        clear key e9
        by_cases h0 : D < 0
        · go_enter Tryz.func67, Tryz.ntmps67
          go_wp2_with (go_at_call 97; (with_reducible refine (KE.out _).mono ?_); rintro e w1 ⟨rfl, rfl⟩)
          go_ret
          refine ⟨?_, bel (bel_alloc _ _) (bel_alloc _ _)⟩
          first | rfl | simp [*]
        · have h1 : (N : Int) ≤ D := by unfold isPl at hpl; simp at hpl; omega
          go_enter Tryz.func67, Tryz.ntmps67
          go_wp2_with (go_at_call 97; (with_reducible refine (KE.out _).mono ?_); rintro e w1 ⟨rfl, rfl⟩)
          go_ret
          refine ⟨?_, bel (bel_alloc _ _) (bel_alloc _ _)⟩
          first | rfl | simp [*]
      · rw [e9]
        clear key e9
        have g0 : ∀ o o', ((w.alloc o).alloc o').cell? ⟨lb, lo + k * 2, none⟩ = some (.int .i64 K) := fun o o' => kc (bel (bel_alloc _ _) (bel_alloc _ _)) y0
        have g1 : ∀ o o', ((w.alloc o).alloc o').cell? ⟨lb, lo + k * 2 + 1, none⟩ = some (.int .i64 P) := fun o o' => kc (bel (bel_alloc _ _) (bel_alloc _ _)) y1
        by_cases h3 : K = 3
        · subst h3
          go_enter Tryz.func67, Tryz.ntmps67
          go_wp2_with (go_at_call 97; (with_reducible refine (KE.out _).mono ?_); rintro e w1 ⟨rfl, rfl⟩)
          go_ret
          refine ⟨?_, bel (bel_alloc _ _) (bel_alloc _ _)⟩
          first | rfl | simp [*]
        · have h3' : (K == 3) = false := by simpa using h3
          have h3b : (K != 3) = true := by simpa using h3
          rw [h3']
          clear h3
          go_enter Tryz.func67, Tryz.ntmps67
          go_wp2_with (go_at_call 97; (with_reducible refine (KE.out _).mono ?_); rintro e w1 ⟨rfl, rfl⟩)
          go_ret
          refine ⟨?_, bel (bel_alloc _ _) (bel_alloc _ _)⟩
          first | rfl | simp [*]
    by_cases a32 : op = 32
    · subst a32
      rw [show vecN ⟨32, D, A, B, E, nn, bb⟩ = D from rfl]
      rcases key D with ⟨hpl, e9⟩ | ⟨k, lb, lo, K, P, rfl, hkl, rfl, y0, y1, e9⟩
      · rw [e9]
        clear key e9
        by_cases h0 : D < 0
        · go_enter Tryz.func67, Tryz.ntmps67
          go_wp2_with (go_at_call 97; (with_reducible refine (KE.out _).mono ?_); rintro e w1 ⟨rfl, rfl⟩)
          go_ret
          refine ⟨?_, bel (bel_alloc _ _) (bel_alloc _ _)⟩
          first | rfl | simp [*]
        · have h1 : (N : Int) ≤ D := by unfold isPl at hpl; simp at hpl; omega
          go_enter Tryz.func67, Tryz.ntmps67
          go_wp2_with (go_at_call 97; (with_reducible refine (KE.out _).mono ?_); rintro e w1 ⟨rfl, rfl⟩)
          go_ret
          refine ⟨?_, bel (bel_alloc _ _) (bel_alloc _ _)⟩
          first | rfl | simp [*]
      · rw [e9]
        clear key e9
        have g0 : ∀ o o', ((w.alloc o).alloc o').cell? ⟨lb, lo + k * 2, none⟩ = some (.int .i64 K) := fun o o' => kc (bel (bel_alloc _ _) (bel_alloc _ _)) y0
        have g1 : ∀ o o', ((w.alloc o).alloc o').cell? ⟨lb, lo + k * 2 + 1, none⟩ = some (.int .i64 P) := fun o o' => kc (bel (bel_alloc _ _) (bel_alloc _ _)) y1
        by_cases h3 : K = 3
        · subst h3
          go_enter Tryz.func67, Tryz.ntmps67
          go_wp2_with (go_at_call 97; (with_reducible refine (KE.out _).mono ?_); rintro e w1 ⟨rfl, rfl⟩)
          go_ret
          refine ⟨?_, bel (bel_alloc _ _) (bel_alloc _ _)⟩
          first | rfl | simp [*]
        · have h3' : (K == 3) = false := by simpa using h3
          have h3b : (K != 3) = true := by simpa using h3
          rw [h3']
          clear h3
          go_enter Tryz.func67, Tryz.ntmps67
          go_wp2_with (go_at_call 97; (with_reducible refine (KE.out _).mono ?_); rintro e w1 ⟨rfl, rfl⟩)
          go_ret
          refine ⟨?_, bel (bel_alloc _ _) (bel_alloc _ _)⟩
          first | rfl | simp [*]
    by_cases a31 : op = 31
    · subst a31
      rw [show vecN ⟨31, D, A, B, E, nn, bb⟩ = A from rfl]
      rcases key A with ⟨hpl, e9⟩ | ⟨k, lb, lo, K, P, rfl, hkl, rfl, y0, y1, e9⟩
      · rw [e9]
        clear key e9
        by_cases h0 : A < 0
        · go_enter Tryz.func67, Tryz.ntmps67
          go_wp2_with (go_at_call 97; (with_reducible refine (KE.out _).mono ?_); rintro e w1 ⟨rfl, rfl⟩)
          go_ret
          refine ⟨?_, bel (bel_alloc _ _) (bel_alloc _ _)⟩
          first | rfl | simp [*]
        · have h1 : (N : Int) ≤ A := by unfold isPl at hpl; simp at hpl; omega
          go_enter Tryz.func67, Tryz.ntmps67
          go_wp2_with (go_at_call 97; (with_reducible refine (KE.out _).mono ?_); rintro e w1 ⟨rfl, rfl⟩)
          go_ret
          refine ⟨?_, bel (bel_alloc _ _) (bel_alloc _ _)⟩
          first | rfl | simp [*]
      · rw [e9]
        clear key e9
        have g0 : ∀ o o', ((w.alloc o).alloc o').cell? ⟨lb, lo + k * 2, none⟩ = some (.int .i64 K) := fun o o' => kc (bel (bel_alloc _ _) (bel_alloc _ _)) y0
        have g1 : ∀ o o', ((w.alloc o).alloc o').cell? ⟨lb, lo + k * 2 + 1, none⟩ = some (.int .i64 P) := fun o o' => kc (bel (bel_alloc _ _) (bel_alloc _ _)) y1
        by_cases h3 : K = 3
        · subst h3
          go_enter Tryz.func67, Tryz.ntmps67
          go_wp2_with (go_at_call 97; (with_reducible refine (KE.out _).mono ?_); rintro e w1 ⟨rfl, rfl⟩)
          go_ret
          refine ⟨?_, bel (bel_alloc _ _) (bel_alloc _ _)⟩
          first | rfl | simp [*]
        · have h3' : (K == 3) = false := by simpa using h3
          have h3b : (K != 3) = true := by simpa using h3
          rw [h3']
          clear h3
          go_enter Tryz.func67, Tryz.ntmps67
          go_wp2_with (go_at_call 97; (with_reducible refine (KE.out _).mono ?_); rintro e w1 ⟨rfl, rfl⟩)
          go_ret
          refine ⟨?_, bel (bel_alloc _ _) (bel_alloc _ _)⟩
          first | rfl | simp [*]
    by_cases a33 : op = 33
    · subst a33
      rw [show vecN ⟨33, D, A, B, E, nn, bb⟩ = A from rfl]
      rcases key A with ⟨hpl, e9⟩ | ⟨k, lb, lo, K, P, rfl, hkl, rfl, y0, y1, e9⟩
      · rw [e9]
        clear key e9
        by_cases h0 : A < 0
        · go_enter Tryz.func67, Tryz.ntmps67
          go_wp2_with (go_at_call 97; (with_reducible refine (KE.out _).mono ?_); rintro e w1 ⟨rfl, rfl⟩)
          go_ret
          refine ⟨?_, bel (bel_alloc _ _) (bel_alloc _ _)⟩
          first | rfl | simp [*]
        · have h1 : (N : Int) ≤ A := by unfold isPl at hpl; simp at hpl; omega
          go_enter Tryz.func67, Tryz.ntmps67
          go_wp2_with (go_at_call 97; (with_reducible refine (KE.out _).mono ?_); rintro e w1 ⟨rfl, rfl⟩)
          go_ret
          refine ⟨?_, bel (bel_alloc _ _) (bel_alloc _ _)⟩
          first | rfl | simp [*]
      · rw [e9]
        clear key e9
        have g0 : ∀ o o', ((w.alloc o).alloc o').cell? ⟨lb, lo + k * 2, none⟩ = some (.int .i64 K) := fun o o' => kc (bel (bel_alloc _ _) (bel_alloc _ _)) y0
        have g1 : ∀ o o', ((w.alloc o).alloc o').cell? ⟨lb, lo + k * 2 + 1, none⟩ = some (.int .i64 P) := fun o o' => kc (bel (bel_alloc _ _) (bel_alloc _ _)) y1
        by_cases h3 : K = 3
        · subst h3
          go_enter Tryz.func67, Tryz.ntmps67
          go_wp2_with (go_at_call 97; (with_reducible refine (KE.out _).mono ?_); rintro e w1 ⟨rfl, rfl⟩)
          go_ret
          refine ⟨?_, bel (bel_alloc _ _) (bel_alloc _ _)⟩
          first | rfl | simp [*]
        · have h3' : (K == 3) = false := by simpa using h3
          have h3b : (K != 3) = true := by simpa using h3
          rw [h3']
          clear h3
          go_enter Tryz.func67, Tryz.ntmps67
          go_wp2_with (go_at_call 97; (with_reducible refine (KE.out _).mono ?_); rintro e w1 ⟨rfl, rfl⟩)
          go_ret
          refine ⟨?_, bel (bel_alloc _ _) (bel_alloc _ _)⟩
          first | rfl | simp [*]
    · have b29 : (op == 29) = false := by simpa using a29
      have b30 : (op == 30) = false := by simpa using a30
      have b31 : (op == 31) = false := by simpa using a31
      have b32 : (op == 32) = false := by simpa using a32
      have b33 : (op == 33) = false := by simpa using a33
      rw [show vecN ⟨op, D, A, B, E, nn, bb⟩ = -1 by unfold vecN; simp [hX, b29, b30, b31, b32, b33]]
      rw [show vecR c.regs (-1) = -1 by unfold vecR isPl; simp]
      clear key a29 a30 a31 a32 a33
      go_enter Tryz.func67, Tryz.ntmps67
      go_wp2_with (go_at_call 97; (with_reducible refine (KE.out _).mono ?_); rintro e w1 ⟨rfl, rfl⟩)
      go_ret
      refine ⟨?_, bel (bel_alloc _ _) (bel_alloc _ _)⟩
      first | rfl | simp [*]
  · rw [hX] at KE
    rw [show vecN ⟨op, D, A, B, E, nn, bb⟩ = D by unfold vecN; simp [hX]]
    rcases key D with ⟨hpl, e9⟩ | ⟨k, lb, lo, K, P, rfl, hkl, rfl, y0, y1, e9⟩
    · rw [e9]
      clear key e9
      by_cases h0 : D < 0
      · go_enter Tryz.func67, Tryz.ntmps67
        go_wp2_with (go_at_call 97; (with_reducible refine (KE.out _).mono ?_); rintro e w1 ⟨rfl, rfl⟩)
        go_ret
        refine ⟨?_, bel (bel_alloc _ _) (bel_alloc _ _)⟩
        first | rfl | simp [*]
      · have h1 : (N : Int) ≤ D := by unfold isPl at hpl; simp at hpl; omega
        go_enter Tryz.func67, Tryz.ntmps67
        go_wp2_with (go_at_call 97; (with_reducible refine (KE.out _).mono ?_); rintro e w1 ⟨rfl, rfl⟩)
        go_ret
        refine ⟨?_, bel (bel_alloc _ _) (bel_alloc _ _)⟩
        first | rfl | simp [*]
    · rw [e9]
      clear key e9
      have g0 : ∀ o o', ((w.alloc o).alloc o').cell? ⟨lb, lo + k * 2, none⟩ = some (.int .i64 K) := fun o o' => kc (bel (bel_alloc _ _) (bel_alloc _ _)) y0
      have g1 : ∀ o o', ((w.alloc o).alloc o').cell? ⟨lb, lo + k * 2 + 1, none⟩ = some (.int .i64 P) := fun o o' => kc (bel (bel_alloc _ _) (bel_alloc _ _)) y1
      by_cases h3 : K = 3
      · subst h3
        go_enter Tryz.func67, Tryz.ntmps67
        go_wp2_with (go_at_call 97; (with_reducible refine (KE.out _).mono ?_); rintro e w1 ⟨rfl, rfl⟩)
        go_ret
        refine ⟨?_, bel (bel_alloc _ _) (bel_alloc _ _)⟩
        first | rfl | simp [*]
      · have h3' : (K == 3) = false := by simpa using h3
        have h3b : (K != 3) = true := by simpa using h3
        rw [h3']
        clear h3
        go_enter Tryz.func67, Tryz.ntmps67
        go_wp2_with (go_at_call 97; (with_reducible refine (KE.out _).mono ?_); rintro e w1 ⟨rfl, rfl⟩)
        go_ret
        refine ⟨?_, bel (bel_alloc _ _) (bel_alloc _ _)⟩
        first | rfl | simp [*]

end Go.Proofs.YtgcmnkanjcfndaaGreatDoor
namespace Go.Proofs.YtgcmnkanjcfndaaGreatDoor
set_option linter.unusedVariables false

/-- The value of rung k, in units of the least place; p: the fraction's bits. -/
def V (p k : Nat) : Nat := if k < 2 ^ p then k else (2 ^ p + k % 2 ^ p) * 2 ^ (k / 2 ^ p - 1)

theorem V_at (p t k : Nat) (h : k ≤ 2 * 2 ^ p) (h' : t = 0 ∨ 2 ^ p ≤ k) : V p (t * 2 ^ p + k) = k * 2 ^ t := by
  unfold V
  have hB : 0 < 2 ^ p := Nat.two_pow_pos p
  generalize 2 ^ p = B at *
  rcases Nat.lt_or_ge k B with c | c
  · have : t = 0 := by omega
    subst this
    simp [c]
  · have hge : ¬ (t * B + k < B) := by have := Nat.zero_le (t * B); omega
    rw [if_neg hge]
    rcases Nat.lt_or_ge k (2 * B) with c2 | c2
    · have e1 : (t * B + k) % B = k - B := by
        have : t * B + k = (k - B) + B * (t + 1) := by rw [Nat.mul_add, Nat.mul_comm]; omega
        rw [this, Nat.add_mul_mod_self_left, Nat.mod_eq_of_lt (by omega)]
      have e2 : (t * B + k) / B = t + 1 := by
        have : t * B + k = (k - B) + B * (t + 1) := by rw [Nat.mul_add, Nat.mul_comm]; omega
        rw [this, Nat.add_mul_div_left _ _ hB, Nat.div_eq_of_lt (by omega)]; omega
      rw [e1, e2, show B + (k - B) = k by omega, Nat.add_sub_cancel]
    · have hk : k = 2 * B := by omega
      subst hk
      have e0 : t * B + 2 * B = 0 + B * (t + 2) := by rw [Nat.mul_add, Nat.mul_comm]; omega
      rw [e0, Nat.add_mul_mod_self_left, Nat.add_mul_div_left _ _ hB, Nat.zero_mod, Nat.zero_div]
      rw [show 0 + (t + 2) - 1 = t + 1 by omega, Nat.pow_succ]
      grind

/-- Every rung is t * 2^p + k, with k from 2^p to below 2^(p+1), or t = 0. -/
theorem rung_split (p r : Nat) : ∃ t k, r = t * 2 ^ p + k ∧ k < 2 * 2 ^ p ∧ (t = 0 ∨ 2 ^ p ≤ k) ∧ t = r / 2 ^ p - 1 := by
  have hB : 0 < 2 ^ p := Nat.two_pow_pos p
  generalize 2 ^ p = B at *
  have hd := Nat.div_add_mod r B
  have hm := Nat.mod_lt r hB
  rcases Nat.lt_or_ge r B with c | c
  · exact ⟨0, r, by omega, by omega, Or.inl rfl, by rw [Nat.div_eq_of_lt c]⟩
  · have : 1 ≤ r / B := (Nat.le_div_iff_mul_le hB).2 (by omega)
    obtain ⟨t, ht⟩ : ∃ t, r / B = t + 1 := ⟨r / B - 1, by omega⟩
    refine ⟨t, B + r % B, ?_, by omega, Or.inr (by omega), by omega⟩
    rw [ht, Nat.mul_add, Nat.mul_comm] at hd
    omega

theorem V_step (p r : Nat) : V p (r + 1) = V p r + 2 ^ (r / 2 ^ p - 1) := by
  obtain ⟨t, k, hr, hk, h, ht⟩ := rung_split p r
  have e1 : V p r = k * 2 ^ t := by rw [hr]; exact V_at p t k (by omega) h
  have e2 : V p (r + 1) = (k + 1) * 2 ^ t := by rw [hr, Nat.add_assoc]; exact V_at p t (k + 1) (by omega) (by omega)
  rw [e1, e2, ← ht, Nat.add_mul, Nat.one_mul]

theorem V_lt_succ (p r : Nat) : V p r < V p (r + 1) := by
  rw [V_step]; have := Nat.two_pow_pos (r / 2 ^ p - 1); omega

theorem V_lt (p : Nat) {r s : Nat} (h : r < s) : V p r < V p s := by
  induction s with
  | zero => omega
  | succ s ih =>
    rcases Nat.lt_or_ge r s with c | c
    · exact Nat.lt_trans (ih c) (V_lt_succ p s)
    · have : r = s := by omega
      subst this; exact V_lt_succ p r

theorem V_inj (p : Nat) {r s : Nat} (h : V p r = V p s) : r = s := by
  rcases Nat.lt_trichotomy r s with c | c | c
  · have := V_lt p c; omega
  · exact c
  · have := V_lt p c; omega

theorem V_zero (p : Nat) : V p 0 = 0 := by
  have hB : 0 < 2 ^ p := Nat.two_pow_pos p
  simp [V, hB]

/-- k is n / (d * 2^t) made whole, to the nearest, of two the even one. -/
structure Cut (n d k t : Nat) : Prop where
  up : 2 * n ≤ (2 * k + 1) * 2 ^ t * d
  ue : 2 * n = (2 * k + 1) * 2 ^ t * d → k % 2 = 0
  dn : 2 * k * 2 ^ t * d ≤ 2 * n + 2 ^ t * d
  de : 2 * k * 2 ^ t * d = 2 * n + 2 ^ t * d → k % 2 = 0

/-- The rung nearest to mag * 2^place. -/
def rungOf (p : Nat) (L : Int) (mag : Nat) (place : Int) : Nat :=
  if mag = 0 then 0 else
  (max (place + mag.log2 - p) L - L).toNat * 2 ^ p + Ieee.Toward.even.cut false (mag <<< (place - max (place + mag.log2 - p) L).toNat) (max (place + mag.log2 - p) L - place).toNat

/-! ## Words of binary32 -/
def ng (a : Nat) : Bool := a / 2147483648 % 2 == 1
def rg (a : Nat) : Nat := a % 2147483648
def te (a : Nat) : Nat := rg a / 8388608 - 1
def mv (a : Nat) : Nat := V 23 (rg a)
def sg (s : Bool) (m : Nat) : Int := if s then -(m : Int) else m
def sv (a : Nat) : Int := sg (ng a) (mv a)
def R (n : Nat) : Nat := rungOf 23 (-149) n (-149)

end Go.Proofs.YtgcmnkanjcfndaaGreatDoor
/- The operations of binary32 as functions of patterns, and what the machine's NaNs come to. -/
namespace Go.Proofs.YtgcmnkanjcfndaaGreatDoor
set_option linter.unusedVariables false

section
variable {P : Program} (w : World)
end

end Go.Proofs.YtgcmnkanjcfndaaGreatDoor
/- Worlds that keep what lay there, one behind the other. -/
namespace Go.Proofs.YtgcmnkanjcfndaaGreatDoor
open Go.RowKit

end Go.Proofs.YtgcmnkanjcfndaaGreatDoor
/- The walks of package float. -/
namespace Go.Proofs.YtgcmnkanjcfndaaGreatDoor
open Go.RowKit
set_option linter.unusedVariables false

section
variable {P : Program} (w : World)
end

end Go.Proofs.YtgcmnkanjcfndaaGreatDoor
/- The root: by way of binary64, and of binary32 itself: the same. -/
namespace Go.Proofs.YtgcmnkanjcfndaaGreatDoor
open Go.RowKit
set_option linter.unusedVariables false

section
variable {P : Program} (w : World)
end

end Go.Proofs.YtgcmnkanjcfndaaGreatDoor
/- The order of binary32, by value; signs turned. -/
namespace Go.Proofs.YtgcmnkanjcfndaaGreatDoor
set_option linter.unusedVariables false

theorem rg_toNat (a : Int) (h0 : 0 ≤ a) : (rg a.toNat : Int) = a % 2147483648 := by unfold rg; omega
/-- Equal numbers are the same pattern, or both noughts. -/
theorem sv_inj {x y : Nat} (h : sv x = sv y) : rg x = rg y ∧ (ng x = ng y ∨ rg x = 0) := by
  have hz : ∀ z, mv z = 0 → rg z = 0 := by
    intro z hz; unfold mv at hz; rw [← V_zero 23] at hz; exact V_inj 23 hz
  have key : mv x = mv y ∧ (ng x = ng y ∨ mv x = 0) := by
    unfold sv sg at h
    cases hx : ng x <;> cases hy : ng y <;> rw [hx, hy] at h <;> simp only [if_true, if_false, Bool.false_eq_true] at h
    · exact ⟨by omega, Or.inl rfl⟩
    · exact ⟨by omega, Or.inr (by omega)⟩
    · exact ⟨by omega, Or.inr (by omega)⟩
    · exact ⟨by omega, Or.inl rfl⟩
  refine ⟨V_inj 23 key.1, ?_⟩
  rcases key.2 with e | e
  · exact Or.inl e
  · exact Or.inr (hz x e)

theorem toNat_parts (a : Int) (h0 : 0 ≤ a) (h1 : a < 4294967296) : a = (if ng a.toNat then 2147483648 else 0) + (rg a.toNat : Int) := by
  unfold ng rg; by_cases c : 2147483648 ≤ a
  · have : a.toNat / 2147483648 % 2 = 1 := by omega
    simp [this]; omega
  · have : a.toNat / 2147483648 % 2 = 0 := by omega
    simp [this]; omega

theorem pat_ext {a b : Int} (h0 : 0 ≤ a) (h1 : a < 4294967296) (g0 : 0 ≤ b) (g1 : b < 4294967296) (hr : rg a.toNat = rg b.toNat) (hs : ng a.toNat = ng b.toNat) : a = b := by
  rw [toNat_parts a h0 h1, toNat_parts b g0 g1, hr, hs]

end Go.Proofs.YtgcmnkanjcfndaaGreatDoor
/- The head of the statements of layer 2. -/
namespace Go.Proofs.YtgcmnkanjcfndaaGreatDoor
open Go.RowKit
set_option linter.unusedVariables false

end Go.Proofs.YtgcmnkanjcfndaaGreatDoor
/- The walks of the reference of layer 2: numbers, rounding. -/
namespace Go.Proofs.YtgcmnkanjcfndaaGreatDoor
open Go.RowKit
set_option linter.unusedVariables false

theorem and_mask64 (a : Int) (k : Nat) (hk : k < 64) (h0 : 0 ≤ a) (h1 : a < 18446744073709551616) : bits .and .u64 a ((2 ^ k - 1 : Nat) : Int) = a % ((2 ^ k : Nat) : Int) := by
  have hp : 2 ^ k < 2 ^ 64 := Nat.pow_lt_pow_right (by omega) hk
  have hq : 0 < 2 ^ k := Nat.two_pow_pos k
  obtain ⟨n, rfl⟩ := Int.eq_ofNat_of_zero_le h0
  rw [u64_and _ _ h0 h1 (by omega) (by omega), Int.toNat_natCast, Int.toNat_natCast, Nat.and_two_pow_sub_one_eq_mod]
  rfl
theorem and64_8 (a : Int) (h0 : 0 ≤ a) (h1 : a < 18446744073709551616) : bits .and .u64 a 255 = a % 256 := and_mask64 a 8 (by decide) h0 h1
theorem and64_23 (a : Int) (h0 : 0 ≤ a) (h1 : a < 18446744073709551616) : bits .and .u64 a 8388607 = a % 8388608 := and_mask64 a 23 (by decide) h0 h1

def nMin (a : Int) : Bool := a / 2147483648 == 1
def nM (a : Int) : Int := if a / 8388608 % 256 = 255 then 0 else if a / 8388608 % 256 = 0 then a % 8388608 else 8388608 + a % 8388608
def nE (a : Int) : Int := if a / 8388608 % 256 = 255 then 0 else if a / 8388608 % 256 = 0 then -149 else a / 8388608 % 256 - 150
def nInf (a : Int) : Bool := if a / 8388608 % 256 = 255 then a % 8388608 == 0 else false
def nNan (a : Int) : Bool := if a / 8388608 % 256 = 255 then a % 8388608 != 0 else false

set_option maxHeartbeats 400000 in
theorem rof_any (a : Int) (h0 : 0 ≤ a) (h1 : a < 4294967296) (w : World) :
    Calls Tryz.prog 126 #[.int .i64 a] w fun e w' => e = .returned (.agg #[.bool (nMin a), .int .u64 (nM a), .int .i64 (nE a), .bool (nInf a), .bool (nNan a)]) ∧ ∃ o, w' = (w.alloc o).alloc o := by
  have e1 := and64_8 (a / 8388608) (by omega) (by omega)
  have e2 := and64_23 a h0 (by omega)
  by_cases c : a / 8388608 % 256 = 255
  · have f1 : nM a = 0 := by unfold nM; rw [if_pos c]
    have f2 : nE a = 0 := by unfold nE; rw [if_pos c]
    have f3 : nInf a = (a % 8388608 == 0) := by unfold nInf; rw [if_pos c]
    have f4 : nNan a = (a % 8388608 != 0) := by unfold nNan; rw [if_pos c]
    rw [f1, f2, f3, f4]; unfold nMin; clear f1 f2 f3 f4
    go_enter Tryz.func126, Tryz.ntmps126
    go_wp2
    go_returns
    exact ⟨rfl, _, rfl⟩
  · by_cases c2 : a / 8388608 % 256 = 0
    · have f1 : nM a = a % 8388608 := by unfold nM; rw [if_neg c, if_pos c2]
      have f2 : nE a = -149 := by unfold nE; rw [if_neg c, if_pos c2]
      have f3 : nInf a = false := by unfold nInf; rw [if_neg c]
      have f4 : nNan a = false := by unfold nNan; rw [if_neg c]
      rw [f1, f2, f3, f4]; unfold nMin; clear f1 f2 f3 f4
      go_enter Tryz.func126, Tryz.ntmps126
      go_wp2
      go_returns
      exact ⟨rfl, _, rfl⟩
    · have f1 : nM a = 8388608 + a % 8388608 := by unfold nM; rw [if_neg c, if_neg c2]
      have f2 : nE a = a / 8388608 % 256 - 150 := by unfold nE; rw [if_neg c, if_neg c2]
      have f3 : nInf a = false := by unfold nInf; rw [if_neg c]
      have f4 : nNan a = false := by unfold nNan; rw [if_neg c]
      rw [f1, f2, f3, f4]; unfold nMin; clear f1 f2 f3 f4
      go_enter Tryz.func126, Tryz.ntmps126
      go_wp2
      go_returns
      exact ⟨rfl, _, rfl⟩

end Go.Proofs.YtgcmnkanjcfndaaGreatDoor
/- Round, of the reference of layer 2. -/
namespace Go.Proofs.YtgcmnkanjcfndaaGreatDoor
open Go.RowKit
set_option linter.unusedVariables false

end Go.Proofs.YtgcmnkanjcfndaaGreatDoor
/- The operations of the reference of layer 2. -/
namespace Go.Proofs.YtgcmnkanjcfndaaGreatDoor
open Go.RowKit
set_option linter.unusedVariables false

theorem nNan_iff (a : Int) (h0 : 0 ≤ a) (h1 : a < 4294967296) : nNan a = nan a := by
  unfold nNan nan
  by_cases c : a / 8388608 % 256 = 255
  · rw [if_pos c]
    by_cases d : a % 8388608 = 0
    · have : ¬ (2139095040 < a % 2147483648) := by omega
      simp [d, this]
    · have : 2139095040 < a % 2147483648 := by omega
      simp [d, this]
  · rw [if_neg c]; have : ¬ (2139095040 < a % 2147483648) := by omega
    simp [this]
theorem field_nan (w : World) (v0 v1 v2 v3 v4 : Value) : (Instr.field 180 (.agg #[v0, v1, v2, v3, v4]) 4).run Tryz.prog w = .ok v4 w := by
  simp [Instr.field, run_underlying Tryz.underlying180, asAgg, part, go_sem]

end Go.Proofs.YtgcmnkanjcfndaaGreatDoor
/- The order of the reference of layer 2. -/
namespace Go.Proofs.YtgcmnkanjcfndaaGreatDoor
open Go.RowKit
set_option linter.unusedVariables false

theorem mv_zero (x : Nat) : mv x = 0 ↔ rg x = 0 := by
  unfold mv
  constructor
  · intro h; rw [← V_zero 23] at h; exact V_inj 23 h
  · intro h; rw [h, V_zero]
theorem noughts (a b : Int) (h0 : 0 ≤ a) (h1 : a < 4294967296) (g0 : 0 ≤ b) (g1 : b < 4294967296) : sv a.toNat = sv b.toNat ↔ (a = b ∨ (a % 2147483648 = 0 ∧ b % 2147483648 = 0)) := by
  have hr := rg_toNat a h0
  have hs := rg_toNat b g0
  constructor
  · intro h
    obtain ⟨e, f⟩ := sv_inj h
    rcases f with f | f
    · exact Or.inl (pat_ext h0 h1 g0 g1 e f)
    · right; omega
  · rintro (h | ⟨h, k⟩)
    · rw [h]
    · have z1 := (mv_zero a.toNat).2 (by omega)
      have z2 := (mv_zero b.toNat).2 (by omega)
      unfold sv sg; rw [z1, z2]; simp
set_option maxHeartbeats 400000 in
theorem rcanon2_any (a : Int) (h0 : 0 ≤ a) (h1 : a < 4294967296) (w : World) :
    Calls Tryz.prog 94 #[.int .i64 a] w fun e w' => e = .returned (.int .i64 (canon a)) ∧ Below w.heap.size w w' := by
  have hf := field_nan
  unfold canon
  rw [← nNan_iff a h0 h1]
  cases hna : nNan a
  · rw [if_neg (by decide)]
    go_enter Tryz.func94, Tryz.ntmps94
    go_wp2_with (go_at_call 126; refine (rof_any _ (by omega) (by omega) _).mono ?_; rintro e w' ⟨rfl, o, rfl⟩)
    go_ret
    exact ⟨rfl, by go_grown⟩
  · rw [if_pos rfl]
    go_enter Tryz.func94, Tryz.ntmps94
    go_wp2_with (go_at_call 126; refine (rof_any _ (by omega) (by omega) _).mono ?_; rintro e w' ⟨rfl, o, rfl⟩)
    go_ret
    exact ⟨rfl, by go_grown⟩

end Go.Proofs.YtgcmnkanjcfndaaGreatDoor
/- The reference of layer 16: numbers that are told, slots. -/
namespace Go.Proofs.YtgcmnkanjcfndaaGreatDoor
open Go.RowKit
set_option linter.unusedVariables false
set_option linter.unusedSimpArgs false

set_option maxRecDepth 100000 in
set_option maxHeartbeats 1000000 in
theorem rcanonical_any (a : Int) (h0 : 0 ≤ a) (h1 : a < 4294967296) (w : World) : Calls Tryz.prog 65 #[.int .u32 a] w fun e w' => e = .returned (.bool (toldB a)) ∧ Below w.heap.size w w' := by
  have hc : toldB a = (canon a == a) := by unfold toldB canon; cases nan a <;> rw [Bool.eq_iff_iff] <;> simp
  rw [hc]
  have HK : Hid (∀ w, Calls Tryz.prog 94 #[.int .i64 a] w fun e w' => e = .returned (.int .i64 (canon a)) ∧ Below w.heap.size w w') := rcanon2_any a h0 h1
  have hw : IntKind.i64.wrap a = a := by rw [IntKind.wrap_i64]; omega
  clear hc
  obtain ⟨x, hx⟩ : ∃ x, canon a = x := ⟨_, rfl⟩
  rw [hx] at HK ⊢
  clear hx
  go_enter Tryz.func65, Tryz.ntmps65
  go_wp2_with (go_at_call 94; refine (HK.out _).mono ?_; rintro e w1 ⟨rfl, hb1⟩; have HB1 : Hid _ := hb1; clear hb1)
  go_ret
  exact ⟨rfl, HB1.out⟩

set_option maxRecDepth 100000 in
set_option maxHeartbeats 1000000 in
theorem rmaySlot_any (s : Sl) (h0 : 0 ≤ s.bits) (h1 : s.bits < 4294967296) (p : Option Addr) (n c : Nat) (hn : n ≤ 140737488351232) (w : World) :
    Calls Tryz.prog 32 #[slV s, .slice p n c] w fun e w' => e = .returned (.bool (slotMay s n)) ∧ Below w.heap.size w w' := by
  have HK : Hid (∀ w, Calls Tryz.prog 65 #[.int .u32 s.bits] w fun e w' => e = .returned (.bool (toldB s.bits)) ∧ Below w.heap.size w w') := rcanonical_any s.bits h0 h1
  have HT : Hid (∀ w, Calls Tryz.prog 31 #[tyV s.ty, .slice p n c] w fun e w' => e = .returned (.bool (typeMay s.ty n)) ∧ Below w.heap.size w w') := rmayType_any s.ty p n c hn
  obtain ⟨⟨K, P⟩, Q, B, I⟩ := s
  unfold slotMay begins slV wholeB
  unfold tyV at HT
  simp only at HK HT h0 h1 ⊢
  obtain ⟨X, hX⟩ : ∃ X, toldB B = X := ⟨_, rfl⟩
  obtain ⟨Y, hY⟩ : ∃ Y, typeMay ⟨K, P⟩ n = Y := ⟨_, rfl⟩
  rw [hX] at HK ⊢
  rw [hY] at HT ⊢
  clear hX hY
  cases Y
  · rw [Bool.false_and]
    go_enter Tryz.func32, Tryz.ntmps32
    go_wp2_with (first
      | (go_at_call 31; refine (HT.out _).mono ?_; rintro e w1 ⟨rfl, hb1⟩; have f0 : w1.cell? ⟨w.heap.size, 0, none⟩ = some (.int .i64 K) := kc hb1 (by simp [go_sem]); have f3 : w1.cell? ⟨w.heap.size, 3, none⟩ = some (.int .u32 B) := kc hb1 (by simp [go_sem]); have f4 : w1.cell? ⟨w.heap.size, 4, none⟩ = some (.int .i64 I) := kc hb1 (by simp [go_sem]); have HB1 : Hid _ := hb1; clear hb1)
      | (go_at_call 65; refine (HK.out _).mono ?_; rintro e w2 ⟨rfl, hb2⟩; have HB2 : Hid _ := hb2; clear hb2))
    go_ret
    first
      | refine ⟨ret_bool ?_, bel (bel_alloc _ _) (bel HB1.out HB2.out)⟩
      | refine ⟨ret_bool ?_, bel (bel_alloc _ _) HB1.out⟩
    first
      | (simp [*]; done)
      | (simp [*]; omega)
      | (simp [*]; intro h; omega)
  · rw [Bool.true_and]
    by_cases h2 : K = 2
    · subst h2
      rw [if_pos rfl]
      cases hb : (B == 0)
      · have hb' : (B != 0) = true := by simpa using hb
        go_enter Tryz.func32, Tryz.ntmps32
        go_wp2_with (first
          | (go_at_call 31; refine (HT.out _).mono ?_; rintro e w1 ⟨rfl, hb1⟩; have f0 : w1.cell? ⟨w.heap.size, 0, none⟩ = some (.int .i64 2) := kc hb1 (by simp [go_sem]); have f3 : w1.cell? ⟨w.heap.size, 3, none⟩ = some (.int .u32 B) := kc hb1 (by simp [go_sem]); have f4 : w1.cell? ⟨w.heap.size, 4, none⟩ = some (.int .i64 I) := kc hb1 (by simp [go_sem]); have HB1 : Hid _ := hb1; clear hb1)
          | (go_at_call 65; refine (HK.out _).mono ?_; rintro e w2 ⟨rfl, hb2⟩; have HB2 : Hid _ := hb2; clear hb2))
        go_ret
        first
          | refine ⟨ret_bool ?_, bel (bel_alloc _ _) (bel HB1.out HB2.out)⟩
          | refine ⟨ret_bool ?_, bel (bel_alloc _ _) HB1.out⟩
        first
          | (simp [*]; done)
          | (simp [*]; omega)
          | (simp [*]; intro h; omega)
      · by_cases hi : 0 ≤ I
        all_goals
          go_enter Tryz.func32, Tryz.ntmps32
          go_wp2_with (first
            | (go_at_call 31; refine (HT.out _).mono ?_; rintro e w1 ⟨rfl, hb1⟩; have f0 : w1.cell? ⟨w.heap.size, 0, none⟩ = some (.int .i64 2) := kc hb1 (by simp [go_sem]); have f3 : w1.cell? ⟨w.heap.size, 3, none⟩ = some (.int .u32 B) := kc hb1 (by simp [go_sem]); have f4 : w1.cell? ⟨w.heap.size, 4, none⟩ = some (.int .i64 I) := kc hb1 (by simp [go_sem]); have HB1 : Hid _ := hb1; clear hb1)
            | (go_at_call 65; refine (HK.out _).mono ?_; rintro e w2 ⟨rfl, hb2⟩; have HB2 : Hid _ := hb2; clear hb2))
          go_ret
          first
            | refine ⟨ret_bool ?_, bel (bel_alloc _ _) (bel HB1.out HB2.out)⟩
            | refine ⟨ret_bool ?_, bel (bel_alloc _ _) HB1.out⟩
          first
            | (simp [*]; done)
            | (simp [*]; omega)
            | (simp [*]; intro h; omega)
    · rw [if_neg h2]
      have h2' : (K == 2) = false := by simpa using h2
      clear h2
      cases hi : (I == 0)
      all_goals
        go_enter Tryz.func32, Tryz.ntmps32
        go_wp2_with (first
          | (go_at_call 31; refine (HT.out _).mono ?_; rintro e w1 ⟨rfl, hb1⟩; have f0 : w1.cell? ⟨w.heap.size, 0, none⟩ = some (.int .i64 K) := kc hb1 (by simp [go_sem]); have f3 : w1.cell? ⟨w.heap.size, 3, none⟩ = some (.int .u32 B) := kc hb1 (by simp [go_sem]); have f4 : w1.cell? ⟨w.heap.size, 4, none⟩ = some (.int .i64 I) := kc hb1 (by simp [go_sem]); have HB1 : Hid _ := hb1; clear hb1)
          | (go_at_call 65; refine (HK.out _).mono ?_; rintro e w2 ⟨rfl, hb2⟩; have HB2 : Hid _ := hb2; clear hb2))
        go_ret
        first
          | refine ⟨ret_bool ?_, bel (bel_alloc _ _) (bel HB1.out HB2.out)⟩
          | refine ⟨ret_bool ?_, bel (bel_alloc _ _) HB1.out⟩
        first
          | (simp [*]; done)
          | (simp [*]; omega)
          | (simp [*]; intro h; omega)

end Go.Proofs.YtgcmnkanjcfndaaGreatDoor
