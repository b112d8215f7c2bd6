import Derived.Test.YtnlgkkbmbijndaaGreatBck31
import Derived.Test.YtnlgkkbmbijndaaGreatBck12
/- The reference of layer 16: Check. -/
namespace Go.Proofs.YtnlgkkbmbijndaaGreat
open Go.RowKit
set_option linter.unusedVariables false
set_option linter.unusedSimpArgs false

/-- The worlds of Check: the code's box. -/
structure CX (w : World) (v0 v1 v2 v3 : Value) (v : World) : Prop where
  bel : Below w.heap.size w v
  lt : w.heap.size < v.heap.size
  c0 : v.cell? ⟨w.heap.size, 0, none⟩ = some v0
  c1 : v.cell? ⟨w.heap.size, 1, none⟩ = some v1
  c2 : v.cell? ⟨w.heap.size, 2, none⟩ = some v2
  c3 : v.cell? ⟨w.heap.size, 3, none⟩ = some v3
theorem CX.next {w : World} {v0 v1 v2 v3 : Value} {v v' : World} (h : CX w v0 v1 v2 v3 v) (k : Below v.heap.size v v') : CX w v0 v1 v2 v3 v' :=
  ⟨Go.Proofs.YtnlgkkbmbijndaaGreat.bel h.bel k, Nat.lt_of_lt_of_le h.lt k.size, kc k h.c0, kc k h.c1, kc k h.c2, kc k h.c3⟩
theorem CX.on {w : World} {v0 v1 v2 v3 : Value} {v v' : World} (h : CX w v0 v1 v2 v3 v) (k : Below (w.heap.size + 1) v v') : CX w v0 v1 v2 v3 v' :=
  have f : ∀ j, v'.cell? ⟨w.heap.size, j, none⟩ = v.cell? ⟨w.heap.size, j, none⟩ := fun j => k.cell (Nat.lt_succ_self _)
  ⟨h.bel.trans (k.mono (Nat.le_succ _)), Nat.lt_of_lt_of_le h.lt k.size, (f 0).trans h.c0, (f 1).trans h.c1, (f 2).trans h.c2, (f 3).trans h.c3⟩
theorem CX.start (w : World) (v0 v1 v2 v3 : Value) : CX w v0 v1 v2 v3 (w.alloc (.cells #[v0, v1, v2, v3] 27)) :=
  ⟨bel_alloc _ _, by simp, by simp [go_sem], by simp [go_sem], by simp [go_sem], by simp [go_sem]⟩
theorem all_take {α : Type} (p : α → Bool) {l : List α} {k : Nat} (h : k < l.length) (ht : (l.take k).all p = true) (hp : p l[k] = true) : (l.take (k + 1)).all p = true := by
  rw [List.take_succ_eq_append_getElem h, List.all_append, ht]
  simp [hp]
theorem all_not {α : Type} (p : α → Bool) {l : List α} {k : Nat} (h : k < l.length) (hp : p l[k] = false) : l.all p = false := by
  rw [List.all_eq_false]
  exact ⟨l[k], List.getElem_mem h, by simp [hp]⟩

set_option maxRecDepth 100000 in
set_option maxHeartbeats 8000000 in
theorem rcheck_early (v0 v1 v2 v3 : Value) (c : Cd) (hk : CdOk c) (w : World) (hv : CdV w v0 v1 v2 v3 c) (E : Int) (hE : (checkP c.sign ≠ 0 ∧ E = checkP c.sign) ∨ (checkP c.sign = 0 ∧ (16384 < c.regs.length ∨ 32768 < c.list.length) ∧ E = 181) ∨ (checkP c.sign = 0 ∧ ¬ 16384 < c.regs.length ∧ ¬ 32768 < c.list.length ∧ 4096 < c.slots.length ∧ E = 180)) :
    Calls Tryz.prog 15 #[.agg #[v0, v1, v2, v3]] w fun e w' => e = .returned (.tuple #[.int .i64 E, .int .i64 (-1)]) ∧ Below w.heap.size w w' := by
  have hSG : ∀ v, Below w.heap.size w v → Calls Tryz.prog 32 #[v0] v fun e w' => e = .returned (.int .i64 (checkP c.sign)) ∧ Below v.heap.size v w' := fun v hb => rCheck_any v0 c.sign hk.signL hk.names v (hv.below hb).sign.rd
  have l1 := hk.regsL
  have l2 := hk.slotsL
  have l3 := hk.listL
  obtain ⟨p0, q0, rfl, -⟩ := id hv.sign
  obtain ⟨p1, q1, rfl, -⟩ := id hv.regs
  obtain ⟨p2, q2, rfl, -⟩ := id hv.slots
  obtain ⟨p3, q3, rfl, -⟩ := id hv.list
  obtain ⟨n0, hn0⟩ : ∃ n, c.sign.length = n := ⟨_, rfl⟩
  obtain ⟨n1, hn1⟩ : ∃ n, c.regs.length = n := ⟨_, rfl⟩
  obtain ⟨n2, hn2⟩ : ∃ n, c.slots.length = n := ⟨_, rfl⟩
  obtain ⟨n3, hn3⟩ : ∃ n, c.list.length = n := ⟨_, rfl⟩
  obtain ⟨K, hK⟩ : ∃ n, checkP c.sign = n := ⟨_, rfl⟩
  rw [hn0, hK] at hSG
  rw [hK, hn1, hn2, hn3] at hE
  rw [hn1] at l1
  rw [hn2] at l2
  rw [hn3] at l3
  rw [hn0, hn1, hn2, hn3]
  have HSG : Hid _ := hSG
  clear hSG hn0 hn1 hn2 hn3 hK hv hk
  rcases hE with ⟨h1, rfl⟩ | ⟨rfl, h2, rfl⟩ | ⟨rfl, h2, h3, h4, rfl⟩
  · have h1' : (E == 0) = false := by simpa using h1
    have h1'' : (E != 0) = true := by simpa using h1
    go_enter Tryz.func15, Tryz.ntmps15
    go_wp2_with (go_at_call 32; (with_reducible refine (HSG.out _ (bel_alloc _ _)).mono ?_); rintro e w1 ⟨rfl, hb1⟩; have HX1 : Hid (CX w (.slice p0 n0 q0) (.slice p1 n1 q1) (.slice p2 n2 q2) (.slice p3 n3 q3) w1) := (CX.start w _ _ _ _).next hb1; obtain ⟨b1, b2, c0, c1, c2, c3⟩ := HX1.out; clear hb1)
    all_goals go_ret2
    all_goals exact ⟨rfl, HX1.out.bel⟩
  · by_cases h5 : 16384 < n1
    · have h6 : (16384 : Int) < (n1 : Int) := by omega
      go_enter Tryz.func15, Tryz.ntmps15
      go_wp2_with (go_at_call 32; (with_reducible refine (HSG.out _ (bel_alloc _ _)).mono ?_); rintro e w1 ⟨rfl, hb1⟩; have HX1 : Hid (CX w (.slice p0 n0 q0) (.slice p1 n1 q1) (.slice p2 n2 q2) (.slice p3 n3 q3) w1) := (CX.start w _ _ _ _).next hb1; obtain ⟨b1, b2, c0, c1, c2, c3⟩ := HX1.out; clear hb1)
      all_goals go_ret2
      all_goals exact ⟨rfl, HX1.out.bel⟩
    · have h6 : (n1 : Int) ≤ 16384 := by omega
      have h7 : (32768 : Int) < (n3 : Int) := by omega
      clear h5
      go_enter Tryz.func15, Tryz.ntmps15
      go_wp2_with (go_at_call 32; (with_reducible refine (HSG.out _ (bel_alloc _ _)).mono ?_); rintro e w1 ⟨rfl, hb1⟩; have HX1 : Hid (CX w (.slice p0 n0 q0) (.slice p1 n1 q1) (.slice p2 n2 q2) (.slice p3 n3 q3) w1) := (CX.start w _ _ _ _).next hb1; obtain ⟨b1, b2, c0, c1, c2, c3⟩ := HX1.out; clear hb1)
      all_goals go_ret2
      all_goals exact ⟨rfl, HX1.out.bel⟩
  · have h6 : (n1 : Int) ≤ 16384 := by omega
    have h7 : (n3 : Int) ≤ 32768 := by omega
    have h8 : (4096 : Int) < (n2 : Int) := by omega
    go_enter Tryz.func15, Tryz.ntmps15
    go_wp2_with (go_at_call 32; (with_reducible refine (HSG.out _ (bel_alloc _ _)).mono ?_); rintro e w1 ⟨rfl, hb1⟩; have HX1 : Hid (CX w (.slice p0 n0 q0) (.slice p1 n1 q1) (.slice p2 n2 q2) (.slice p3 n3 q3) w1) := (CX.start w _ _ _ _).next hb1; obtain ⟨b1, b2, c0, c1, c2, c3⟩ := HX1.out; clear hb1)
    all_goals go_ret2
    all_goals exact ⟨rfl, HX1.out.bel⟩

end Go.Proofs.YtnlgkkbmbijndaaGreat
