import Derived.Test.YtpidcmfmdgppbaaVecApply
/- Package vector: Apply, place by place. -/
namespace Go.Proofs.Ytpidcmfmdgppbaa
open Go.RowKit
set_option linter.unusedVariables false

/-- The element of list j at a place. -/
def elAt (l : Nat → Nat) (X : Nat → Nat → Int) (m i j : Nat) : Int := if j < m then X j (if l j = 1 then 0 else i) else 0
theorem isP_elAt {l : Nat → Nat} {X : Nat → Nat → Int} (hX : ∀ i j, IsP (X i j)) (m i j : Nat) : IsP (elAt l X m i j) := isP_ite (hX _ _) isP_0

theorem el_step (F : Nat → Int) (j k : Nat) : (if k = j then Value.int .u32 (F j) else .int .u32 (if k < j then F k else 0)) = .int .u32 (if k < j + 1 then F k else 0) := by
  by_cases h : k = j
  · subst h; rw [if_pos rfl, if_pos (by omega)]
  · rw [if_neg h]
    by_cases h2 : k < j
    · rw [if_pos h2, if_pos (by omega)]
    · rw [if_neg h2, if_neg (by omega)]

theorem two_rows (w : World) (t : TypeId) : ((w.alloc (.cells #[.int .u32 0, .int .u32 0, .int .u32 0] t)).alloc (.cells #[.int .u32 0, .int .u32 0, .int .u32 0] t)).rowIs (w.heap.size + 1) t 3 (fun _ => .int .u32 0) ∧ ((w.alloc (.cells #[.int .u32 0, .int .u32 0, .int .u32 0] t)).alloc (.cells #[.int .u32 0, .int .u32 0, .int .u32 0] t)).rowIs w.heap.size t 3 (fun _ => .int .u32 0) := by
  have h : ∀ i, i < 3 → (#[Value.int .u32 0, .int .u32 0, .int .u32 0] : Array Value)[i]? = some (.int .u32 0) := by
    intro i hi
    have : i = 0 ∨ i = 1 ∨ i = 2 := by omega
    rcases this with rfl | rfl | rfl <;> rfl
  have r1 := World.rowIs_alloc w #[.int .u32 0, .int .u32 0, .int .u32 0] t (fun _ => .int .u32 0) h
  have r2 := World.rowIs_alloc (w.alloc (.cells #[.int .u32 0, .int .u32 0, .int .u32 0] t)) #[.int .u32 0, .int .u32 0, .int .u32 0] t (fun _ => .int .u32 0) h
  have e : (w.alloc (.cells #[.int .u32 0, .int .u32 0, .int .u32 0] t)).heap.size = w.heap.size + 1 := by simp
  rw [e] at r2
  exact ⟨r2, r1.alloc _⟩

set_option maxRecDepth 100000 in
set_option maxHeartbeats 2000000 in
theorem argsAt_any (place b o m cq : Nat) (P : Nat → Option Addr) (l c : Nat → Nat) (X : Nat → Nat → Int) (hm : m ≤ 3) (hi : place ≤ 1048576) (hl : ∀ i, l i ≤ 1048576) (hpl : ∀ i, i < m → l i = 1 ∨ place < l i) (w : World) (hL : Lsts .u32 w (some ⟨b, o, none⟩) m P l c X) :
    Calls Try.prog 42 #[.int .i64 place, .slice (some ⟨b, o, none⟩) m cq] w fun e w' => e = .returned (.agg #[.int .u32 (elAt l X m place 0), .int .u32 (elAt l X m place 1), .int .u32 (elAt l X m place 2)]) ∧ Below w.heap.size w w' := by
  have HL : Hid (Lsts .u32 w (some ⟨b, o, none⟩) m P l c X ∧ (∀ i, l i ≤ 1048576) ∧ ∀ i, i < m → l i = 1 ∨ place < l i) := ⟨hL, hl, hpl⟩
  obtain ⟨E, HE⟩ : ∃ E : Nat → Int, Hid (E = elAt l X m place) := ⟨_, rfl⟩
  have HE0 := HE.out
  rw [← HE0]
  have T := two_rows w 66
  have HT : Hid (((w.alloc (.cells #[.int .u32 0, .int .u32 0, .int .u32 0] 66)).alloc (.cells #[.int .u32 0, .int .u32 0, .int .u32 0] 66)).rowIs (w.heap.size + 1) 66 3 (fun _ => .int .u32 0) ∧ ((w.alloc (.cells #[.int .u32 0, .int .u32 0, .int .u32 0] 66)).alloc (.cells #[.int .u32 0, .int .u32 0, .int .u32 0] 66)).rowIs w.heap.size 66 3 (fun _ => .int .u32 0)) := T
  clear hL hl hpl HE0 T
  go_enter Try.func42, Try.ntmps42
  go_wp2
  go_loopw [10] (fun iv wr => Below w.heap.size w wr ∧ ∃ j : Nat, j ≤ m ∧ iv = .int .i64 j ∧ Hid (wr.rowIs (w.heap.size + 1) 66 3 (fun i => .int .u32 (if i < j then E i else 0)) ∧ wr.rowIs w.heap.size 66 3 (fun _ => .int .u32 0))) (fun iv _ => m - (intOf iv).toNat)
  case atStart => exact ⟨by go_grown, 0, Nat.zero_le _, rfl, HT.out.1.congr fun i hi => by simp, HT.out.2⟩
  case round =>
    obtain ⟨hb, j, hj, rfl, hrow⟩ := hrel
    clear HT
    by_cases hlt : j < m
    · have h1 : wr.cell? ⟨b, o + j, none⟩ = some (.slice (P j) (l j) (c j)) := by
        rcases HL.out.1.heads with q | ⟨b', o', e, hh⟩
        · omega
        · cases e; exact (hb.cell (mcell_lt (hh j hlt))).trans (hh j hlt)
      have hpj := HL.out.2.2 j hlt
      have hlj := HL.out.2.1 j
      have HEj : E j = X j (if l j = 1 then 0 else place) := by rw [HE.out]; unfold elAt; rw [if_pos hlt]
      have hR := (HL.out.1.parts j hlt).below hb
      obtain ⟨L, hL0⟩ : ∃ L, L = l j := ⟨_, rfl⟩
      rw [← hL0] at h1 hpj hlj HEj hR
      clear hL0
      rcases hR with hR | ⟨b2, o2, hP, hR⟩
      · omega
      rw [hP] at h1
      clear hP
      have c1 := hrow.out.1.cell (i := j) (by omega)
      have f1 := hrow.out.1.frozen j
      have i1 : (0 : Int) ≤ (j : Int) := by omega
      have i2 : (j : Int) < (m : Int) := by omega
      have i3 : (j : Int) < 3 := by omega
      have j3 : j < 3 := by omega
      have HR : Hid (∀ x, (wr.setCell ⟨w.heap.size + 1, j, none⟩ x).rowIs (w.heap.size + 1) 66 3 (fun k => if k = j then x else .int .u32 (if k < j then E k else 0)) ∧ (wr.setCell ⟨w.heap.size + 1, j, none⟩ x).rowIs w.heap.size 66 3 (fun _ => .int .u32 0)) := fun x => ⟨hrow.out.1.set j x, hrow.out.2.setOther (by simp) x⟩
      by_cases hL1 : L = 1
      · have h2 : wr.cell? ⟨b2, o2, none⟩ = some (.int .u32 (E j)) := by have := hR 0 (by omega); rw [Nat.add_zero] at this; rw [this, HEj, if_pos hL1]
        subst hL1
        clear hR HEj hpj
        go_wp2
        go_roundw
        case rel => exact ⟨hb.setCell (by simp) _, j + 1, by omega, by go_num, (HR.out _).1.congr fun k hk => el_step E j k, (HR.out _).2⟩
        case measure => simp [intOf]; omega
      · have h2 : wr.cell? ⟨b2, o2 + place, none⟩ = some (.int .u32 (E j)) := by have := hR place (by omega); rw [this, HEj, if_neg hL1]
        have c9 : ¬ ((L : Int) = 1) := by omega
        have i4 : (0 : Int) ≤ (place : Int) := by omega
        have i5 : (place : Int) < (L : Int) := by omega
        clear hR HEj hpj
        go_wp2
        go_roundw
        case rel => exact ⟨hb.setCell (by simp) _, j + 1, by omega, by go_num, (HR.out _).1.congr fun k hk => el_step E j k, (HR.out _).2⟩
        case measure => simp [intOf]; omega
    · have : j = m := by omega
      subst this
      have e0 : ∀ k, k < 3 → (if k < j then E k else 0) = E k := by
        intro k hk
        by_cases q : k < j
        · rw [if_pos q]
        · rw [if_neg q, HE.out]; unfold elAt; rw [if_neg q]
      have r1 := hrow.out.1.congr (g := fun i => .int .u32 (E i)) (fun i hi => by rw [e0 i hi])
      have c0 := r1.cell (i := 0) (by omega)
      have c1 := r1.cell (i := 1) (by omega)
      have c2 := r1.cell (i := 2) (by omega)
      have r0 := hrow.out.2
      have d0 := r0.cell (i := 0) (by omega)
      have d1 := r0.cell (i := 1) (by omega)
      have d2 := r0.cell (i := 2) (by omega)
      have f0 := r0.frozen 0
      have f1 := r0.frozen 1
      have f2 := r0.frozen 2
      have r3 := ((r0.set 0 (.int .u32 (E 0))).set 1 (.int .u32 (E 1))).set 2 (.int .u32 (E 2))
      have g0 := r3.cell (i := 0) (by omega)
      have g1 := r3.cell (i := 1) (by omega)
      have g2 := r3.cell (i := 2) (by omega)
      simp only [Nat.reduceEqDiff, if_true, if_false] at g0 g1 g2
      clear r1 r0 r3 e0 hrow
      go_wp2
      refine bodyPost_ret (by simp [results, Try.results42, go_sem, *]; try rfl) rfl ?_
      exact ⟨rfl, ((hb.setCell (Nat.le_refl _) _).setCell (Nat.le_refl _) _).setCell (Nat.le_refl _) _⟩

end Go.Proofs.Ytpidcmfmdgppbaa
