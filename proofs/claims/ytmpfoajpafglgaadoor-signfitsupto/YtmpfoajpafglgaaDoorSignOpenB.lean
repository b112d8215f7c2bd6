import Derived.Test.YtmpfoajpafglgaaDoorSignFits
import Derived.Test.YtmpfoajpafglgaaDoorRows
import Derived.WalkKit
import Derived.ProofKit
import Derived.OpenShut
import Derived.JoinedCond
import Derived.Deep.Slices
import Derived.Deep.Strs
/- Arguments opened, with what the bound gives: a list of parameters, a list of whole numbers. -/
namespace Go.Proofs.YtmpfoajpafglgaaDoor
open Go.ChangeShapes Go.WideShapes Go.ChangeAt Go.RowKit
set_option linter.unusedVariables false

theorem bulk_one {H : Type} (d : DataW H) : 1 ≤ Rows.uptoBulk d := by
  cases d with
  | lit l => cases l <;> simp [Rows.uptoBulk]
  | _ => simp [Rows.uptoBulk]
theorem bulk_len {H : Type} : ∀ l : List (DataW H), l.length ≤ Rows.uptoBulkAll l
  | [] => Nat.zero_le _
  | d :: r => by have := bulk_one d; have := bulk_len r; simp only [Rows.uptoBulkAll, List.length_cons]; omega
theorem bulk_part {H : Type} {d : DataW H} : ∀ {l : List (DataW H)}, d ∈ l → Rows.uptoBulk d ≤ Rows.uptoBulkAll l
  | [], h => by cases h
  | x :: r, h => by
    simp only [Rows.uptoBulkAll]
    rcases List.mem_cons.1 h with rfl | h
    · omega
    · have := bulk_part h; omega
theorem cells_Param' : Tryd.prog.cellsOf 30 = 3 := by kernel_rfl
theorem cells_int' : Tryd.prog.cellsOf 3 = 1 := by kernel_rfl

section
variable {H : Type} {enc : TypeId × Value → H} {w : World} {base fuel : Nat} {held : Bool} {v : Value} {d : DataW H} {pl : List MemPlace}

set_option maxRecDepth 100000 in
theorem open_ParB {cs : List Value} {d : DataW H} {pl : List MemPlace} (h : DataW.trod enc Tryd.prog w base (fun _ => true) held fuel 30 cs = some (d, pl)) :
    ∃ q : Par, cs = parCells q ∧ q.name.size ≤ Rows.uptoBulk d := by
  obtain ⟨y0, y1, y2, m, hx, hl, h0, h1, h2⟩ := Go.Deep.trod_struct3 Tryd.underlying30 h
  rw [cells_Param'] at hl
  match cs, hl with
  | [v0, v1, v2], _ =>
    obtain ⟨d0, q0⟩ := y0
    obtain ⟨d1, q1⟩ := y1
    obtain ⟨d2, q2⟩ := y2
    have e0 : DataW.trod enc Tryd.prog w base (fun _ => true) held m 9 [v0] = some (d0, q0) := h0
    have e1 : DataW.trod enc Tryd.prog w base (fun _ => true) held m 3 [v1] = some (d1, q1) := h1
    have e2 : DataW.trod enc Tryd.prog w base (fun _ => true) held m 3 [v2] = some (d2, q2) := h2
    obtain ⟨a0, c0, hd0, w0⟩ := DataW.trod_string Tryd.underlying9 e0
    obtain ⟨a1, c1, hd1, w1⟩ := DataW.trod_int Tryd.underlying3 e1
    obtain ⟨a2, c2, hd2, w2⟩ := DataW.trod_int Tryd.underlying3 e2
    simp only [List.cons.injEq, and_true] at c0 c1 c2
    subst c0 c1 c2
    simp only [Prod.mk.injEq] at hx hd0 hd1 hd2
    obtain ⟨rfl, -⟩ := hx
    refine ⟨⟨a0, a1, a2⟩, rfl, ?_⟩
    rw [hd0.1]
    simp only [Rows.uptoBulk, Rows.uptoBulkAll]
    have : a0.data.toList.length = a0.size := by simp
    omega

set_option maxRecDepth 100000 in
theorem open_ParsB (h : DataW.trod enc Tryd.prog w base (fun _ => true) held fuel 22 [v] = some (d, pl)) :
    ∃ (p : Option Addr) (c : Nat) (l : List Par), v = .slice p l.length c ∧ Row w p l ∧ l.length ≤ Rows.uptoBulk d ∧ (∀ q ∈ l, q.name.size ≤ Rows.uptoBulk d) := by
  rcases Go.Deep.open_slice Tryd.underlying22 h with ⟨hcs, hx⟩ | ⟨a, len, cap, m, n, D, Pl, hcs, _, hl, hm, hmm, hx, hel⟩
  · simp only [List.cons.injEq, and_true] at hcs
    subst hcs
    exact ⟨none, 0, [], rfl, .inl rfl, Nat.zero_le _, fun t h => by cases h⟩
  · simp only [List.cons.injEq, and_true] at hcs
    subst hcs
    simp only [Prod.mk.injEq] at hx
    obtain ⟨rfl, -⟩ := hx
    simp only [if_true] at hmm
    have hsub : ∀ i, i < len → Rows.uptoBulk (D i) ≤ Rows.uptoBulkAll ((List.range len).map D) := fun i hi => bulk_part (List.mem_map.2 ⟨i, List.mem_range.2 hi, rfl⟩)
    have hlen : len ≤ Rows.uptoBulkAll ((List.range len).map D) := by have := bulk_len ((List.range len).map D); simpa using this
    have key : ∀ i, i < len → ∃ q : Par, (∀ k, k < 3 → w.cell? (a.add (i * 3 + k)) = (parCells q)[k]?) ∧ q.name.size ≤ Rows.uptoBulk (D i) := by
      intro i hi
      obtain ⟨cs', h1, h2⟩ := hel i (by omega)
      rw [cells_Param'] at h1
      obtain ⟨_, hlen3, hcell⟩ := World.cells?_some h1
      obtain ⟨q, hcs, hX⟩ := open_ParB h2
      refine ⟨q, fun k hk => ?_, hX⟩
      have := hcell k hk
      rw [Go.Deep.add_add, hcs] at this
      exact this
    have : Inhabited Par := ⟨⟨⟨#[]⟩, 0, 0⟩⟩
    obtain ⟨f, hf⟩ := Go.Deep.choose_lt key
    have hTl : ((List.range len).map f).length = len := by simp
    refine ⟨some a, cap, (List.range len).map f, by rw [hTl], ?_, ?_, ?_⟩
    · by_cases hl0 : len = 0
      · left; simp [hl0]
      · obtain ⟨b, off, spot⟩ := a
        have hspot : spot = none := by simpa [Addr.add] using World.cell?_spot ((hf 0 (by omega)).1 0 (by decide))
        subst hspot
        refine .inr ⟨b, off, rfl, fun i hi => ?_⟩
        have hi' : i < len := by rw [hTl] at hi; exact hi
        obtain ⟨g, -⟩ := hf i hi'
        have e : ((List.range len).map f)[i] = f i := by simp
        simp only [add_plain] at g
        rw [e]
        have g' : ∀ k, k < 3 → w.cell? ⟨b, off + i * 3 + k, none⟩ = (parCells (f i))[k]? := fun k hk => by rw [Nat.add_assoc]; exact g k hk
        exact ⟨g' 0 (by decide), g' 1 (by decide), g' 2 (by decide)⟩
    · rw [hTl]
      simp only [Rows.uptoBulk]
      omega
    · intro t ht
      obtain ⟨i, hi, rfl⟩ := List.mem_map.1 ht
      have g := (hf i (List.mem_range.1 hi)).2
      have := hsub i (List.mem_range.1 hi)
      simp only [Rows.uptoBulk]
      omega

theorem open_IntsB (h : DataW.trod enc Tryd.prog w base (fun _ => true) held fuel 44 [v] = some (d, pl)) :
    ∃ (p : Option Addr) (c : Nat) (xs : List Int), v = .slice p xs.length c ∧ RdI w p xs ∧ xs.length ≤ Rows.uptoBulk d := by
  rcases open_ints Tryd.underlying44 Tryd.underlying3 cells_int' h with ⟨hcs, hx⟩ | ⟨a, len, cap, zs, hcs, _, hl, hm, hz, hx, hcell, hwz⟩
  · simp only [List.cons.injEq, and_true] at hcs
    subst hcs
    exact ⟨none, 0, [], rfl, .inl rfl, Nat.zero_le _⟩
  · simp only [List.cons.injEq, and_true] at hcs
    subst hcs
    simp only [Prod.mk.injEq] at hx
    obtain ⟨rfl, -⟩ := hx
    simp only [if_true] at hz
    have hlt : (zs.take len).length = len := by rw [List.length_take]; omega
    refine ⟨some a, cap, zs.take len, by rw [hlt], ?_, ?_⟩
    · by_cases hl0 : len = 0
      · left; rw [hl0]; rfl
      · obtain ⟨b, off, spot⟩ := a
        have hspot : spot = none := by simpa [Addr.add] using World.cell?_spot (hcell 0 (by omega))
        subst hspot
        refine .inr ⟨b, off, rfl, fun i hi => ?_⟩
        have hi' : i < len := by rw [hlt] at hi; exact hi
        have := hcell i (by omega)
        rw [add_plain] at this
        rw [this]
        have hzi : i < zs.length := by omega
        simp [List.getD, hzi]
    · have := bulk_len (lits (H := H) .i64 (zs.take len))
      simp only [lits, List.length_map, List.length_take] at this
      simp only [Rows.uptoBulk]
      rw [hlt]
      simp only [lits]
      omega
end

end Go.Proofs.YtmpfoajpafglgaaDoor
