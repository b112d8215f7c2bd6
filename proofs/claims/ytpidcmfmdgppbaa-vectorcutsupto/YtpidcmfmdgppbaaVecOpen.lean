import Derived.Test.YtpidcmfmdgppbaaVecLists
import Derived.Test.YtpidcmfmdgppbaaRows
import Derived.WalkKit
import Derived.ProofKit
import Derived.OpenShut
import Derived.JoinedCond
import Derived.Deep.Slices
/- Arguments opened: lists, and lists of lists, with what the bound gives. -/
namespace Go.Proofs.Ytpidcmfmdgppbaa
open Go.ChangeShapes Go.WideShapes Go.ChangeAt Go.RowKit
set_option linter.unusedVariables false

theorem bulk_one {H : Type} (d : DataW H) : 1 ≤ Rows.uptoBulk d := by
  cases d with
  | lit l => cases l <;> simp [Rows.uptoBulk]
  | _ => simp [Rows.uptoBulk]
theorem bulk_len {H : Type} : ∀ l : List (DataW H), l.length ≤ Rows.uptoBulkAll l
  | [] => Nat.zero_le _
  | d :: r => by have := bulk_one d; have := bulk_len r; simp only [Rows.uptoBulkAll, List.length_cons]; omega
theorem bulk_part {H : Type} {d : DataW H} : ∀ {l : List (DataW H)}, d ∈ l → Rows.uptoBulk d ≤ Rows.uptoBulkAll l
  | [], h => by cases h
  | x :: r, h => by
    simp only [Rows.uptoBulkAll]
    rcases List.mem_cons.1 h with rfl | h
    · omega
    · have := bulk_part h; omega

theorem cells_F : Try.prog.cellsOf 38 = 1 := by kernel_rfl

theorem cells_L : Try.prog.cellsOf 24 = 1 := by kernel_rfl

section
variable {H : Type} {enc : TypeId × Value → H} {w : World} {base fuel : Nat} {held : Bool} {v : Value} {d : DataW H} {pl : List MemPlace}

theorem open_F (h : DataW.trod enc Try.prog w base (fun _ => true) held fuel 24 [v] = some (d, pl)) :
    ∃ (p : Option Addr) (n c : Nat) (X : Nat → Int), v = .slice p n c ∧ (∀ i, IsP (X i)) ∧ (p = none → n = 0 ∧ c = 0) ∧ n ≤ c ∧ Reads w p n (fun i => .int .u32 (X i)) ∧ n ≤ Rows.uptoBulk d := by
  rcases open_ints Try.underlying24 Try.underlying38 cells_F h with ⟨hcs, hx⟩ | ⟨a, len, cap, zs, hcs, _, hl, hm, hz, hx, hcell, hwz⟩
  · simp only [List.cons.injEq, and_true] at hcs
    subst hcs
    exact ⟨none, 0, 0, fun _ => 0, rfl, fun _ => isP_0, fun _ => ⟨rfl, rfl⟩, Nat.le_refl _, .inl rfl, Nat.zero_le _⟩
  · simp only [List.cons.injEq, and_true] at hcs
    subst hcs
    simp only [Prod.mk.injEq] at hx
    obtain ⟨rfl, -⟩ := hx
    simp only [if_true] at hz
    refine ⟨some a, len, cap, fun i => zs.getD i 0, rfl, fun i => ?_, fun e => (by cases e), hl, ?_, ?_⟩
    · by_cases h : i < zs.length
      · have e : zs.getD i 0 = zs[i] := by simp [List.getD, h]
        have := bounds_u32 (hwz zs[i] (List.getElem_mem h))
        dsimp only; rw [e]; exact ⟨this.1, by have := this.2; omega⟩
      · have e : zs.getD i 0 = 0 := by simp [List.getD, List.getElem?_eq_none (Nat.not_lt.1 h)]
        dsimp only; rw [e]; exact isP_0
    · by_cases hl0 : len = 0
      · exact .inl hl0
      · obtain ⟨b, off, spot⟩ := a
        have hspot : spot = none := by simpa [Addr.add] using World.cell?_spot (hcell 0 (by omega))
        subst hspot
        exact .inr ⟨b, off, rfl, fun i hi => by rw [← add_plain]; exact hcell i (by omega)⟩
    · have := bulk_len (lits (H := H) .u32 (zs.take len))
      simp only [lits, List.length_map, List.length_take] at this
      simp only [Rows.uptoBulk]
      have e : Rows.uptoBulkAll (lits (H := H) .u32 (zs.take len)) = Rows.uptoBulkAll (List.map (fun n => DataW.lit (H := H) (Lit.int .u32 n)) (zs.take len)) := rfl
      omega

theorem open_L (h : DataW.trod enc Try.prog w base (fun _ => true) held fuel 22 [v] = some (d, pl)) :
    ∃ (q : Option Addr) (m cq : Nat) (P : Nat → Option Addr) (l c : Nat → Nat) (X : Nat → Nat → Int), v = .slice q m cq ∧ (∀ i j, IsP (X i j)) ∧ (q = none → m = 0 ∧ cq = 0) ∧ m ≤ cq ∧ (∀ i, P i = none → l i = 0 ∧ c i = 0) ∧ Lsts .u32 w q m P l c X ∧ m ≤ Rows.uptoBulk d ∧ (∀ i, l i ≤ Rows.uptoBulk d) := by
  rcases Go.Deep.open_slice1 Try.underlying22 cells_L h with ⟨hcs, hx⟩ | ⟨a, len, cap, m, n, V, D, Pl, hcs, _, hl, hm, hmm, hx, hel⟩
  · simp only [List.cons.injEq, and_true] at hcs
    subst hcs
    exact ⟨none, 0, 0, fun _ => none, fun _ => 0, fun _ => 0, fun _ _ => 0, rfl, fun _ _ => isP_0, fun _ => ⟨rfl, rfl⟩, Nat.le_refl _, fun _ _ => ⟨rfl, rfl⟩, ⟨.inl rfl, fun i hi => by omega⟩, Nat.zero_le _, fun _ => Nat.zero_le _⟩
  · simp only [List.cons.injEq, and_true] at hcs
    subst hcs
    simp only [Prod.mk.injEq] at hx
    obtain ⟨rfl, -⟩ := hx
    simp only [if_true] at hmm
    have hsub : ∀ i, i < len → Rows.uptoBulk (D i) ≤ Rows.uptoBulkAll ((List.range len).map D) := fun i hi => bulk_part (List.mem_map.2 ⟨i, List.mem_range.2 hi, rfl⟩)
    have hlen : len ≤ Rows.uptoBulkAll ((List.range len).map D) := by have := bulk_len ((List.range len).map D); simpa using this
    have key : ∀ i, i < len → ∃ x : Option Addr × Nat × Nat × (Nat → Int), V i = .slice x.1 x.2.1 x.2.2.1 ∧ (∀ j, IsP (x.2.2.2 j)) ∧ (x.1 = none → x.2.1 = 0 ∧ x.2.2.1 = 0) ∧ Reads w x.1 x.2.1 (fun j => .int .u32 (x.2.2.2 j)) ∧ x.2.1 ≤ Rows.uptoBulkAll ((List.range len).map D) := by
      intro i hi
      obtain ⟨p, n', c', X, e, h1, h2, -, h4, h5⟩ := open_F (hel i (by omega)).2
      have := hsub i hi
      exact ⟨(p, n', c', X), e, h1, h2, h4, by show n' ≤ _; omega⟩
    have : Inhabited (Option Addr × Nat × Nat × (Nat → Int)) := ⟨(none, 0, 0, fun _ => 0)⟩
    obtain ⟨f, hf⟩ := Go.Deep.choose_lt key
    have g : ∀ i, i < len → (if i < len then f i else (none, 0, 0, fun _ => 0)) = f i := fun i hi => if_pos hi
    refine ⟨some a, len, cap, fun i => (if i < len then f i else (none, 0, 0, fun _ => 0)).1, fun i => (if i < len then f i else (none, 0, 0, fun _ => 0)).2.1, fun i => (if i < len then f i else (none, 0, 0, fun _ => 0)).2.2.1, fun i => (if i < len then f i else (none, 0, 0, fun _ => 0)).2.2.2, rfl, ?_, fun e => (by cases e), hl, ?_, ⟨?_, ?_⟩, ?_, ?_⟩
    · intro i j
      dsimp only
      by_cases c : i < len
      · rw [if_pos c]; exact (hf i c).2.1 j
      · rw [if_neg c]; exact isP_0
    · intro i hi
      dsimp only at hi ⊢
      by_cases c : i < len
      · rw [if_pos c] at hi ⊢; exact (hf i c).2.2.1 hi
      · rw [if_neg c]; exact ⟨rfl, rfl⟩
    · by_cases hl0 : len = 0
      · exact .inl hl0
      · obtain ⟨b, off, spot⟩ := a
        have hspot : spot = none := by simpa [Addr.add] using World.cell?_spot (hel 0 (by omega)).1
        subst hspot
        exact .inr ⟨b, off, rfl, fun i hi => by dsimp only; rw [if_pos hi, ← (hf i hi).1, ← add_plain]; exact (hel i (by omega)).1⟩
    · intro i hi
      rw [if_pos hi]; exact (hf i hi).2.2.2.1
    · simp only [Rows.uptoBulk]; omega
    · intro i
      simp only [Rows.uptoBulk]
      by_cases c : i < len
      · rw [if_pos c]; have := (hf i c).2.2.2.2; omega
      · rw [if_neg c]; exact Nat.zero_le _
end

end Go.Proofs.Ytpidcmfmdgppbaa
