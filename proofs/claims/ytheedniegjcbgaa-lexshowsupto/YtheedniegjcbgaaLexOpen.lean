import Derived.Test.YtheedniegjcbgaaLexShows
import Derived.Test.YtheedniegjcbgaaRows
import Derived.WalkKit
import Derived.ProofKit
import Derived.OpenShut
import Derived.JoinedCond
import Derived.Deep.Slices
import Derived.Deep.Strs
/- An argument opened: a list of tokens, with what the bound gives. -/
namespace Go.Proofs.Ytheedniegjcbgaa
open Go.ChangeShapes Go.WideShapes Go.ChangeAt Go.RowKit
set_option linter.unusedVariables false

theorem bulk_one {H : Type} (d : DataW H) : 1 ≤ Rows.uptoBulk d := by
  cases d with
  | lit l => cases l <;> simp [Rows.uptoBulk]
  | _ => simp [Rows.uptoBulk]
theorem bulk_len {H : Type} : ∀ l : List (DataW H), l.length ≤ Rows.uptoBulkAll l
  | [] => Nat.zero_le _
  | d :: r => by have := bulk_one d; have := bulk_len r; simp only [Rows.uptoBulkAll, List.length_cons]; omega
theorem bulk_part {H : Type} {d : DataW H} : ∀ {l : List (DataW H)}, d ∈ l → Rows.uptoBulk d ≤ Rows.uptoBulkAll l
  | [], h => by cases h
  | x :: r, h => by
    simp only [Rows.uptoBulkAll]
    rcases List.mem_cons.1 h with rfl | h
    · omega
    · have := bulk_part h; omega

theorem cells_Token : Try.prog.cellsOf 34 = 3 := by kernel_rfl

section
variable {H : Type} {enc : TypeId × Value → H} {w : World} {base fuel : Nat} {held : Bool} {v : Value} {d : DataW H} {pl : List MemPlace}

theorem open_Token {cs : List Value} {d : DataW H} {pl : List MemPlace} (h : DataW.trod enc Try.prog w base (fun _ => true) held fuel 34 cs = some (d, pl)) :
    ∃ (K : Int) (X : Bs) (A : Int), cs = [.int .i64 K, .string ⟨X.toArray⟩, .int .i64 A] ∧ X.length ≤ Rows.uptoBulk d := by
  obtain ⟨y0, y1, y2, m, hx, hl, h0, h1, h2⟩ := Go.Deep.trod_struct3 Try.underlying34 h
  rw [cells_Token] at hl
  match cs, hl with
  | [v0, v1, v2], _ =>
    obtain ⟨d0, q0⟩ := y0
    obtain ⟨d1, q1⟩ := y1
    obtain ⟨d2, q2⟩ := y2
    have e0 : DataW.trod enc Try.prog w base (fun _ => true) held m 3 [v0] = some (d0, q0) := h0
    have e1 : DataW.trod enc Try.prog w base (fun _ => true) held m 9 [v1] = some (d1, q1) := h1
    have e2 : DataW.trod enc Try.prog w base (fun _ => true) held m 3 [v2] = some (d2, q2) := h2
    obtain ⟨a0, c0, hd0, w0⟩ := DataW.trod_int Try.underlying3 e0
    obtain ⟨a1, c1, hd1, w1⟩ := DataW.trod_string Try.underlying9 e1
    obtain ⟨a2, c2, hd2, w2⟩ := DataW.trod_int Try.underlying3 e2
    simp only [List.cons.injEq, and_true] at c0 c1 c2
    subst c0 c1 c2
    simp only [Prod.mk.injEq] at hx hd0 hd1 hd2
    obtain ⟨rfl, -⟩ := hx
    refine ⟨a0, bs a1, a2, by rw [← of_bs], ?_⟩
    rw [hd1.1]
    simp only [Rows.uptoBulk, Rows.uptoBulkAll, bs]
    omega

theorem open_T (h : DataW.trod enc Try.prog w base (fun _ => true) held fuel 22 [v] = some (d, pl)) :
    ∃ (p : Option Addr) (c : Nat) (T : List Tok) (α : Nat → Int), v = .slice p T.length c ∧ (p = none → T.length = 0 ∧ c = 0) ∧ RowG w p T α ∧ T.length ≤ Rows.uptoBulk d ∧ (∀ t ∈ T, t.text.length ≤ Rows.uptoBulk d) := by
  rcases Go.Deep.open_slice Try.underlying22 h with ⟨hcs, hx⟩ | ⟨a, len, cap, m, n, D, Pl, hcs, _, hl, hm, hmm, hx, hel⟩
  · simp only [List.cons.injEq, and_true] at hcs
    subst hcs
    exact ⟨none, 0, [], fun _ => 0, rfl, fun _ => ⟨rfl, rfl⟩, .inl rfl, Nat.zero_le _, fun t h => by cases h⟩
  · simp only [List.cons.injEq, and_true] at hcs
    subst hcs
    simp only [Prod.mk.injEq] at hx
    obtain ⟨rfl, -⟩ := hx
    simp only [if_true] at hmm
    have hsub : ∀ i, i < len → Rows.uptoBulk (D i) ≤ Rows.uptoBulkAll ((List.range len).map D) := fun i hi => bulk_part (List.mem_map.2 ⟨i, List.mem_range.2 hi, rfl⟩)
    have hlen : len ≤ Rows.uptoBulkAll ((List.range len).map D) := by have := bulk_len ((List.range len).map D); simpa using this
    have key : ∀ i, i < len → ∃ x : Int × Bs × Int, w.cell? (a.add (i * 3)) = some (.int .i64 x.1) ∧ w.cell? (a.add (i * 3 + 1)) = some (.string ⟨x.2.1.toArray⟩) ∧ w.cell? (a.add (i * 3 + 2)) = some (.int .i64 x.2.2) ∧ x.2.1.length ≤ Rows.uptoBulk (D i) := by
      intro i hi
      obtain ⟨cs', h1, h2⟩ := hel i (by omega)
      rw [cells_Token] at h1
      obtain ⟨_, hlen3, hcell⟩ := World.cells?_some h1
      obtain ⟨K, X, A, rfl, hX⟩ := open_Token h2
      refine ⟨(K, X, A), ?_, ?_, ?_, hX⟩
      · have := hcell 0 (by decide); rw [Go.Deep.add_add] at this; simpa using this
      · have := hcell 1 (by decide); rw [Go.Deep.add_add] at this; simpa using this
      · have := hcell 2 (by decide); rw [Go.Deep.add_add] at this; simpa using this
    have : Inhabited (Int × Bs × Int) := ⟨(0, [], 0)⟩
    obtain ⟨f, hf⟩ := Go.Deep.choose_lt key
    have hTl : ((List.range len).map fun i => (⟨(f i).1, (f i).2.1, 0⟩ : Tok)).length = len := by simp
    refine ⟨some a, cap, (List.range len).map fun i => ⟨(f i).1, (f i).2.1, 0⟩, fun i => (f i).2.2, by rw [hTl], fun e => (by cases e), ?_, ?_, ?_⟩
    · by_cases hl0 : len = 0
      · left
        rw [hl0]
        rfl
      · obtain ⟨b, off, spot⟩ := a
        have hspot : spot = none := by simpa [Addr.add] using World.cell?_spot (hf 0 (by omega)).1
        subst hspot
        refine .inr ⟨b, off, rfl, fun i hi => ?_⟩
        have hi' : i < len := by rw [hTl] at hi; exact hi
        have g := hf i hi'
        simp only [add_plain] at g
        simp only [List.getElem_map, List.getElem_range]
        exact ⟨g.1, g.2.1, g.2.2.1⟩
    · rw [hTl]
      simp only [Rows.uptoBulk]
      omega
    · intro t ht
      obtain ⟨i, hi, rfl⟩ := List.mem_map.1 ht
      have g := (hf i (List.mem_range.1 hi)).2.2.2
      have := hsub i (List.mem_range.1 hi)
      simp only [Rows.uptoBulk]
      show (f i).2.1.length ≤ _
      omega

end

end Go.Proofs.Ytheedniegjcbgaa
