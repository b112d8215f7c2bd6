import Derived.Test.YtnogokikiekcbabMem
import Derived.Deep.OwnRows
import Derived.OwnWalk
/- Rows of numbers: what is read, what is made. -/
namespace Go.Proofs.Ytnogokikiekcbab
open Go.RowKit
set_option linter.unusedVariables false

/-- A slice of n cells that begins at p, wherever it lies; of an empty one nothing is asked. -/
def Reads (w : World) (p : Option Addr) (n : Nat) (X : Nat → Value) : Prop := n = 0 ∨ ∃ b o, p = some ⟨b, o, none⟩ ∧ ∀ i, i < n → w.cell? ⟨b, o + i, none⟩ = some (X i)

theorem Reads.below {w w' : World} {p : Option Addr} {n : Nat} {X : Nat → Value} (h : Reads w p n X) (k : Below w.heap.size w w') : Reads w' p n X := by
  rcases h with h | ⟨b, o, e, h⟩
  · exact .inl h
  · exact .inr ⟨b, o, e, fun i hi => (k.cell (mcell_lt (h i hi))).trans (h i hi)⟩
theorem Reads.congr {w : World} {p : Option Addr} {n : Nat} {X Y : Nat → Value} (h : Reads w p n X) (e : ∀ i, i < n → X i = Y i) : Reads w p n Y := by
  rcases h with h | ⟨b, o, q, h⟩
  · exact .inl h
  · exact .inr ⟨b, o, q, fun i hi => by rw [h i hi, e i hi]⟩
theorem reads_row {w : World} {g : Nat} {t : TypeId} {n : Nat} {X : Nat → Value} (h : w.rowIs g t n X) : Reads w (some ⟨g, 0, none⟩) n X :=
  .inr ⟨g, 0, rfl, fun i hi => by rw [Nat.zero_add]; exact h.cell hi⟩
theorem row_below {w w' : World} {g : Nat} {t : TypeId} {n : Nat} {X : Nat → Value} (h : w.rowIs g t n X) (k : Below w.heap.size w w') : w'.rowIs g t n X := h.of_block (k.block g h.lt)

theorem made_two (z : Value) (n i : Nat) (hi : i < n) : (madeCells #[z, z] n)[i]? = some z := by
  unfold madeCells
  rw [Array.getElem?_map, Array.getElem?_range]
  simp [hi]
  have h2 : i % 2 = 0 ∨ i % 2 = 1 := by omega
  rcases h2 with h | h <;> rw [h] <;> rfl

theorem info_F : (Try.prog.info? 31).map (fun i => (i.zero, i.size, i.bytes)) = some (some (.int .u32 0), 1, 4) := by kernel_rfl

theorem make_F (m : Nat) (h : m ≤ 70368744177664) (w : World) : (Instr.makeSlice 22 (.int .i64 m) (.int .i64 m)).run Try.prog w = .ok (.slice (some ⟨w.heap.size, 0, none⟩) m m) (w.alloc (.cells (madeCells #[.int .u32 0] m) 31)) :=
  run_make_row' (P := Try.prog) 22 31 (.int .u32 0) 4 Try.underlying22 info_F rfl .i64 .i64 m (by omega) (by omega) w

theorem row_two (w : World) (m : Nat) (t : TypeId) : (w.alloc (.cells (madeCells #[.int .u32 0, .int .u32 0] (m * 2)) t)).rowIs w.heap.size t (2 * m) (fun _ => .int .u32 0) := by
  have h := World.rowIs_alloc w (madeCells #[.int .u32 0, .int .u32 0] (m * 2)) t (fun _ => .int .u32 0) (fun i hi => made_two _ _ _ (by rw [size_madeCells] at hi; exact hi))
  rw [size_madeCells] at h
  rw [Nat.mul_comm 2 m]
  exact h

end Go.Proofs.Ytnogokikiekcbab
