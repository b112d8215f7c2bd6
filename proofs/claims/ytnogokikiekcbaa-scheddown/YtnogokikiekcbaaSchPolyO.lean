import Derived.Test.YtnogokikiekcbaaSchedDownW
import Derived.Test.YtnogokikiekcbaaSchOpen
/- An argument opened: a polynomial schedule with two steps. -/
namespace Go.Proofs.Ytnogokikiekcbaa
open Go.ChangeShapes Go.WideShapes Go.ChangeAt Go.RowKit
set_option linter.unusedVariables false
set_option maxRecDepth 100000

theorem cells_Poly : Try.prog.cellsOf 47 = 7 := by kernel_rfl
theorem open_Poly {H : Type} {enc : TypeId × Value → H} {w : World} {base : Nat} {held : Bool} {r : Reach} {b0 : Nat} {v : Value} {d : DataW H} {pl : List MemPlace} (hv : Value.okWide Try.prog w r b0 47 v) (h : DataW.Trod enc Try.prog w base (fun _ => true) held 47 v d pl) :
    ∃ A B P T G M N : Int, v = .agg #[.int .u32 A, .int .u32 B, .int .i64 P, .int .i64 T, .int .i64 G, .int .i64 M, .int .i64 N] ∧ (Lit.int .u32 A).wf = true ∧ (Lit.int .u32 B).wf = true ∧ (Lit.int .i64 P).wf = true ∧ (Lit.int .i64 T).wf = true ∧ (Lit.int .i64 G).wf = true ∧ (Lit.int .i64 M).wf = true ∧ (Lit.int .i64 N).wf = true := by
  obtain ⟨cs, rfl, hsz⟩ := okWide_struct Try.underlying47 hv
  obtain ⟨fuel, hf0⟩ := h
  obtain ⟨xs, n, hfn, hx, hl, hxl, hf⟩ := DataW.trod_struct Try.underlying47 hf0
  rw [cells_Poly] at hl
  obtain ⟨cl, hcl⟩ : ∃ cl, (Value.agg cs).cells.toList = cl := ⟨_, rfl⟩
  rw [hcl] at hl hf
  have hcs : cs.toList = cl := by rw [← hcl]; simp [Value.cells]
  match cl, hl with
  | [v0, v1, v2, v3, v4, v5, v6], _ =>
  match xs, hxl with
  | [y0, y1, y2, y3, y4, y5, y6], _ =>
    have e0 : DataW.trod enc Try.prog w base (fun _ => true) held n 31 [v0] = some y0 := hf 0 _ rfl
    have e1 : DataW.trod enc Try.prog w base (fun _ => true) held n 31 [v1] = some y1 := hf 1 _ rfl
    have e2 : DataW.trod enc Try.prog w base (fun _ => true) held n 3 [v2] = some y2 := hf 2 _ rfl
    have e3 : DataW.trod enc Try.prog w base (fun _ => true) held n 3 [v3] = some y3 := hf 3 _ rfl
    have e4 : DataW.trod enc Try.prog w base (fun _ => true) held n 3 [v4] = some y4 := hf 4 _ rfl
    have e5 : DataW.trod enc Try.prog w base (fun _ => true) held n 3 [v5] = some y5 := hf 5 _ rfl
    have e6 : DataW.trod enc Try.prog w base (fun _ => true) held n 3 [v6] = some y6 := hf 6 _ rfl
    obtain ⟨a0, c0, -, w0⟩ := DataW.trod_int Try.underlying31 e0
    obtain ⟨a1, c1, -, w1⟩ := DataW.trod_int Try.underlying31 e1
    obtain ⟨a2, c2, -, w2⟩ := DataW.trod_int Try.underlying3 e2
    obtain ⟨a3, c3, -, w3⟩ := DataW.trod_int Try.underlying3 e3
    obtain ⟨a4, c4, -, w4⟩ := DataW.trod_int Try.underlying3 e4
    obtain ⟨a5, c5, -, w5⟩ := DataW.trod_int Try.underlying3 e5
    obtain ⟨a6, c6, -, w6⟩ := DataW.trod_int Try.underlying3 e6
    simp only [List.cons.injEq, and_true] at c0 c1 c2 c3 c4 c5 c6
    subst c0 c1 c2 c3 c4 c5 c6
    refine ⟨a0, a1, a2, a3, a4, a5, a6, ?_, w0, w1, w2, w3, w4, w5, w6⟩
    rw [Value.agg.injEq]
    apply Array.toList_inj.1
    exact hcs

end Go.Proofs.Ytnogokikiekcbaa
