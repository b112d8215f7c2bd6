import Derived.Test.YtmpfoajpafglgaaDoorSignText
import Derived.Test.YtmpfoajpafglgaaDoorRows
import Derived.Lay
import Derived.LaidMore
import Derived.Stop.LaidErr
import Derived.Lib.LaidTab
import Derived.Shelf.Vars
import Derived.Deep.DeepHandedRow
/- What the rows list of the library's variables, and a world that holds it. -/
namespace Go.Proofs.YtmpfoajpafglgaaDoor
open Go.ChangeShapes Go.WideShapes Go.ChangeAt Go.RowKit
set_option linter.unusedVariables false

theorem t_tab : (Tryd.prog.globals[1]?).map (·.type) = some 104 := by kernel_rfl
theorem c_tab : Tryd.prog.cellsOf 104 = 20 := by kernel_rfl
theorem c_u64 : Tryd.prog.cellsOf 90 = 1 := by kernel_rfl
theorem c_str : Tryd.prog.cellsOf 9 = 1 := by kernel_rfl
theorem c_es : Tryd.prog.cellsOf 124 = 1 := by kernel_rfl
theorem g_syn : Tryd.prog.globalNamed "strconv.ErrSyntax" = some 4 := by kernel_rfl
theorem g_rng : Tryd.prog.globalNamed "strconv.ErrRange" = some 5 := by kernel_rfl
theorem t_syn : (Tryd.prog.globals[4]?).map (·.type) = some 63 := by kernel_rfl
theorem t_rng : (Tryd.prog.globals[5]?).map (·.type) = some 63 := by kernel_rfl
theorem star : "*" ++ "errors.errorString" = "*errors.errorString" := by decide
theorem one_row (u : TypeId) (h : Tryd.prog.typeName? 3 u = some "*errors.errorString") : u = 122 :=
  typeName_ptr_named (nm := "errors.errorString") (by rw [star]; kernel_rfl) (by kernel_rfl) (by decide) u (by rw [star]; exact h)

theorem max_len {W : World} (h : W.ShapedOpen Tryd.prog) : ∃ m, W.cell? ⟨0, 0, none⟩ = some (.int .i64 m) :=
  cell_of_shapedOpen_int (zero := #[.int .i64 0]) h (of_decide_eq_true (by kernel_rfl)) (by kernel_rfl) rfl (by kernel_rfl) (by kernel_rfl) Tryd.underlying3

theorem laid_of {W : World} (hsh : W.ShapedOpen Tryd.prog) (h : laidMetH Tryd.prog Rows.signReadsRow.laid W) : Laid W := by
  rw [MakeChecks.laidMetH_plain _ _ _ (by kernel_rfl)] at h
  have h0 : laidMet Tryd.prog (("math/bits.deBruijn32tab", Rows.laid_math_bits_deBruijn32tab) :: ("math/bits.deBruijn64tab", Rows.laid_math_bits_deBruijn64tab) :: ("internal/strconv.uint64pow10", Lib.tabData .u64 Lib.pow10Tab) :: ("unicode/utf8.acceptRanges", Rows.laid_unicode_utf8_acceptRanges) :: ("strconv.ErrRange", Rows.laid_strconv_ErrRange) :: ("strconv.ErrSyntax", Rows.laid_strconv_ErrSyntax) :: [("unicode/utf8.first", Rows.laid_unicode_utf8_first)]) W := h
  have h2 := h0.tail.tail
  have h4 := h2.tail.tail
  obtain ⟨a0, s0, hv0, -, -, -⟩ := laid_sentinel h4 g_rng t_rng Tryd.underlying63 one_row Tryd.underlying122 Tryd.underlying124 rfl rfl Tryd.underlying9 c_es c_str
  obtain ⟨a1, s1, hv1, -, -, -⟩ := laid_sentinel h4.tail g_syn t_syn Tryd.underlying63 one_row Tryd.underlying122 Tryd.underlying124 rfl rfl Tryd.underlying9 c_es c_str
  refine ⟨max_len hsh, Lib.tabIs_of_head g_tab t_tab Tryd.underlying104 Tryd.underlying90 c_u64 c_tab h2, ⟨122, .pointer (some a1), ?_⟩, ⟨122, .pointer (some a0), ?_⟩⟩
  · have e := World.var?_cell g_syn hv1 0
    simpa using e
  · have e := World.var?_cell g_rng hv0 0
    simpa using e

/-- A world that holds what the rows list. -/
noncomputable def wl (os : Os) : World := World.laidAll Tryd.prog os Rows.signReadsRow.laid
theorem wl_met (os : Os) (args : Array Value) : laidMetH Tryd.prog Rows.signReadsRow.laid ((wl os).forCall (fun _ _ => 0) ⟨#[], args, []⟩).memory := by
  rw [MakeChecks.laidMetH_plain _ _ _ (by kernel_rfl)]
  exact laidMet_laidAll _ (by kernel_rfl) (by kernel_rfl)
theorem wl_shaped (os : Os) (args : Array Value) : ((wl os).forCall (fun _ _ => 0) ⟨#[], args, []⟩).Shaped Tryd.prog :=
  World.shaped_of_ZipB (by kernel_rfl) (by kernel_rfl)

/-- 'There is an input that fits', in that world. -/
theorem witness_wl {H : Type} {enc : TypeId × Value → H} {os : Os} {f : FuncId} {fn : Func} {s : OpenSpec} {conds : List PathCond} {apart : Bool} {laid : List (String × DataW Unit)} (args : Array Value)
    (hok : Input.okWideB Tryd.prog ((wl os).forCall (fun _ _ => 0) ⟨#[], args, []⟩) f ⟨#[], args, []⟩ = true)
    (hrow : s.preRow enc Tryd.prog fn conds apart laid ((wl os).forCall (fun _ _ => 0) ⟨#[], args, []⟩).memory args) :
    ∃ (w : World) (tape : Tape) (i : Input), w.os = os ∧ (w.forCall tape i).Shaped Tryd.prog ∧ i.vars = [] ∧ Input.okWide Tryd.prog (w.forCall tape i) .any w.heap.size f i ∧
      s.preRow enc Tryd.prog fn conds apart laid (w.forCall tape i).memory i.args ∧ ({} : Assume).holds Tryd.prog (lone (Frame.enter Tryd.prog f i.args .normal) [] (w.forCall tape i)) :=
  ⟨wl os, fun _ _ => 0, ⟨#[], args, []⟩, World.laidAll_os _ _ _, wl_shaped os args, rfl, (Input.okWide_of_okWideB hok).2, hrow, by
    simp only [Assume.holds]
    exact ⟨by simp, by simp, by simp, by simp, by simp⟩⟩

end Go.Proofs.YtmpfoajpafglgaaDoor
