import Derived.Test.YtpidjmgifglmiabTreeFind
import Derived.Test.YtpidjmgifglmiabTreeCheck
import Derived.Test.YtpidjmgifglmiabTreeNames
import Derived.Test.YtpidjmgifglmiabTreeStripW
import Derived.Test.YtpidjmgifglmiabTreeEqual
/- half: the tree of chain(scale(0.5), identity()). -/
namespace Go.Proofs.Ytpidjmgifglmiab
open Go.RowKit
set_option linter.unusedVariables false
set_option linter.unusedSimpArgs false

def numT : Nd := ⟨2, ⟨#[]⟩, 1056964608, 0, ⟨#[]⟩, [], 12⟩
def scaleS : ByteArray := ⟨#[115, 99, 97, 108, 101]⟩
def identS : ByteArray := ⟨#[105, 100, 101, 110, 116, 105, 116, 121]⟩
def chainS : ByteArray := ⟨#[99, 104, 97, 105, 110]⟩
def scaleT : Nd := ⟨1, scaleS, 0, 0, ⟨#[]⟩, [numT], 6⟩
def identT : Nd := ⟨1, identS, 0, 0, ⟨#[]⟩, [], 18⟩
def halfT : Nd := ⟨1, chainS, 0, 0, ⟨#[]⟩, [scaleT, identT], 0⟩
def badT : Nd := ⟨1, ⟨#[67, 104, 97, 105, 110]⟩, 0, 0, ⟨#[]⟩, [scaleT, identT], 0⟩

theorem half_cnt : cnt halfT = 4 := by simp [cnt, halfT, scaleT, identT, numT, cntL]
theorem bad_cnt : cnt badT = 4 := by simp [cnt, badT, scaleT, identT, numT, cntL]
theorem half_dep : dep halfT = 3 := by simp [dep, halfT, scaleT, identT, numT, depL]
theorem bad_dep : dep badT = 3 := by simp [dep, badT, scaleT, identT, numT, depL]
theorem half_ok : ok1 halfT := by
  unfold ok1 halfT scaleT identT numT
  simp [okL]
  decide
theorem bad_ok : ok1 badT := by
  unfold ok1 badT scaleT identT numT
  simp [okL]
  decide
theorem half_names : names halfT = [chainS, scaleS, identS] := by simp [names, halfT, scaleT, identT, numT, namesL]
theorem half_find : findP [0, 0] halfT = some numT := by simp [findP, halfT, scaleT]
theorem nm_chain : nameP chainS = true := by kernel_rfl
theorem nm_scale : nameP scaleS = true := by kernel_rfl
theorem nm_ident : nameP identS = true := by kernel_rfl
theorem nm_Chain : nameP ⟨#[67, 104, 97, 105, 110]⟩ = false := by kernel_rfl
theorem j_chain : judgeP halfT none = 0 := by kernel_rfl
theorem j_scale : judgeP scaleT (some halfT) = 0 := by kernel_rfl
theorem j_ident : judgeP identT (some halfT) = 0 := by kernel_rfl
theorem j_num : judgeP numT (some scaleT) = 0 := by kernel_rfl
theorem j_bad : judgeP badT none = 70 := by kernel_rfl
theorem half_check : checkP halfT = 0 := by
  have hm : measP halfT = 0 := by unfold measP; rw [half_dep, half_cnt]; rfl
  unfold checkP
  rw [if_pos hm]
  have e : ∀ (s : Int) (t : Nd) (d : Int) (u : Option Nd), gCheck s t d u = (judgeP t u == 0, judgeP t u) := fun _ _ _ _ => rfl
  unfold wk
  rw [e, j_chain]
  show (wkL gCheck [scaleT, identT] (1 + 1) (some halfT) 0).2 = 0
  rw [wkL_cons]
  have w1 : wk gCheck scaleT (1 + 1) (some halfT) 0 = (true, 0) := by
    unfold wk
    rw [e, j_scale]
    show wkL gCheck [numT] (1 + 1 + 1) (some scaleT) 0 = (true, 0)
    rw [wkL_cons]
    have w2 : wk gCheck numT (1 + 1 + 1) (some scaleT) 0 = (true, 0) := by
      unfold wk
      rw [e, j_num]
      show wkL gCheck [] (1 + 1 + 1 + 1) (some numT) 0 = (true, 0)
      rw [wkL_nil]
    rw [w2, if_pos rfl, wkL_nil]
  rw [w1, if_pos rfl, wkL_cons]
  have w3 : wk gCheck identT (1 + 1) (some halfT) 0 = (true, 0) := by
    unfold wk
    rw [e, j_ident]
    show wkL gCheck [] (1 + 1 + 1) (some identT) 0 = (true, 0)
    rw [wkL_nil]
  rw [w3, if_pos rfl, wkL_nil]
theorem bad_check : checkP badT = 70 := by
  have hm : measP badT = 0 := by unfold measP; rw [bad_dep, bad_cnt]; rfl
  unfold checkP
  rw [if_pos hm]
  have e : ∀ (s : Int) (t : Nd) (d : Int) (u : Option Nd), gCheck s t d u = (judgeP t u == 0, judgeP t u) := fun _ _ _ _ => rfl
  unfold wk
  rw [e, j_bad]
  rfl
theorem half_eq : eqT halfT badT = false := by
  unfold eqT
  rw [show (halfT.name.toList == badT.name.toList) = false by kernel_rfl]
  simp

theorem half_kids (v : World) (a b c d : Nat) (h1 : v.heap[a]? = some (.cells #[.int .i64 2, .string ⟨#[]⟩, .int .u32 1056964608, .int .i64 0, .string ⟨#[]⟩, .slice none 0 0, .int .i64 12] 26))
    (h2 : v.heap[b]? = some (.cells #[.int .i64 1, .string ⟨#[115, 99, 97, 108, 101]⟩, .int .u32 0, .int .i64 0, .string ⟨#[]⟩, .slice (some ⟨a, 0, none⟩) 1 c, .int .i64 6, .int .i64 1, .string ⟨#[105, 100, 101, 110, 116, 105, 116, 121]⟩, .int .u32 0, .int .i64 0, .string ⟨#[]⟩, .slice none 0 0, .int .i64 18] 26)) :
    Kids v anyH (.slice (some ⟨b, 0, none⟩) 2 d) halfT.args := by
  refine ⟨_, _, rfl, trivial, .inr ⟨b, 0, rfl, KA_cons.2 ⟨⟨cell_heap h2 0, cell_heap h2 1, cell_heap h2 2, cell_heap h2 3, cell_heap h2 4, cell_heap h2 6, _, cell_heap h2 5, ?_⟩, KA_cons.2 ⟨⟨cell_heap h2 7, cell_heap h2 8, cell_heap h2 9, cell_heap h2 10, cell_heap h2 11, cell_heap h2 13, _, cell_heap h2 12, ?_⟩, KA_nil _ _ _ _⟩⟩⟩⟩
  · exact ⟨some ⟨a, 0, none⟩, c, rfl, trivial, .inr ⟨a, 0, rfl, KA_cons.2 ⟨⟨cell_heap h1 0, cell_heap h1 1, cell_heap h1 2, cell_heap h1 3, cell_heap h1 4, cell_heap h1 6, _, cell_heap h1 5, ⟨none, 0, rfl, trivial, .inl rfl⟩⟩, KA_nil _ _ _ _⟩⟩⟩
  · exact ⟨none, 0, rfl, trivial, .inl rfl⟩

set_option maxRecDepth 100000 in
set_option maxHeartbeats 1000000 in
theorem half_any (w : World) : Calls Try.prog 16 #[] w fun e w' => ∃ p c, e = .returned (.agg #[.int .i64 1, .string ⟨#[99, 104, 97, 105, 110]⟩, .int .u32 0, .int .i64 0, .string ⟨#[]⟩, .slice p 2 c, .int .i64 0]) ∧ Kids w' anyH (.slice p 2 c) halfT.args ∧ Below w.heap.size w w' := by
  go_enter Try.func16, Try.ntmps16
  go_wp2
  refine bodyPost_ret (by simp [results, Try.results16, go_sem, *]; try rfl) rfl ?_
  refine ⟨some ⟨w.heap.size + 2, 0, none⟩, 2, rfl, half_kids _ (w.heap.size + 1) (w.heap.size + 2) 1 2 ?_ ?_, by go_grown⟩
  · exact heap_old _ _ (two_heap _ _ _)
  · have := box_heap ((w.alloc (.cells #[.int .i64 1, .string ⟨#[99, 104, 97, 105, 110]⟩, .int .u32 0, .int .i64 0, .string ⟨#[]⟩, .slice (some ⟨w.heap.size + 1 + 1, 0, none⟩) 2 2, .int .i64 0] 26)).alloc (.cells #[.int .i64 2, .string ⟨#[]⟩, .int .u32 1056964608, .int .i64 0, .string ⟨#[]⟩, .slice none 0 0, .int .i64 12] 26)) (.cells #[.int .i64 1, .string ⟨#[115, 99, 97, 108, 101]⟩, .int .u32 0, .int .i64 0, .string ⟨#[]⟩, .slice (some ⟨w.heap.size + 1, 0, none⟩) 1 1, .int .i64 6, .int .i64 1, .string ⟨#[105, 100, 101, 110, 116, 105, 116, 121]⟩, .int .u32 0, .int .i64 0, .string ⟨#[]⟩, .slice none 0 0, .int .i64 18] 26)
    rw [show ((w.alloc (.cells #[.int .i64 1, .string ⟨#[99, 104, 97, 105, 110]⟩, .int .u32 0, .int .i64 0, .string ⟨#[]⟩, .slice (some ⟨w.heap.size + 1 + 1, 0, none⟩) 2 2, .int .i64 0] 26)).alloc (.cells #[.int .i64 2, .string ⟨#[]⟩, .int .u32 1056964608, .int .i64 0, .string ⟨#[]⟩, .slice none 0 0, .int .i64 12] 26)).heap.size = w.heap.size + 2 by simp] at this
    exact this

end Go.Proofs.Ytpidjmgifglmiab
