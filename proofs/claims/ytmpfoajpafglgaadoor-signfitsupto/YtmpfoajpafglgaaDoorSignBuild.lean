import Derived.Test.YtmpfoajpafglgaaDoorSignParse
import Derived.Lib.AppendStr
import Derived.Lib.Builder
import Derived.Laws.Externs
/- The builder of package strings, as it is turned here (copyCheck's panic is left out of this program, so that the shelf's layings do not fit). -/
namespace Go.Proofs.YtmpfoajpafglgaaDoor
open Go.RowKit
set_option linter.unusedVariables false
set_option linter.unusedSimpArgs false

theorem size_Builder : ∃ j, Tryd.prog.info? 61 = some j ∧ j.size = 2 := by
  obtain ⟨j, hj, h2⟩ := Option.map_eq_some_iff.1 (show (Tryd.prog.info? 61).map (·.size) = some 2 by kernel_rfl)
  exact ⟨j, hj, h2⟩
theorem lies_Builder : liesAt Tryd.prog Tryd.prog.depth 61 (2 / Tryd.prog.cellsOf 61) 0 61 1 = true := by kernel_rfl
theorem info_byte : (Tryd.prog.info? 5).map (fun i => (i.zero, i.size, i.bytes)) = some (some (.int .u8 0), 1, 1) := by kernel_rfl

/-- What a builder's block holds. -/
abbrev BT : TypeId := 61
def Bd (B b : Nat) (l : Bs) (w : World) : Prop := Lib.IsBuilder 61 5 B b (Lib.byteCells l) w

theorem Bd.below {B b : Nat} {l : Bs} {w w' : World} (h : Bd B b l w) (k : Below w.heap.size w w') : Bd B b l w' := by
  have key : ∀ p, Lib.BuilderAt 61 5 B b p (Lib.byteCells l) w → Lib.BuilderAt 61 5 B b p (Lib.byteCells l) w' := fun p h => by
    have hlt := h.lt
    obtain ⟨hB, v, hbk, hown, hne⟩ := h
    refine ⟨hB, v, (k.block b hlt).trans hbk, hown.kept (row := none) ⟨k.os, k.tape, k.output, k.size, fun j hj _ => k.block j hj⟩ ?_, hne⟩
    cases v.ownBlock <;> simp
  exact h.imp (key _) (key _)

set_option maxRecDepth 100000 in
set_option maxHeartbeats 1000000 in
theorem copy_used (b : Nat) (w : World) (h0 : w.cell? ⟨b, 0, none⟩ = some (.pointer (some ⟨b, 0, none⟩))) :
    Calls Tryd.prog 49 #[.pointer (some ⟨b, 0, none⟩)] w fun e w' => e = .returned (.tuple #[]) ∧ w' = w := by
  obtain ⟨j, hj, hj2⟩ := size_Builder
  have e1 := Lib.run_neq_ptr_same (P := Tryd.prog) w ⟨b, 0, none⟩ Tryd.underlying58 hj
  go_enter Tryd.func49, Tryd.ntmps49
  go_wp2
  go_end0
  exact ⟨rfl, rfl⟩

set_option maxRecDepth 100000 in
set_option maxHeartbeats 1000000 in
theorem copy_fresh (b : Nat) (w : World) (h0 : w.cell? ⟨b, 0, none⟩ = some (.pointer none)) (hsh : w.shape? b = some (61, 2)) (hfz : w.frozen? ⟨b, 0, none⟩ = false) :
    Calls Tryd.prog 49 #[.pointer (some ⟨b, 0, none⟩)] w fun e w' => e = .returned (.tuple #[]) ∧ w' = w.setCell ⟨b, 0, none⟩ (.pointer (some ⟨b, 0, none⟩)) := by
  obtain ⟨j, hj, hj2⟩ := size_Builder
  have e1 := Lib.run_to_unsafe (P := Tryd.prog) w ⟨b, 0, none⟩ Tryd.underlying58 Tryd.underlying82 hj (by rw [hj2]; decide) hsh (Nat.zero_lt_succ 1)
  have e2 : ∀ v : World, (callFunc 58 #[.pointer (some ⟨b, 0, none⟩)]).run Tryd.prog v = .ok (.value (.pointer (some ⟨b, 0, none⟩))) v := fun v => by
    rw [run_callFunc_extern Tryd.func58 (by kernel_rfl) (by kernel_rfl) (by kernel_rfl) (e := Extern.AbiNoEscape.same) (by kernel_rfl), Lib.run_noEscape]
    rfl
  have e3 := Lib.run_from_unsafe (P := Tryd.prog) w ⟨b, 0, none⟩ Tryd.underlying82 Tryd.underlying58 hj hsh lies_Builder
  go_enter Tryd.func49, Tryd.ntmps49
  go_wp2
  go_end0
  exact ⟨rfl, rfl⟩

theorem copy_any (B b : Nat) (l : Bs) (w : World) (h : Bd B b l w) :
    Calls Tryd.prog 49 #[.pointer (some ⟨b, 0, none⟩)] w fun e w' => e = .returned (.tuple #[]) ∧ Lib.BuilderAt 61 5 B b (.pointer (some ⟨b, 0, none⟩)) (Lib.byteCells l) w' ∧ Below B w w' ∧ ∀ g, g ≠ b → w'.heap[g]? = w.heap[g]? := by
  rcases h with h | h
  · exact (copy_fresh b w h.cell0 h.shape h.frozen0).mono fun e w' ⟨he, hw⟩ => by
      subst hw
      exact ⟨he, h.used _, (Below.refl B w).setCell (p := ⟨b, 0, none⟩) h.1 _, fun g hg => heap_setCell_other w ⟨b, 0, none⟩ g _ hg⟩
  · exact (copy_used b w h.cell0).mono fun e w' ⟨he, hw⟩ => by
      subst hw
      exact ⟨he, h, Below.refl _ _, fun _ _ => rfl⟩

theorem bytes_app (l m : Bs) : Lib.byteCells (l ++ m) = Lib.byteCells l ++ Lib.byteCells m := by simp [Lib.byteCells]
theorem bytes_len (l : Bs) : (Lib.byteCells l).length = l.length := Lib.byteCells_length l

set_option maxRecDepth 100000 in
set_option maxHeartbeats 2000000 in
theorem write_any (B b : Nat) (l : Bs) (x : Bs) (w : World) (h : Bd B b l w) (hlen : l.length + x.length ≤ 140737488355328) (hBw : B ≤ w.heap.size) :
    Calls Tryd.prog 32 #[.pointer (some ⟨b, 0, none⟩), .string ⟨x.toArray⟩] w fun e w' => e = .returned (.tuple #[.int .i64 (x.length : Int), .nilIface]) ∧ Bd B b (l ++ x) w' ∧ Below B w w' ∧ ∀ g cs t fr, w.heap[g]? = some (.cells cs t fr) → t ≠ 5 → g ≠ b → w'.heap[g]? = some (.cells cs t fr) := by
  obtain ⟨i0, hi, hz0, hz1, hz2⟩ := info_parts info_byte
  have hxs : (⟨x.toArray⟩ : ByteArray).size = x.length := by rw [← bs_length]; simp [bs]
  have hll := bytes_len l
  go_enter Tryd.func32, Tryd.ntmps32
  go_upto_region 2 with (go_at_call 49; refine (copy_any B b l _ h).mono ?_; rintro e w1 ⟨rfl, h1, hb1, hsame⟩; have HSM : Hid (∀ g, g ≠ b → w1.heap[g]? = w.heap[g]?) := hsame; clear hsame)
  have hlt := h1.lt
  obtain ⟨hB, v, hbk, hown, hne⟩ := h1
  have s1 := hb1.size
  have c1 : w1.cell? ⟨b, 1, none⟩ = some v := by rw [Lib.cell_of_heap hbk]; rfl
  have HH : Hid (w1.ownsRow B 5 1 v (Lib.byteCells l).length (Lib.byteCells l) ∧ w1.heap[b]? = some (.cells #[.pointer (some ⟨b, 0, none⟩), v] 61 (0, 0)) ∧ v.ownBlock ≠ some b) := ⟨hown, hbk, hne⟩
  clear hown hbk hne
  go_wp2_with (at_builtin; refine Lib.wpList_append_own_string _ rfl _ _ 59 9 rfl B 5 i0 Tryd.underlying59 Tryd.underlying9 hi hz0 hz1 hz2 _ _ _ rfl HH.out.1 ⟨x.toArray⟩ rfl (by rw [hll, hxs]; unfold maxLen; omega) (by rw [hll, hxs]; omega) (by omega) ?_; intro v2 w2 hown2 hgrow _; have hbk2 : w2.heap[b]? = some (.cells #[.pointer (some ⟨b, 0, none⟩), v] 61 (0, 0)) := (hgrow.block b hlt (fun e => HH.out.2.2 e.symm)).trans HH.out.2.1; have d1 : w2.cell? ⟨b, 1, none⟩ = some v := (by rw [Lib.cell_of_heap hbk2]; rfl); have f1 : w2.frozen? ⟨b, 1, none⟩ = false := Lib.frozen_of_heap hbk2 1; have HH2 : Hid (w2.ownsRow B 5 1 v2 ((Lib.byteCells l).length + (⟨x.toArray⟩ : ByteArray).size) (Lib.byteCells l ++ Lib.strCells ⟨x.toArray⟩) ∧ w1.grownBy w2 v.ownBlock ∧ w2.heap[b]? = some (.cells #[.pointer (some ⟨b, 0, none⟩), v] 61 (0, 0))) := ⟨hown2, hgrow, hbk2⟩; obtain ⟨ao2, n2, cp2, rfl⟩ : ∃ a n c, v2 = .slice a n c := (by rcases hown2.2 with ⟨hv, _⟩ | ⟨_, _, _, hv, _⟩ <;> exact ⟨_, _, _, hv⟩); clear hown2 hgrow hbk2)
  go_ret2
  obtain ⟨ho2, hg2, hk2⟩ := HH2.out
  refine ⟨by simp, .inr ?_, ?_, fun g cs t fr hg ht hgb => ?_⟩
  · refine Lib.BuilderAt.put hB hk2 (bs' := Lib.byteCells (l ++ x)) ?_ (by decide)
    rw [bytes_app, List.length_append]
    have e : Lib.strCells ⟨x.toArray⟩ = Lib.byteCells x := rfl
    rw [e, hxs, ← bytes_len x] at ho2
    exact ho2
  · exact (hb1.grown hg2 (by omega) (fun k hk => (HH.out.1.lt k hk).1)).setCell (p := ⟨b, 1, none⟩) hB _
  · have h1 : w1.heap[g]? = some (.cells cs t fr) := (HSM.out g hgb).trans hg
    have hgl : g < w1.heap.size := by
      rcases Nat.lt_or_ge g w1.heap.size with c | c
      · exact c
      · rw [Array.getElem?_eq_none c] at h1; exact absurd h1 (by simp)
    rw [heap_setCell_other _ ⟨b, 1, none⟩ g _ hgb]
    refine (hg2.block g hgl fun e => ?_).trans h1
    obtain ⟨_, ho⟩ := HH.out.1
    rcases ho with ⟨hv, _⟩ | ⟨g', cap, cur, hv, _, hg', _⟩
    · rw [hv] at e; simp [Value.ownBlock] at e
    · rw [hv] at e
      simp [Value.ownBlock] at e
      subst e
      rw [h1] at hg'
      simp at hg'
      exact ht hg'.2.1

end Go.Proofs.YtmpfoajpafglgaaDoor
