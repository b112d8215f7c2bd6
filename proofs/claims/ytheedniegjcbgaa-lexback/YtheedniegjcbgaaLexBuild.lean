import Derived.Test.YtheedniegjcbgaaLexPure
import Derived.Lib.AppendStr
import Derived.Lib.Builder
import Derived.Laws.Externs
/- The builder of package strings, as it is turned here (copyCheck's panic is left out of this program, so that the shelf's layings do not fit). -/
namespace Go.Proofs.Ytheedniegjcbgaa
open Go.RowKit
set_option linter.unusedVariables false
set_option linter.unusedSimpArgs false

theorem size_Builder : ∃ j, Try.prog.info? 47 = some j ∧ j.size = 2 := by
  obtain ⟨j, hj, h2⟩ := Option.map_eq_some_iff.1 (show (Try.prog.info? 47).map (·.size) = some 2 by kernel_rfl)
  exact ⟨j, hj, h2⟩
theorem lies_Builder : liesAt Try.prog Try.prog.depth 47 (2 / Try.prog.cellsOf 47) 0 47 1 = true := by kernel_rfl
theorem info_byte : (Try.prog.info? 5).map (fun i => (i.zero, i.size, i.bytes)) = some (some (.int .u8 0), 1, 1) := by kernel_rfl

/-- What a builder's block holds. -/
abbrev BT : TypeId := 47
def Bd (B b : Nat) (l : Bs) (w : World) : Prop := Lib.IsBuilder 47 5 B b (Lib.byteCells l) w

theorem Bd.below {B b : Nat} {l : Bs} {w w' : World} (h : Bd B b l w) (k : Below w.heap.size w w') : Bd B b l w' := by
  have key : ∀ p, Lib.BuilderAt 47 5 B b p (Lib.byteCells l) w → Lib.BuilderAt 47 5 B b p (Lib.byteCells l) w' := fun p h => by
    have hlt := h.lt
    obtain ⟨hB, v, hbk, hown, hne⟩ := h
    refine ⟨hB, v, (k.block b hlt).trans hbk, hown.kept (row := none) ⟨k.os, k.tape, k.output, k.size, fun j hj _ => k.block j hj⟩ ?_, hne⟩
    cases v.ownBlock <;> simp
  exact h.imp (key _) (key _)

set_option maxRecDepth 100000 in
set_option maxHeartbeats 1000000 in
theorem copy_used (b : Nat) (w : World) (h0 : w.cell? ⟨b, 0, none⟩ = some (.pointer (some ⟨b, 0, none⟩))) :
    Calls Try.prog 44 #[.pointer (some ⟨b, 0, none⟩)] w fun e w' => e = .returned (.tuple #[]) ∧ w' = w := by
  obtain ⟨j, hj, hj2⟩ := size_Builder
  have e1 := Lib.run_neq_ptr_same (P := Try.prog) w ⟨b, 0, none⟩ Try.underlying44 hj
  go_enter Try.func44, Try.ntmps44
  go_wp2
  go_end0
  exact ⟨rfl, rfl⟩

set_option maxRecDepth 100000 in
set_option maxHeartbeats 1000000 in
theorem copy_fresh (b : Nat) (w : World) (h0 : w.cell? ⟨b, 0, none⟩ = some (.pointer none)) (hsh : w.shape? b = some (47, 2)) (hfz : w.frozen? ⟨b, 0, none⟩ = false) :
    Calls Try.prog 44 #[.pointer (some ⟨b, 0, none⟩)] w fun e w' => e = .returned (.tuple #[]) ∧ w' = w.setCell ⟨b, 0, none⟩ (.pointer (some ⟨b, 0, none⟩)) := by
  obtain ⟨j, hj, hj2⟩ := size_Builder
  have e1 := Lib.run_to_unsafe (P := Try.prog) w ⟨b, 0, none⟩ Try.underlying44 Try.underlying68 hj (by rw [hj2]; decide) hsh (Nat.zero_lt_succ 1)
  have e2 : ∀ v : World, (callFunc 51 #[.pointer (some ⟨b, 0, none⟩)]).run Try.prog v = .ok (.value (.pointer (some ⟨b, 0, none⟩))) v := fun v => by
    rw [run_callFunc_extern Try.func51 (by kernel_rfl) (by kernel_rfl) (by kernel_rfl) (e := Extern.AbiNoEscape.same) (by kernel_rfl), Lib.run_noEscape]
    rfl
  have e3 := Lib.run_from_unsafe (P := Try.prog) w ⟨b, 0, none⟩ Try.underlying68 Try.underlying44 hj hsh lies_Builder
  go_enter Try.func44, Try.ntmps44
  go_wp2
  go_end0
  exact ⟨rfl, rfl⟩

theorem copy_any (B b : Nat) (l : Bs) (w : World) (h : Bd B b l w) :
    Calls Try.prog 44 #[.pointer (some ⟨b, 0, none⟩)] w fun e w' => e = .returned (.tuple #[]) ∧ Lib.BuilderAt 47 5 B b (.pointer (some ⟨b, 0, none⟩)) (Lib.byteCells l) w' ∧ Below B w w' := by
  rcases h with h | h
  · exact (copy_fresh b w h.cell0 h.shape h.frozen0).mono fun e w' ⟨he, hw⟩ => by
      subst hw
      exact ⟨he, h.used _, (Below.refl B w).setCell (p := ⟨b, 0, none⟩) h.1 _⟩
  · exact (copy_used b w h.cell0).mono fun e w' ⟨he, hw⟩ => by
      subst hw
      exact ⟨he, h, Below.refl _ _⟩

theorem bytes_app (l m : Bs) : Lib.byteCells (l ++ m) = Lib.byteCells l ++ Lib.byteCells m := by simp [Lib.byteCells]
theorem bytes_len (l : Bs) : (Lib.byteCells l).length = l.length := Lib.byteCells_length l

set_option maxRecDepth 100000 in
set_option maxHeartbeats 2000000 in
theorem write_any (B b : Nat) (l : Bs) (x : Bs) (w : World) (h : Bd B b l w) (hlen : l.length + x.length ≤ 140737488355328) (hBw : B ≤ w.heap.size) :
    Calls Try.prog 23 #[.pointer (some ⟨b, 0, none⟩), .string ⟨x.toArray⟩] w fun e w' => e = .returned (.tuple #[.int .i64 (x.length : Int), .nilIface]) ∧ Bd B b (l ++ x) w' ∧ Below B w w' := by
  obtain ⟨i0, hi, hz0, hz1, hz2⟩ := info_parts info_byte
  have hxs : (⟨x.toArray⟩ : ByteArray).size = x.length := by rw [← bs_length]; simp [bs]
  have hll := bytes_len l
  go_enter Try.func23, Try.ntmps23
  go_upto_region 2 with (go_at_call 44; refine (copy_any B b l _ h).mono ?_; rintro e w1 ⟨rfl, h1, hb1⟩)
  have hlt := h1.lt
  obtain ⟨hB, v, hbk, hown, hne⟩ := h1
  have s1 := hb1.size
  have c1 : w1.cell? ⟨b, 1, none⟩ = some v := by rw [Lib.cell_of_heap hbk]; rfl
  have HH : Hid (w1.ownsRow B 5 1 v (Lib.byteCells l).length (Lib.byteCells l) ∧ w1.heap[b]? = some (.cells #[.pointer (some ⟨b, 0, none⟩), v] 47 (0, 0)) ∧ v.ownBlock ≠ some b) := ⟨hown, hbk, hne⟩
  clear hown hbk hne
  go_wp2_with (at_builtin; refine Lib.wpList_append_own_string _ rfl _ _ 45 9 rfl B 5 i0 Try.underlying45 Try.underlying9 hi hz0 hz1 hz2 _ _ _ rfl HH.out.1 ⟨x.toArray⟩ rfl (by rw [hll, hxs]; unfold maxLen; omega) (by rw [hll, hxs]; omega) (by omega) ?_; intro v2 w2 hown2 hgrow _; have hbk2 : w2.heap[b]? = some (.cells #[.pointer (some ⟨b, 0, none⟩), v] 47 (0, 0)) := (hgrow.block b hlt (fun e => HH.out.2.2 e.symm)).trans HH.out.2.1; have d1 : w2.cell? ⟨b, 1, none⟩ = some v := (by rw [Lib.cell_of_heap hbk2]; rfl); have f1 : w2.frozen? ⟨b, 1, none⟩ = false := Lib.frozen_of_heap hbk2 1; have HH2 : Hid (w2.ownsRow B 5 1 v2 ((Lib.byteCells l).length + (⟨x.toArray⟩ : ByteArray).size) (Lib.byteCells l ++ Lib.strCells ⟨x.toArray⟩) ∧ w1.grownBy w2 v.ownBlock ∧ w2.heap[b]? = some (.cells #[.pointer (some ⟨b, 0, none⟩), v] 47 (0, 0))) := ⟨hown2, hgrow, hbk2⟩; obtain ⟨ao2, n2, cp2, rfl⟩ : ∃ a n c, v2 = .slice a n c := (by rcases hown2.2 with ⟨hv, _⟩ | ⟨_, _, _, hv, _⟩ <;> exact ⟨_, _, _, hv⟩); clear hown2 hgrow hbk2)
  go_ret2
  obtain ⟨ho2, hg2, hk2⟩ := HH2.out
  refine ⟨by simp, .inr ?_, ?_⟩
  · refine Lib.BuilderAt.put hB hk2 (bs' := Lib.byteCells (l ++ x)) ?_ (by decide)
    rw [bytes_app, List.length_append]
    have e : Lib.strCells ⟨x.toArray⟩ = Lib.byteCells x := rfl
    rw [e, hxs, ← bytes_len x] at ho2
    exact ho2
  · exact (hb1.grown hg2 (by omega) (fun k hk => (HH.out.1.lt k hk).1)).setCell (p := ⟨b, 1, none⟩) hB _

set_option maxRecDepth 100000 in
set_option maxHeartbeats 2000000 in
theorem byte_any (B b : Nat) (l : Bs) (w : World) (h : Bd B b l w) (hlen : l.length + 1 ≤ 140737488355328) (hBw : B ≤ w.heap.size) :
    Calls Try.prog 24 #[.pointer (some ⟨b, 0, none⟩), .int .u8 32] w fun e w' => e = .returned .nilIface ∧ Bd B b (l ++ [32]) w' ∧ Below B w w' := by
  obtain ⟨i0, hi, hz0, hz1, hz2⟩ := info_parts info_byte
  have hll := bytes_len l
  go_enter Try.func24, Try.ntmps24
  go_upto_region 2 with (go_at_call 44; refine (copy_any B b l _ h).mono ?_; rintro e w1 ⟨rfl, h1, hb1⟩)
  have hlt := h1.lt
  obtain ⟨hB, v, hbk, hown, hne⟩ := h1
  have s1 := hb1.size
  have c1 : w1.cell? ⟨b, 1, none⟩ = some v := by rw [Lib.cell_of_heap hbk]; rfl
  have HH : Hid (w1.ownsRow B 5 1 v (Lib.byteCells l).length (Lib.byteCells l) ∧ w1.heap[b]? = some (.cells #[.pointer (some ⟨b, 0, none⟩), v] 47 (0, 0)) ∧ v.ownBlock ≠ some b) := ⟨hown, hbk, hne⟩
  clear hown hbk hne
  go_wp2_with (at_builtin; refine wpList_append_own _ rfl _ _ 45 rfl B 5 i0 _ 1 1 Try.underlying45 hi hz0 hz1 hz2 rfl (by decide) _ _ _ rfl (World.ownsRow.alloc HH.out.1 _) ⟨w1.heap.size, 0, none⟩ 1 1 [.int .u8 32] rfl rfl (World.news_of_block (cs := #[.int .u8 32]) (t := 5) (fr := (0, 0)) (heap_alloc_new w1 _)) (by simp [Value.oneCell']) (by rw [hll]; unfold maxLen; omega) (by rw [hll]; omega) (by simp; omega) ?_; intro v2 w2 hown2 hgrow _; have hbk2 : w2.heap[b]? = some (.cells #[.pointer (some ⟨b, 0, none⟩), v] 47 (0, 0)) := (hgrow.block b (by simp; omega) (fun e => HH.out.2.2 e.symm)).trans ((Lib.alloc_old w1 _ b hlt).trans HH.out.2.1); have d1 : w2.cell? ⟨b, 1, none⟩ = some v := (by rw [Lib.cell_of_heap hbk2]; rfl); have f1 : w2.frozen? ⟨b, 1, none⟩ = false := Lib.frozen_of_heap hbk2 1; have HH2 : Hid (w2.ownsRow B 5 1 v2 ((Lib.byteCells l).length + 1) (Lib.byteCells l ++ [.int .u8 32]) ∧ (w1.alloc (.cells #[.int .u8 32] 5)).grownBy w2 v.ownBlock ∧ w2.heap[b]? = some (.cells #[.pointer (some ⟨b, 0, none⟩), v] 47 (0, 0))) := ⟨hown2, hgrow, hbk2⟩; obtain ⟨ao2, n2, cp2, rfl⟩ : ∃ a n c, v2 = .slice a n c := (by rcases hown2.2 with ⟨hv, _⟩ | ⟨_, _, _, hv, _⟩ <;> exact ⟨_, _, _, hv⟩); clear hown2 hgrow hbk2)
  go_ret
  obtain ⟨ho2, hg2, hk2⟩ := HH2.out
  refine ⟨rfl, .inr ?_, ?_⟩
  · refine Lib.BuilderAt.put hB hk2 (bs' := Lib.byteCells (l ++ [32])) ?_ (by decide)
    rw [bytes_app, List.length_append]
    exact ho2
  · exact ((hb1.alloc (by omega) _).grown hg2 (by simp; omega) (fun k hk => (HH.out.1.lt k hk).1)).setCell (p := ⟨b, 1, none⟩) hB _

end Go.Proofs.Ytheedniegjcbgaa
