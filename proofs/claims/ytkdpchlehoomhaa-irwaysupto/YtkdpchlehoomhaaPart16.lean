import Derived.Test.YtkdpchlehoomhaaPart13
import Derived.Test.YtkdpchlehoomhaaRows
import Derived.WalkKit
import Derived.ProofKit
import Derived.OpenShut
import Derived.JoinedCond
import Derived.Deep.Slices
import Derived.Deep.Strs
import Derived.SizedLaws
namespace Go.Proofs.Ytkdpchlehoomhaa
open Go.ChangeShapes Go.WideShapes Go.ChangeAt Go.RowKit
set_option linter.unusedVariables false
set_option maxRecDepth 100000
theorem cells_Inst : Try.prog.cellsOf 25 = 7 := by kernel_rfl
theorem cells_Param : Try.prog.cellsOf 62 = 3 := by kernel_rfl
theorem cells_Type : Try.prog.cellsOf 65 = 2 := by kernel_rfl
theorem cells_Slot : Try.prog.cellsOf 68 = 5 := by kernel_rfl
theorem cells_Code : Try.prog.cellsOf 36 = 4 := by kernel_rfl
theorem bytes_Inst : Try.prog.bytesOf 25 = 56 := by kernel_rfl
theorem bytes_Param : Try.prog.bytesOf 62 = 32 := by kernel_rfl
theorem bytes_Type : Try.prog.bytesOf 65 = 16 := by kernel_rfl
theorem bytes_Slot : Try.prog.bytesOf 68 = 32 := by kernel_rfl
theorem weights_mem_all {H : Type} {P : Program} {e : TypeId} : ∀ {l : List (DataW H)} {d : DataW H}, d ∈ l → ∀ n ∈ d.weights P e, n ∈ DataW.weightsAll P e l
 | [], d, h, n, hn => by cases h
 | x :: r, d, h, n, hn => by
  simp only [DataW.weightsAll, List.mem_append]
  rcases List.mem_cons.1 h with rfl | h
  ·exact .inl hn
  ·exact .inr (weights_mem_all h n hn)
section
variable {H : Type} {enc : TypeId × Value → H} {w : World} {base : Nat} {held : Bool}
def InsOk (i : Ins) : Prop := 0 ≤ i.bits ∧ i.bits < 4294967296
theorem open_Ins {fuel : Nat} {cs : List Value} {x : DataW H × List MemPlace} (h : DataW.trod enc Try.prog w base (fun _ => true) held fuel 25 cs = some x) : ∃ i : Ins, cs = inC i ∧ InsOk i := by
 obtain ⟨xs, n, hfn, hx, hl, hxl, hf⟩ := DataW.trod_struct Try.underlying25 h
 rw [cells_Inst] at hl
 match cs, hl with
 | [v0, v1, v2, v3, v4, v5, v6], _ =>
 match xs, hxl with
 | [y0, y1, y2, y3, y4, y5, y6], _ =>
  have e0 : DataW.trod enc Try.prog w base (fun _ => true) held n 3 [v0] = some y0 := hf 0 _ rfl
  have e1 : DataW.trod enc Try.prog w base (fun _ => true) held n 3 [v1] = some y1 := hf 1 _ rfl
  have e2 : DataW.trod enc Try.prog w base (fun _ => true) held n 3 [v2] = some y2 := hf 2 _ rfl
  have e3 : DataW.trod enc Try.prog w base (fun _ => true) held n 3 [v3] = some y3 := hf 3 _ rfl
  have e4 : DataW.trod enc Try.prog w base (fun _ => true) held n 3 [v4] = some y4 := hf 4 _ rfl
  have e5 : DataW.trod enc Try.prog w base (fun _ => true) held n 3 [v5] = some y5 := hf 5 _ rfl
  have e6 : DataW.trod enc Try.prog w base (fun _ => true) held n 23 [v6] = some y6 := hf 6 _ rfl
  obtain ⟨a0, c0, -, w0⟩ := DataW.trod_int Try.underlying3 e0
  obtain ⟨a1, c1, -, w1⟩ := DataW.trod_int Try.underlying3 e1
  obtain ⟨a2, c2, -, w2⟩ := DataW.trod_int Try.underlying3 e2
  obtain ⟨a3, c3, -, w3⟩ := DataW.trod_int Try.underlying3 e3
  obtain ⟨a4, c4, -, w4⟩ := DataW.trod_int Try.underlying3 e4
  obtain ⟨a5, c5, -, w5⟩ := DataW.trod_int Try.underlying3 e5
  obtain ⟨a6, c6, -, w6⟩ := DataW.trod_int Try.underlying23 e6
  simp only [List.cons.injEq, and_true] at c0 c1 c2 c3 c4 c5 c6
  subst c0 c1 c2 c3 c4 c5 c6
  exact ⟨⟨a0, a1, a2, a3, a4, a5, a6⟩, rfl, (bounds_u32 w6).1, Int.lt_add_one_of_le (bounds_u32 w6).2⟩
theorem open_Par {fuel : Nat} {cs : List Value} {x : DataW H × List MemPlace} (h : DataW.trod enc Try.prog w base (fun _ => true) held fuel 62 cs = some x) (hw : ∀ n ∈ x.1.weights Try.prog 62, n ≤ reachBytes) :
  ∃ p : Par, cs = parCells p ∧ p.name.size ≤ 140737488351232 := by
 obtain ⟨xs, n, hfn, hx, hl, hxl, hf⟩ := DataW.trod_struct Try.underlying62 h
 rw [cells_Param] at hl
 match cs, hl with
 | [v0, v1, v2], _ =>
 match xs, hxl with
 | [y0, y1, y2], _ =>
  have e0 : DataW.trod enc Try.prog w base (fun _ => true) held n 9 [v0] = some y0 := hf 0 _ rfl
  have e1 : DataW.trod enc Try.prog w base (fun _ => true) held n 3 [v1] = some y1 := hf 1 _ rfl
  have e2 : DataW.trod enc Try.prog w base (fun _ => true) held n 3 [v2] = some y2 := hf 2 _ rfl
  obtain ⟨a0, c0, hd0, w0⟩ := DataW.trod_string Try.underlying9 e0
  obtain ⟨a1, c1, hd1, w1⟩ := DataW.trod_int Try.underlying3 e1
  obtain ⟨a2, c2, hd2, w2⟩ := DataW.trod_int Try.underlying3 e2
  simp only [List.cons.injEq, and_true] at c0 c1 c2
  subst c0 c1 c2
  subst hx
  have hws : ∀ (j : Nat) (t : TypeId) (d : DataW H), [9, 3, 3][j]? = some t → [y0.1, y1.1, y2.1][j]? = some d → ∀ n ∈ d.weights Try.prog t, n ≤ reachBytes := fun j t d ht hd n hn => by
   refine hw n ?_
   show n ∈ DataW.weights Try.prog 62 (.agg [y0.1, y1.1, y2.1])
   rw [DataW.weights, Try.underlying62]
   exact DataW.weights_mem_each (ts := [9, 3, 3]) ht hd n hn
  have s1 : a0.size ≤ 140737488351232 := by
   have := hws 0 _ _ rfl rfl a0.data.toList.length (by rw [hd0]; simp [DataW.weights])
   simpa [reachBytes] using this
  exact ⟨⟨a0, a1, a2⟩, rfl, s1⟩
theorem open_Ty {fuel : Nat} {cs : List Value} {x : DataW H × List MemPlace} (h : DataW.trod enc Try.prog w base (fun _ => true) held fuel 65 cs = some x) : ∃ t : Ty, cs = tyC t ∧ True := by
 obtain ⟨xs, n, hfn, hx, hl, hxl, hf⟩ := DataW.trod_struct Try.underlying65 h
 rw [cells_Type] at hl
 match cs, hl with
 | [v0, v1], _ =>
 match xs, hxl with
 | [y0, y1], _ =>
  have e0 : DataW.trod enc Try.prog w base (fun _ => true) held n 3 [v0] = some y0 := hf 0 _ rfl
  have e1 : DataW.trod enc Try.prog w base (fun _ => true) held n 3 [v1] = some y1 := hf 1 _ rfl
  obtain ⟨a0, c0, -, w0⟩ := DataW.trod_int Try.underlying3 e0
  obtain ⟨a1, c1, -, w1⟩ := DataW.trod_int Try.underlying3 e1
  simp only [List.cons.injEq, and_true] at c0 c1
  subst c0 c1
  exact ⟨⟨a0, a1⟩, rfl, trivial⟩
def SlOk (s : Sl) : Prop := 0 ≤ s.bits ∧ s.bits < 4294967296
theorem open_Sl {fuel : Nat} {cs : List Value} {x : DataW H × List MemPlace} (h : DataW.trod enc Try.prog w base (fun _ => true) held fuel 68 cs = some x) : ∃ s : Sl, cs = slC s ∧ SlOk s := by
 obtain ⟨xs, n, hfn, hx, hl, hxl, hf⟩ := DataW.trod_struct Try.underlying68 h
 rw [cells_Slot] at hl
 match cs, hl with
 | [v0, v1, v2, v3, v4], _ =>
 match xs, hxl with
 | [y0, y1, y2, y3], _ =>
  have e0 : DataW.trod enc Try.prog w base (fun _ => true) held n 65 [v0, v1] = some y0 := hf 0 _ rfl
  have e1 : DataW.trod enc Try.prog w base (fun _ => true) held n 4 [v2] = some y1 := hf 1 _ rfl
  have e2 : DataW.trod enc Try.prog w base (fun _ => true) held n 23 [v3] = some y2 := hf 2 _ rfl
  have e3 : DataW.trod enc Try.prog w base (fun _ => true) held n 3 [v4] = some y3 := hf 3 _ rfl
  obtain ⟨t, ht, -⟩ := open_Ty e0
  obtain ⟨a1, c1, -⟩ := DataW.trod_bool Try.underlying4 e1
  obtain ⟨a2, c2, -, w2⟩ := DataW.trod_int Try.underlying23 e2
  obtain ⟨a3, c3, -, w3⟩ := DataW.trod_int Try.underlying3 e3
  obtain ⟨K, P⟩ := t
  simp only [tyC, List.cons.injEq, and_true] at ht c1 c2 c3
  obtain ⟨rfl, rfl⟩ := ht
  subst c1 c2 c3
  exact ⟨⟨⟨K, P⟩, a1, a2, a3⟩, rfl, (bounds_u32 w2).1, Int.lt_add_one_of_le (bounds_u32 w2).2⟩
theorem open_rowG {α : Type} [Inhabited α] {f : α → List Value} {k bytes : Nat} {t e : TypeId} {Good : α → Prop} (hk : 0 < k) (hf : ∀ x, (f x).length = k) (ht : Try.prog.underlying t = some (.slice e)) (hce : Try.prog.cellsOf e = k) (hby : Try.prog.bytesOf e = bytes) (hb0 : 0 < bytes)
  (hop : ∀ {fuel : Nat} {cs : List Value} {x : DataW H × List MemPlace}, DataW.trod enc Try.prog w base (fun _ => true) held fuel e cs = some x → (∀ n ∈ x.1.weights Try.prog e, n ≤ reachBytes) → ∃ a : α, cs = f a ∧ Good a)
  {fuel : Nat} {v : Value} {x : DataW H × List MemPlace} (h : DataW.trod enc Try.prog w base (fun _ => true) held fuel t [v] = some x) (hw : ∀ n ∈ x.1.weights Try.prog t, n ≤ reachBytes) :
  ∃ l : List α, RowG k f w v l ∧ l.length * bytes ≤ 140737488351232 ∧ ∀ a ∈ l, Good a := by
 rcases DataW.trod_slice ht h with ⟨hcs, hx⟩ | ⟨a, len, cap, elems, rest, m, hm, hcs, hx, _, hl, _, hel, hread, _, _⟩
 ·simp only [List.cons.injEq, and_true] at hcs
  subst hcs
  exact ⟨[], ⟨none, 0, rfl, .inl rfl⟩, by simp, fun a h => by cases h⟩
 ·simp only [List.cons.injEq, and_true] at hcs
  subst hcs
  subst hx
  have key : ∀ i, i < len → ∃ q : α, (∀ j, j < k → w.cell? (a.add (i * k + j)) = (f q)[j]?) ∧ Good q := by
   intro i hi
   have h1 := hread i hi
   rw [hce] at h1
   have hie : i < elems.length := by omega
   rw [List.getElem?_eq_getElem hie] at h1
   obtain ⟨cs', h2, h3⟩ := Option.bind_eq_some_iff.1 h1
   obtain ⟨_, hlen3, hcell⟩ := World.cells?_some h2
   obtain ⟨q, hcs, hok⟩ := hop h3 (fun n hn => hw n (by
    rw [DataW.weights, ht]
    exact List.mem_cons_of_mem _ (List.mem_append_left _ (weights_mem_all (List.mem_map.2 ⟨elems[i], List.getElem_mem hie, rfl⟩) n hn))))
   refine ⟨q, fun j hj => ?_, hok⟩
   have := hcell j hj
   rw [Go.Deep.add_add, hcs] at this
   exact this
  obtain ⟨g, hg⟩ := Go.Deep.choose_lt key
  have hTl : ((List.range len).map g).length = len := by simp
  have hbig : len * bytes ≤ 140737488351232 := by
   have := hw _ (by rw [DataW.weights, ht]; exact List.mem_cons_self)
   rw [hby] at this
   simp only [List.length_map, reachBytes] at this
   have hln : elems.length = len := by omega
   simp only [hln] at this
   exact Nat.le_trans (Nat.mul_le_mul_right _ (Nat.le_add_right _ _)) this
  refine ⟨(List.range len).map g, ?_, by rw [hTl]; exact hbig, ?_⟩
  ·refine ⟨some a, cap, by rw [hTl], ?_⟩
   by_cases hl0 : len = 0
   ·left; simp [hl0]
   ·obtain ⟨b, off, spot⟩ := a
    have hne : 0 < (f (g 0)).length := by rw [hf]; exact hk
    have hspot : spot = none := by
     have := (hg 0 (by omega)).1 0 hk
     rw [List.getElem?_eq_getElem hne] at this
     simpa [Addr.add] using World.cell?_spot this
    subst hspot
    refine .inr ⟨b, off, rfl, fun i hi j hj => ?_⟩
    have hi' : i < len := by rw [hTl] at hi; exact hi
    obtain ⟨q, -⟩ := hg i hi'
    have e : ((List.range len).map g)[i] = g i := by simp
    have hj2 : j < (f (g i)).length := by simpa [e] using hj
    have hj3 : j < k := by rw [← hf (g i)]; exact hj2
    have q' := q j hj3
    rw [add_none, ← Nat.add_assoc] at q'
    rw [q', List.getElem?_eq_getElem hj2]
    congr 1
    simp [e]
  ·intro q hq
   obtain ⟨i, hi, rfl⟩ := List.mem_map.1 hq
   exact (hg i (List.mem_range.1 hi)).2
instance : Inhabited Ins := ⟨⟨0, 0, 0, 0, 0, 0, 0⟩⟩
instance : Inhabited Ty := ⟨⟨0, 0⟩⟩
instance : Inhabited Sl := ⟨⟨⟨0, 0⟩, false, 0, 0⟩⟩
instance : Inhabited Par := ⟨⟨⟨#[]⟩, 0, 0⟩⟩
theorem open_Code {r : Reach} {b0 : Nat} {v : Value} {d : DataW H} {pl : List MemPlace} (hv : Value.okWide Try.prog w r b0 36 v) (h : DataW.Trod enc Try.prog w base (fun _ => true) held 36 v d pl) (hw : ∀ n ∈ d.weights Try.prog 36, n ≤ reachBytes) :
  ∃ (v0 v1 v2 v3 : Value) (c : Cd), v = .agg #[v0, v1, v2, v3] ∧ CdV w v0 v1 v2 v3 c ∧ CdOk c ∧ c.sign.length * 32 ≤ 140737488351232 ∧ c.regs.length * 16 ≤ 140737488351232 ∧ c.slots.length * 32 ≤ 140737488351232 ∧ c.list.length * 56 ≤ 140737488351232 := by
 obtain ⟨cs, rfl, hsz⟩ := okWide_struct Try.underlying36 hv
 obtain ⟨fuel, hf0⟩ := h
 obtain ⟨xs, n, hfn, hx, hl, hxl, hf⟩ := DataW.trod_struct Try.underlying36 hf0
 rw [cells_Code] at hl
 obtain ⟨cl, hcl⟩ : ∃ cl, (Value.agg cs).cells.toList = cl := ⟨_, rfl⟩
 rw [hcl] at hl hf
 have hcs : cs.toList = cl := by rw [← hcl]; simp [Value.cells]
 match cl, hl with
 | [v0, v1, v2, v3], _ =>
 match xs, hxl with
 | [y0, y1, y2, y3], _ =>
  have e0 : DataW.trod enc Try.prog w base (fun _ => true) held n 31 [v0] = some y0 := hf 0 _ rfl
  have e1 : DataW.trod enc Try.prog w base (fun _ => true) held n 32 [v1] = some y1 := hf 1 _ rfl
  have e2 : DataW.trod enc Try.prog w base (fun _ => true) held n 33 [v2] = some y2 := hf 2 _ rfl
  have e3 : DataW.trod enc Try.prog w base (fun _ => true) held n 34 [v3] = some y3 := hf 3 _ rfl
  have hd : d = .agg [y0.1, y1.1, y2.1, y3.1] := congrArg Prod.fst hx
  have hws : ∀ (j : Nat) (t : TypeId) (d : DataW H), [31, 32, 33, 34][j]? = some t → [y0.1, y1.1, y2.1, y3.1][j]? = some d → ∀ n ∈ d.weights Try.prog t, n ≤ reachBytes := fun j t d' ht hd' n hn => by
   refine hw n ?_
   rw [hd]
   show n ∈ DataW.weights Try.prog 36 (.agg [y0.1, y1.1, y2.1, y3.1])
   rw [DataW.weights, Try.underlying36]
   exact DataW.weights_mem_each (ts := [31, 32, 33, 34]) ht hd' n hn
  obtain ⟨l0, r0, s0, g0⟩ := open_rowG (Good := fun p : Par => p.name.size ≤ 140737488351232) (by decide) parC_len Try.underlying31 cells_Param bytes_Param (by decide) (fun h hw => open_Par h hw) e0 (hws 0 _ _ rfl rfl)
  obtain ⟨l1, r1, s1, g1⟩ := open_rowG (Good := fun _ : Ty => True) (by decide) tyC_len Try.underlying32 cells_Type bytes_Type (by decide) (fun h _ => open_Ty h) e1 (hws 1 _ _ rfl rfl)
  obtain ⟨l2, r2, s2, g2⟩ := open_rowG (Good := SlOk) (by decide) slC_len Try.underlying33 cells_Slot bytes_Slot (by decide) (fun h _ => open_Sl h) e2 (hws 2 _ _ rfl rfl)
  obtain ⟨l3, r3, s3, g3⟩ := open_rowG (Good := InsOk) (by decide) inC_len Try.underlying34 cells_Inst bytes_Inst (by decide) (fun h _ => open_Ins h) e3 (hws 3 _ _ rfl rfl)
  refine ⟨v0, v1, v2, v3, ⟨l0, l1, l2, l3⟩, ?_, ⟨r0, r1, r2, r3⟩, ⟨by show l0.length ≤ _; omega, g0, by show l1.length ≤ _; omega, by show l2.length ≤ _; omega, by show l3.length ≤ _; omega, g2, g3⟩, s0, s1, s2, s3⟩
  rw [Value.agg.injEq]
  apply Array.toList_inj.1
  exact hcs
end
end Go.Proofs.Ytkdpchlehoomhaa
namespace Go.Proofs.Ytkdpchlehoomhaa
open Go.ChangeShapes Go.WideShapes Go.ChangeAt Go.RowKit
set_option linter.unusedVariables false
set_option maxRecDepth 100000
theorem bulk_one {H : Type} (d : DataW H) : 1 ≤ Rows.uptoBulk d := by
 cases d with
 | lit l => cases l <;> simp [Rows.uptoBulk]
 | _ => simp [Rows.uptoBulk]
theorem bulk_len {H : Type} : ∀ l : List (DataW H), l.length ≤ Rows.uptoBulkAll l
 | [] => by simp [Rows.uptoBulkAll]
 | d :: r => by have := bulk_one d; have := bulk_len r; simp only [Rows.uptoBulkAll, List.length_cons]; omega
theorem open_bulk {H : Type} {enc : TypeId × Value → H} {w : World} {base : Nat} {held : Bool} {fuel : Nat} {t e : TypeId} {v : Value} {x : DataW H × List MemPlace} (ht : Try.prog.underlying t = some (.slice e)) (h : DataW.trod enc Try.prog w base (fun _ => true) held fuel t [v] = some x) : ∃ p n c, v = .slice p n c ∧ n ≤ Rows.uptoBulk x.1 := by
 rcases DataW.trod_slice ht h with ⟨hcs, hx⟩ | ⟨a, len, cap, elems, rest, m, hm, hcs, hx, h1, h2, h3, hel, hread, h4, h5⟩
 ·simp only [List.cons.injEq, and_true] at hcs
  exact ⟨none, 0, 0, hcs, Nat.zero_le _⟩
 ·simp only [List.cons.injEq, and_true] at hcs
  refine ⟨some a, len, cap, hcs, ?_⟩
  subst hx
  have := bulk_len (elems.map (·.1))
  simp only [Rows.uptoBulk, List.length_map] at this ⊢
  omega
theorem open_CodeB {H : Type} {enc : TypeId × Value → H} {w : World} {base : Nat} {held : Bool} {v0 v1 v2 v3 : Value} {d : DataW H} {pl : List MemPlace} (h : DataW.Trod enc Try.prog w base (fun _ => true) held 36 (.agg #[v0, v1, v2, v3]) d pl) :
  ∃ p1 n1 c1 p3 n3 c3, v1 = .slice p1 n1 c1 ∧ v3 = .slice p3 n3 c3 ∧ n1 + n3 ≤ Rows.uptoBulk d := by
 obtain ⟨fuel, hf0⟩ := h
 obtain ⟨xs, n, hfn, hx, hl, hxl, hf⟩ := DataW.trod_struct Try.underlying36 hf0
 have hcl : (Value.agg #[v0, v1, v2, v3]).cells.toList = [v0, v1, v2, v3] := by simp [Value.cells]
 rw [hcl] at hf
 match xs, hxl with
 | [y0, y1, y2, y3], _ =>
  have e1 : DataW.trod enc Try.prog w base (fun _ => true) held n 32 [v1] = some y1 := hf 1 _ rfl
  have e3 : DataW.trod enc Try.prog w base (fun _ => true) held n 34 [v3] = some y3 := hf 3 _ rfl
  obtain ⟨p1, n1, c1, q1, l1⟩ := open_bulk Try.underlying32 e1
  obtain ⟨p3, n3, c3, q3, l3⟩ := open_bulk Try.underlying34 e3
  refine ⟨p1, n1, c1, p3, n3, c3, q1, q3, ?_⟩
  have hd : d = .agg [y0.1, y1.1, y2.1, y3.1] := by
   have := congrArg Prod.fst hx
   simpa using this
  rw [hd]
  simp only [Rows.uptoBulk, Rows.uptoBulkAll]
  omega
end Go.Proofs.Ytkdpchlehoomhaa
