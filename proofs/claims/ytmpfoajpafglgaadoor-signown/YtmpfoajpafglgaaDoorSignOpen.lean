import Derived.Test.YtmpfoajpafglgaaDoorSignMem
import Derived.Test.YtmpfoajpafglgaaDoorRows
import Derived.WalkKit
import Derived.ProofKit
import Derived.OpenShut
import Derived.JoinedCond
import Derived.Deep.Slices
import Derived.Deep.Strs
import Derived.SizedLaws
/- An argument opened: a list of parameters. -/
namespace Go.Proofs.YtmpfoajpafglgaaDoor
open Go.ChangeShapes Go.WideShapes Go.ChangeAt Go.RowKit
set_option linter.unusedVariables false

theorem cells_Param : Tryd.prog.cellsOf 30 = 3 := by kernel_rfl
theorem bytes_Param : Tryd.prog.bytesOf 30 = 32 := by kernel_rfl

theorem weights_mem_all {H : Type} {P : Program} {e : TypeId} : ∀ {l : List (DataW H)} {d : DataW H}, d ∈ l → ∀ n ∈ d.weights P e, n ∈ DataW.weightsAll P e l
  | [], d, h, n, hn => by cases h
  | x :: r, d, h, n, hn => by
    simp only [DataW.weightsAll, List.mem_append]
    rcases List.mem_cons.1 h with rfl | h
    · exact .inl hn
    · exact .inr (weights_mem_all h n hn)

section
variable {H : Type} {enc : TypeId × Value → H} {w : World} {base : Nat} {held : Bool}

set_option maxRecDepth 100000 in
theorem open_Par {fuel : Nat} {cs : List Value} {x : DataW H × List MemPlace} (h : DataW.trod enc Tryd.prog w base (fun _ => true) held fuel 30 cs = some x) (hw : ∀ n ∈ x.1.weights Tryd.prog 30, n ≤ reachBytes) :
    ∃ p : Par, cs = parCells p ∧ p.name.size ≤ 140737488351232 := by
  obtain ⟨xs, n, hfn, hx, hl, hxl, hf⟩ := DataW.trod_struct Tryd.underlying30 h
  rw [cells_Param] at hl
  match cs, hl with
  | [v0, v1, v2], _ =>
  match xs, hxl with
  | [y0, y1, y2], _ =>
    have e0 : DataW.trod enc Tryd.prog w base (fun _ => true) held n 9 [v0] = some y0 := hf 0 _ rfl
    have e1 : DataW.trod enc Tryd.prog w base (fun _ => true) held n 3 [v1] = some y1 := hf 1 _ rfl
    have e2 : DataW.trod enc Tryd.prog w base (fun _ => true) held n 3 [v2] = some y2 := hf 2 _ rfl
    obtain ⟨a0, c0, hd0, w0⟩ := DataW.trod_string Tryd.underlying9 e0
    obtain ⟨a1, c1, hd1, w1⟩ := DataW.trod_int Tryd.underlying3 e1
    obtain ⟨a2, c2, hd2, w2⟩ := DataW.trod_int Tryd.underlying3 e2
    simp only [List.cons.injEq, and_true] at c0 c1 c2
    subst c0 c1 c2
    subst hx
    have hws : ∀ (j : Nat) (t : TypeId) (d : DataW H), [9, 3, 3][j]? = some t → [y0.1, y1.1, y2.1][j]? = some d → ∀ n ∈ d.weights Tryd.prog t, n ≤ reachBytes := fun j t d ht hd n hn => by
      refine hw n ?_
      show n ∈ DataW.weights Tryd.prog 30 (.agg [y0.1, y1.1, y2.1])
      rw [DataW.weights, Tryd.underlying30]
      exact DataW.weights_mem_each (ts := [9, 3, 3]) ht hd n hn
    have s1 : a0.size ≤ 140737488351232 := by
      have := hws 0 _ _ rfl rfl a0.data.toList.length (by rw [hd0]; simp [DataW.weights])
      simpa [reachBytes] using this
    exact ⟨⟨a0, a1, a2⟩, rfl, s1⟩

set_option maxRecDepth 100000 in
theorem open_Pars {r : Reach} {b0 : Nat} {v : Value} {d : DataW H} {pl : List MemPlace} (hv : Value.okWide Tryd.prog w r b0 22 v) (h : DataW.Trod enc Tryd.prog w base (fun _ => true) held 22 v d pl) (hw : ∀ n ∈ d.weights Tryd.prog 22, n ≤ reachBytes) :
    ∃ (p : Option Addr) (c : Nat) (l : List Par), v = .slice p l.length c ∧ (p = none → l.length = 0 ∧ c = 0) ∧ Row w p l ∧ l.length ≤ 4398046510976 ∧ ∀ q ∈ l, q.name.size ≤ 140737488351232 := by
  obtain ⟨sp, len, cap, rfl⟩ := okWide_slice Tryd.underlying22 hv
  obtain ⟨fuel, hf⟩ := h
  rcases DataW.trod_slice Tryd.underlying22 hf with ⟨hcs, hx⟩ | ⟨a, len', cap', elems, rest, m, hm, hcs, hx, _, hl, _, hel, hread, _, _⟩
  · simp [Value.cells] at hcs
    obtain ⟨rfl, rfl, rfl⟩ := hcs
    exact ⟨none, 0, [], rfl, fun _ => ⟨rfl, rfl⟩, .inl rfl, by simp, fun q h => by cases h⟩
  · simp [Value.cells] at hcs
    obtain ⟨rfl, rfl, rfl⟩ := hcs
    simp only [Prod.mk.injEq] at hx
    obtain ⟨rfl, -⟩ := hx
    have key : ∀ i, i < len → ∃ q : Par, (∀ k, k < 3 → w.cell? (a.add (i * 3 + k)) = (parCells q)[k]?) ∧ q.name.size ≤ 140737488351232 := by
      intro i hi
      have h1 := hread i hi
      rw [cells_Param] at h1
      have hie : i < elems.length := by omega
      rw [List.getElem?_eq_getElem hie] at h1
      obtain ⟨cs', h2, h3⟩ := Option.bind_eq_some_iff.1 h1
      obtain ⟨_, hlen3, hcell⟩ := World.cells?_some h2
      obtain ⟨q, hcs, hok⟩ := open_Par h3 (fun k hk => hw k (by
        rw [DataW.weights, Tryd.underlying22]
        exact List.mem_cons_of_mem _ (List.mem_append_left _ (weights_mem_all (List.mem_map.2 ⟨elems[i], List.getElem_mem hie, rfl⟩) k hk))))
      refine ⟨q, fun k hk => ?_, hok⟩
      have := hcell k hk
      rw [Go.Deep.add_add, hcs] at this
      exact this
    have : Inhabited Par := ⟨⟨⟨#[]⟩, 0, 0⟩⟩
    obtain ⟨f, hf2⟩ := Go.Deep.choose_lt key
    have hTl : ((List.range len).map f).length = len := by simp
    have hbig : len ≤ 4398046510976 := by
      have := hw _ (by rw [DataW.weights, Tryd.underlying22]; exact List.mem_cons_self)
      rw [bytes_Param] at this
      simp only [List.length_map, reachBytes] at this
      omega
    refine ⟨some a, cap, (List.range len).map f, by rw [hTl], fun e => (by cases e), ?_, by rw [hTl]; exact hbig, ?_⟩
    · by_cases hl0 : len = 0
      · left; simp [hl0]
      · obtain ⟨b, off, spot⟩ := a
        have hspot : spot = none := by simpa [Addr.add] using World.cell?_spot ((hf2 0 (by omega)).1 0 (by decide))
        subst hspot
        refine .inr ⟨b, off, rfl, fun i hi => ?_⟩
        have hi' : i < len := by rw [hTl] at hi; exact hi
        obtain ⟨g, -⟩ := hf2 i hi'
        have e : ((List.range len).map f)[i] = f i := by simp
        simp only [add_plain] at g
        rw [e]
        have g' : ∀ k, k < 3 → w.cell? ⟨b, off + i * 3 + k, none⟩ = (parCells (f i))[k]? := fun k hk => by rw [Nat.add_assoc]; exact g k hk
        exact ⟨g' 0 (by decide), g' 1 (by decide), g' 2 (by decide)⟩
    · intro q hq
      obtain ⟨i, hi, rfl⟩ := List.mem_map.1 hq
      exact (hf2 i (List.mem_range.1 hi)).2
end

end Go.Proofs.YtmpfoajpafglgaaDoor
