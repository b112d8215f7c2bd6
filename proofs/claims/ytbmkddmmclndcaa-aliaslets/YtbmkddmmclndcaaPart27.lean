import Derived.Test.YtbmkddmmclndcaaPart1
import Derived.Test.YtbmkddmmclndcaaRows
import Derived.WalkKit
import Derived.ProofKit
import Derived.OpenShut
import Derived.JoinedCond
import Derived.Deep.Slices
import Derived.Deep.Strs
import Derived.SizedLaws
/- An argument opened: a tree. -/
namespace Go.Proofs.Ytbmkddmmclndcaa
open Go.ChangeShapes Go.WideShapes Go.ChangeAt Go.RowKit
set_option linter.unusedVariables false
set_option maxRecDepth 100000

theorem cells_Node : Try.prog.cellsOf 26 = 7 := by kernel_rfl

theorem weights_mem_all {H : Type} {P : Program} {e : TypeId} : ∀ {l : List (DataW H)} {d : DataW H}, d ∈ l → ∀ n ∈ d.weights P e, n ∈ DataW.weightsAll P e l
  | [], d, h, n, hn => by cases h
  | x :: r, d, h, n, hn => by
    simp only [DataW.weightsAll, List.mem_append]
    rcases List.mem_cons.1 h with rfl | h
    · exact .inl hn
    · exact .inr (weights_mem_all h n hn)

section
variable {H : Type} {enc : TypeId × Value → H} {w : World} {base : Nat} {held : Bool}

theorem open_Node : ∀ (fuel : Nat) (cs : List Value) (x : DataW H × List MemPlace), DataW.trod enc Try.prog w base (fun _ => true) held fuel 26 cs = some x → (∀ n ∈ x.1.weights Try.prog 26, n ≤ reachBytes) →
    ∃ (t : Nd) (p : Option Addr) (c : Nat), cs = [.int .i64 t.kind, .string t.name, .int .u32 t.num, .int .i64 t.int_, .string t.key, .slice p t.args.length c, .int .i64 t.at_] ∧ Kids w anyH (.slice p t.args.length c) t.args ∧ ok1 t := by
  intro fuel
  induction fuel using Nat.strongRecOn with
  | _ fuel ih =>
    intro cs x h hw
    obtain ⟨xs, n, hfn, hx, hl, hxl, hf⟩ := DataW.trod_struct Try.underlying26 h
    rw [cells_Node] at hl
    match cs, hl with
    | [v0, v1, v2, v3, v4, v5, v6], _ =>
    match xs, hxl with
    | [y0, y1, y2, y3, y4, y5, y6], _ =>
      have e0 : DataW.trod enc Try.prog w base (fun _ => true) held n 3 [v0] = some y0 := hf 0 _ rfl
      have e1 : DataW.trod enc Try.prog w base (fun _ => true) held n 9 [v1] = some y1 := hf 1 _ rfl
      have e2 : DataW.trod enc Try.prog w base (fun _ => true) held n 23 [v2] = some y2 := hf 2 _ rfl
      have e3 : DataW.trod enc Try.prog w base (fun _ => true) held n 3 [v3] = some y3 := hf 3 _ rfl
      have e4 : DataW.trod enc Try.prog w base (fun _ => true) held n 9 [v4] = some y4 := hf 4 _ rfl
      have e5 : DataW.trod enc Try.prog w base (fun _ => true) held n 24 [v5] = some y5 := hf 5 _ rfl
      have e6 : DataW.trod enc Try.prog w base (fun _ => true) held n 3 [v6] = some y6 := hf 6 _ rfl
      obtain ⟨a0, c0, hd0, w0⟩ := DataW.trod_int Try.underlying3 e0
      obtain ⟨a1, c1, hd1, w1⟩ := DataW.trod_string Try.underlying9 e1
      obtain ⟨a2, c2, hd2, w2⟩ := DataW.trod_int Try.underlying23 e2
      obtain ⟨a3, c3, hd3, w3⟩ := DataW.trod_int Try.underlying3 e3
      obtain ⟨a4, c4, hd4, w4⟩ := DataW.trod_string Try.underlying9 e4
      obtain ⟨a6, c6, hd6, w6⟩ := DataW.trod_int Try.underlying3 e6
      simp only [List.cons.injEq, and_true] at c0 c1 c2 c3 c4 c6
      subst c0 c1 c2 c3 c4 c6
      subst hx
      have hws : ∀ (j : Nat) (t : TypeId) (d : DataW H), [3, 9, 23, 3, 9, 24, 3][j]? = some t → [y0.1, y1.1, y2.1, y3.1, y4.1, y5.1, y6.1][j]? = some d → ∀ n ∈ d.weights Try.prog t, n ≤ reachBytes := fun j t d ht hd n hn => by
        refine hw n ?_
        show n ∈ DataW.weights Try.prog 26 (.agg [y0.1, y1.1, y2.1, y3.1, y4.1, y5.1, y6.1])
        rw [DataW.weights, Try.underlying26]
        exact DataW.weights_mem_each (ts := [3, 9, 23, 3, 9, 24, 3]) ht hd n hn
      have s1 : a1.size ≤ 140737488351232 := by
        have := hws 1 _ _ rfl rfl a1.data.toList.length (by rw [hd1]; simp [DataW.weights])
        simpa [reachBytes] using this
      have s4 : a4.size ≤ 140737488351232 := by
        have := hws 4 _ _ rfl rfl a4.data.toList.length (by rw [hd4]; simp [DataW.weights])
        simpa [reachBytes] using this
      have b2 := bounds_u32 w2
      rcases DataW.trod_slice Try.underlying24 e5 with ⟨hcs, hx5⟩ | ⟨a, len, cap, elems, rest, m, hm, hcs, hx5, _, hl5, _, hel, hread, _, _⟩
      · simp only [List.cons.injEq, and_true] at hcs
        subst hcs
        exact ⟨⟨a0, a1, a2, a3, a4, [], a6⟩, none, 0, rfl, ⟨none, 0, rfl, trivial, .inl rfl⟩, ⟨s1, s4, b2.1, Int.lt_of_le_of_lt b2.2 (by decide)⟩, okL_nil⟩
      · simp only [List.cons.injEq, and_true] at hcs
        subst hcs
        have key : ∀ i, i < len → ∃ q : Nd × Option Addr × Nat, (∀ k, k < 7 → w.cell? (a.add (i * 7 + k)) = [Value.int .i64 q.1.kind, .string q.1.name, .int .u32 q.1.num, .int .i64 q.1.int_, .string q.1.key, .slice q.2.1 q.1.args.length q.2.2, .int .i64 q.1.at_][k]?) ∧ Kids w anyH (.slice q.2.1 q.1.args.length q.2.2) q.1.args ∧ ok1 q.1 := by
          intro i hi
          have h1 := hread i hi
          rw [cells_Node] at h1
          have hie : i < elems.length := by omega
          rw [List.getElem?_eq_getElem hie] at h1
          obtain ⟨cs', h2, h3⟩ := Option.bind_eq_some_iff.1 h1
          obtain ⟨_, hlen7, hcell⟩ := World.cells?_some h2
          obtain ⟨t, p, c, hcs, hk, hok⟩ := ih m (by omega) cs' _ h3 (fun k hk => hws 5 _ _ rfl rfl k (by
            rw [hx5, DataW.weights, Try.underlying24]
            exact List.mem_cons_of_mem _ (List.mem_append_left _ (weights_mem_all (List.mem_map.2 ⟨elems[i], List.getElem_mem hie, rfl⟩) k hk))))
          refine ⟨(t, p, c), fun k hk7 => ?_, hk, hok⟩
          have := hcell k hk7
          rw [Go.Deep.add_add, hcs] at this
          exact this
        have : Inhabited (Nd × Option Addr × Nat) := ⟨(⟨0, ⟨#[]⟩, 0, 0, ⟨#[]⟩, [], 0⟩, none, 0)⟩
        obtain ⟨f, hf⟩ := Go.Deep.choose_lt key
        have hTl : ((List.range len).map fun i => (f i).1).length = len := by simp
        refine ⟨⟨a0, a1, a2, a3, a4, (List.range len).map fun i => (f i).1, a6⟩, some a, cap, by simp, ?_, ⟨s1, s4, b2.1, Int.lt_of_le_of_lt b2.2 (by decide)⟩, ?_⟩
        · refine ⟨some a, cap, rfl, trivial, ?_⟩
          by_cases hl0 : len = 0
          · left; simp [hl0]
          · obtain ⟨b, off, spot⟩ := a
            have hspot : spot = none := by simpa [Addr.add] using World.cell?_spot ((hf 0 (by omega)).1 0 (by decide))
            subst hspot
            refine .inr ⟨b, off, rfl, KA_of fun i hi => ?_⟩
            have hi' : i < len := by rw [hTl] at hi; exact hi
            obtain ⟨g, hk, -⟩ := hf i hi'
            have e : ((List.range len).map fun i => (f i).1)[i] = (f i).1 := by simp
            simp only [add_plain] at g
            rw [e]
            have g' : ∀ k, k < 7 → w.cell? ⟨b, off + i * 7 + k, none⟩ = [Value.int .i64 (f i).1.kind, .string (f i).1.name, .int .u32 (f i).1.num, .int .i64 (f i).1.int_, .string (f i).1.key, .slice (f i).2.1 (f i).1.args.length (f i).2.2, .int .i64 (f i).1.at_][k]? := fun k hk => by rw [Nat.add_assoc]; exact g k hk
            exact ⟨g' 0 (by decide), g' 1 (by decide), g' 2 (by decide), g' 3 (by decide), g' 4 (by decide), g' 6 (by decide), _, g' 5 (by decide), hk⟩
        · have okAll : ∀ l : List Nd, (∀ t ∈ l, ok1 t) → okL l := by
            intro l
            induction l with
            | nil => intro _; exact okL_nil
            | cons t r ih => intro h; exact (okL_cons t r).2 ⟨h t (by simp), ih fun u hu => h u (by simp [hu])⟩
          refine okAll _ fun t ht => ?_
          obtain ⟨i, hi, rfl⟩ := List.mem_map.1 ht
          exact (hf i (List.mem_range.1 hi)).2.2

theorem open_Tree {r : Reach} {b0 : Nat} {v : Value} {d : DataW H} {pl : List MemPlace} (hv : Value.okWide Try.prog w r b0 26 v) (h : DataW.Trod enc Try.prog w base (fun _ => true) held 26 v d pl) (hw : ∀ n ∈ d.weights Try.prog 26, n ≤ reachBytes) :
    ∃ (t : Nd) (p : Option Addr) (c : Nat), v = nv t (.slice p t.args.length c) ∧ Kids w anyH (.slice p t.args.length c) t.args ∧ ok1 t := by
  obtain ⟨cs, rfl, hsz⟩ := okWide_struct Try.underlying26 hv
  obtain ⟨fuel, hf⟩ := h
  obtain ⟨t, p, c, hcs, hk, hok⟩ := open_Node fuel _ _ hf hw
  refine ⟨t, p, c, ?_, hk, hok⟩
  simp only [Value.cells] at hcs
  unfold nv
  rw [Value.agg.injEq]
  apply Array.toList_inj.1
  exact hcs
end

end Go.Proofs.Ytbmkddmmclndcaa
