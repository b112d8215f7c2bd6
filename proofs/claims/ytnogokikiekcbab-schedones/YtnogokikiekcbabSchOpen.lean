import Derived.Test.YtnogokikiekcbabSchFits
import Derived.Test.YtnogokikiekcbabRows
import Derived.WalkKit
import Derived.ProofKit
import Derived.OpenShut
import Derived.JoinedCond
import Derived.Deep.Slices
import Derived.Deep.Strs
import Derived.SizedLaws
/- An argument opened: a schedule. -/
namespace Go.Proofs.Ytnogokikiekcbab
open Go.ChangeShapes Go.WideShapes Go.ChangeAt Go.RowKit
set_option linter.unusedVariables false
set_option maxRecDepth 100000

theorem cells_Sched : Try.prog.cellsOf 26 = 4 := by kernel_rfl
theorem cells_F1 : Try.prog.cellsOf 31 = 1 := by kernel_rfl
theorem cells_I1 : Try.prog.cellsOf 3 = 1 := by kernel_rfl
theorem bytes_F1 : Try.prog.bytesOf 31 = 4 := by kernel_rfl
theorem bytes_I1 : Try.prog.bytesOf 3 = 8 := by kernel_rfl
theorem bytes_S1 : Try.prog.bytesOf 26 = 80 := by kernel_rfl

theorem weights_mem_all {H : Type} {P : Program} {e : TypeId} : ∀ {l : List (DataW H)} {d : DataW H}, d ∈ l → ∀ n ∈ d.weights P e, n ∈ DataW.weightsAll P e l
  | [], d, h, n, hn => by cases h
  | x :: r, d, h, n, hn => by
    simp only [DataW.weightsAll, List.mem_append]
    rcases List.mem_cons.1 h with rfl | h
    · exact .inl hn
    · exact .inr (weights_mem_all h n hn)

section
variable {H : Type} {enc : TypeId × Value → H} {w : World} {base : Nat} {held : Bool}

theorem open_row {t e : TypeId} {k : IntKind} {fuel : Nat} {v : Value} {y : DataW H × List MemPlace} {B : Nat} (ht : Try.prog.underlying t = some (.slice e)) (he : Try.prog.underlying e = some (.int k)) (hc : Try.prog.cellsOf e = 1) (hb : Try.prog.bytesOf e = B)
    (h : DataW.trod enc Try.prog w base (fun _ => true) held fuel t [v] = some y) (hw : ∀ n ∈ y.1.weights Try.prog t, n ≤ reachBytes) :
    ∃ (l : List Int), Row w k v l ∧ (∀ x ∈ l, (Lit.int k x).wf = true) ∧ l.length * B ≤ reachBytes := by
  rcases open_ints ht he hc h with ⟨hcs, hx⟩ | ⟨a, len, cap, zs, hcs, _, hl, hm, hz, hx, hcell, hwz⟩
  · simp only [List.cons.injEq, and_true] at hcs
    subst hcs
    exact ⟨[], ⟨none, 0, rfl, .inl rfl⟩, (fun x hx => absurd hx List.not_mem_nil), (by simp)⟩
  · simp only [List.cons.injEq, and_true] at hcs
    subst hcs
    simp only [if_true] at hz
    have hlt : (zs.take len).length = len := by rw [List.length_take]; omega
    refine ⟨zs.take len, ⟨some a, cap, by rw [hlt], ?_⟩, fun x hx => hwz x (List.mem_of_mem_take hx), ?_⟩
    · by_cases hl0 : len = 0
      · left; rw [hl0]; rfl
      · obtain ⟨b, off, spot⟩ := a
        have hspot : spot = none := by simpa [Addr.add] using World.cell?_spot (hcell 0 (by omega))
        subst hspot
        refine .inr ⟨b, off, rfl, fun i hi => ?_⟩
        have hi' : i < len := by rw [hlt] at hi; exact hi
        have := hcell i (by omega)
        rw [add_plain] at this
        rw [this]
        have hzi : i < zs.length := by omega
        simp [List.getD, hzi]
    · have := hw ((lits (H := H) k (zs.take len)).length + (lits (H := H) k (zs.drop len)).length |> (· * Try.prog.bytesOf e)) (by rw [hx]; simp [DataW.weights, ht])
      rw [hb] at this
      simp only [lits, List.length_map, List.length_take, List.length_drop] at this
      rw [hlt]
      refine Nat.le_trans (Nat.mul_le_mul_right _ ?_) this
      omega

theorem open_Sched : ∀ (fuel : Nat) (cs : List Value) (x : DataW H × List MemPlace), DataW.trod enc Try.prog w base (fun _ => true) held fuel 26 cs = some x → (∀ n ∈ x.1.weights Try.prog 26, n ≤ reachBytes) →
    ∃ (t : Sc) (a b c : Value), cs = [.int .i64 t.op, a, b, c] ∧ SV w t a b c ∧ sok t := by
  intro fuel
  induction fuel using Nat.strongRecOn with
  | _ fuel ih =>
    intro cs x h hw
    obtain ⟨xs, n, hfn, hx, hl, hxl, hf⟩ := DataW.trod_struct Try.underlying26 h
    rw [cells_Sched] at hl
    match cs, hl with
    | [v0, v1, v2, v3], _ =>
    match xs, hxl with
    | [y0, y1, y2, y3], _ =>
      have e0 : DataW.trod enc Try.prog w base (fun _ => true) held n 3 [v0] = some y0 := hf 0 _ rfl
      have e1 : DataW.trod enc Try.prog w base (fun _ => true) held n 22 [v1] = some y1 := hf 1 _ rfl
      have e2 : DataW.trod enc Try.prog w base (fun _ => true) held n 23 [v2] = some y2 := hf 2 _ rfl
      have e3 : DataW.trod enc Try.prog w base (fun _ => true) held n 24 [v3] = some y3 := hf 3 _ rfl
      obtain ⟨a0, c0, hd0, w0⟩ := DataW.trod_int Try.underlying3 e0
      simp only [List.cons.injEq, and_true] at c0
      subst c0
      subst hx
      have hws : ∀ (j : Nat) (t : TypeId) (d : DataW H), [3, 22, 23, 24][j]? = some t → [y0.1, y1.1, y2.1, y3.1][j]? = some d → ∀ n ∈ d.weights Try.prog t, n ≤ reachBytes := fun j t d ht hd n hn => by
        refine hw n ?_
        show n ∈ DataW.weights Try.prog 26 (.agg [y0.1, y1.1, y2.1, y3.1])
        rw [DataW.weights, Try.underlying26]
        exact DataW.weights_mem_each (ts := [3, 22, 23, 24]) ht hd n hn
      obtain ⟨ns, r1, q1, l1⟩ := open_row Try.underlying22 Try.underlying31 cells_F1 bytes_F1 e1 (hws 1 _ _ rfl rfl)
      obtain ⟨is, r2, q2, l2⟩ := open_row Try.underlying23 Try.underlying3 cells_I1 bytes_I1 e2 (hws 2 _ _ rfl rfl)
      have b0 := bounds_i64 w0
      have hn1 : ∀ x ∈ ns, 0 ≤ x ∧ x < 4294967296 := fun x hx => ⟨(bounds_u32 (q1 x hx)).1, Int.lt_of_le_of_lt (bounds_u32 (q1 x hx)).2 (by decide)⟩
      have hn2 : ∀ x ∈ is, -9223372036854775808 ≤ x ∧ x ≤ 9223372036854775807 := fun x hx => bounds_i64 (q2 x hx)
      have m1 : ns.length ≤ 35184372087808 := by simp only [reachBytes] at l1; omega
      have m2 : is.length ≤ 17592186043904 := by simp only [reachBytes] at l2; omega
      rcases DataW.trod_slice Try.underlying24 e3 with ⟨hcs, hx3⟩ | ⟨a, len, cap, elems, rest, m, hm, hcs, hx3, _, hl3, _, hel, hread, _, _⟩
      · simp only [List.cons.injEq, and_true] at hcs
        subst hcs
        exact ⟨⟨a0, ns, is, []⟩, v1, v2, _, rfl, ⟨r1, r2, none, 0, rfl, .inl rfl⟩, ⟨b0, hn1, hn2, m1, m2, by simp⟩, sokL_nil⟩
      · simp only [List.cons.injEq, and_true] at hcs
        subst hcs
        have key : ∀ i, i < len → ∃ q : Sc × Value × Value × Value, (∀ k, k < 4 → w.cell? (a.add (i * 4 + k)) = [Value.int .i64 q.1.op, q.2.1, q.2.2.1, q.2.2.2][k]?) ∧ SV w q.1 q.2.1 q.2.2.1 q.2.2.2 ∧ sok q.1 := by
          intro i hi
          have h1 := hread i hi
          rw [cells_Sched] at h1
          have hie : i < elems.length := by omega
          rw [List.getElem?_eq_getElem hie] at h1
          obtain ⟨cs', h2, h3⟩ := Option.bind_eq_some_iff.1 h1
          obtain ⟨_, hlen4, hcell⟩ := World.cells?_some h2
          obtain ⟨t, p, c, d, hcs, hk, hok⟩ := ih m (by omega) cs' _ h3 (fun k hk => hws 3 _ _ rfl rfl k (by
            rw [hx3, DataW.weights, Try.underlying24]
            exact List.mem_cons_of_mem _ (List.mem_append_left _ (weights_mem_all (List.mem_map.2 ⟨elems[i], List.getElem_mem hie, rfl⟩) k hk))))
          refine ⟨(t, p, c, d), fun k hk4 => ?_, hk, hok⟩
          have := hcell k hk4
          rw [Go.Deep.add_add, hcs] at this
          exact this
        have : Inhabited (Sc × Value × Value × Value) := ⟨(⟨0, [], [], []⟩, .bool false, .bool false, .bool false)⟩
        obtain ⟨f, hf⟩ := Go.Deep.choose_lt key
        have hTl : ((List.range len).map fun i => (f i).1).length = len := by simp
        have hlen : len ≤ 17592186043904 := by
          have := hws 3 _ _ rfl rfl ((elems.map (·.1)).length + (rest.map (·.1)).length |> (· * Try.prog.bytesOf 26)) (by rw [hx3]; simp [DataW.weights, Try.underlying24])
          rw [bytes_S1] at this
          simp only [List.length_map, reachBytes] at this
          omega
        refine ⟨⟨a0, ns, is, (List.range len).map fun i => (f i).1⟩, v1, v2, .slice (some a) len cap, rfl, ⟨r1, r2, ?_⟩, ⟨b0, hn1, hn2, m1, m2, by simp only [hTl]; exact hlen⟩, ?_⟩
        · refine ⟨some a, cap, by simp, ?_⟩
          by_cases hl0 : len = 0
          · left; simp [hl0]
          · obtain ⟨b, off, spot⟩ := a
            have hspot : spot = none := by simpa [Addr.add] using World.cell?_spot ((hf 0 (by omega)).1 0 (by decide))
            subst hspot
            refine .inr ⟨b, off, rfl, SL_of fun i hi => ?_⟩
            have hi' : i < len := by rw [hTl] at hi; exact hi
            obtain ⟨g, hk, -⟩ := hf i hi'
            have e : ((List.range len).map fun i => (f i).1)[i] = (f i).1 := by simp
            simp only [add_plain] at g
            rw [e]
            have g' : ∀ k, k < 4 → w.cell? ⟨b, off + i * 4 + k, none⟩ = [Value.int .i64 (f i).1.op, (f i).2.1, (f i).2.2.1, (f i).2.2.2][k]? := fun k hk => by rw [Nat.add_assoc]; exact g k hk
            exact hk.at_ (g' 0 (by decide)) (g' 1 (by decide)) (g' 2 (by decide)) (g' 3 (by decide))
        · refine (sokL_iff _).2 fun t ht => ?_
          obtain ⟨i, hi, rfl⟩ := List.mem_map.1 ht
          exact (hf i (List.mem_range.1 hi)).2.2

theorem open_Sch {r : Reach} {b0 : Nat} {v : Value} {d : DataW H} {pl : List MemPlace} (hv : Value.okWide Try.prog w r b0 26 v) (h : DataW.Trod enc Try.prog w base (fun _ => true) held 26 v d pl) (hw : ∀ n ∈ d.weights Try.prog 26, n ≤ reachBytes) :
    ∃ (t : Sc) (a b c : Value), v = .agg #[.int .i64 t.op, a, b, c] ∧ SV w t a b c ∧ sok t := by
  obtain ⟨cs, rfl, hsz⟩ := okWide_struct Try.underlying26 hv
  obtain ⟨fuel, hf⟩ := h
  obtain ⟨t, a, b, c, hcs, hk, hok⟩ := open_Sched fuel _ _ hf hw
  refine ⟨t, a, b, c, ?_, hk, hok⟩
  simp only [Value.cells] at hcs
  rw [Value.agg.injEq]
  apply Array.toList_inj.1
  exact hcs
end

end Go.Proofs.Ytnogokikiekcbab
