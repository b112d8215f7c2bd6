import Derived.Test.YtpidjmgifglmiabTreeCopy
import Derived.Test.YtpidjmgifglmiabTreeRef
/- Rows of nodes that grow by append. -/
namespace Go.Proofs.Ytpidjmgifglmiab
open Go.RowKit
set_option linter.unusedVariables false
set_option linter.unusedSimpArgs false

/-- Rows that lie from C on, below S, and not in one block. -/
def kidH (C S : Nat) (g : Option Nat) : Heads := fun p n c => ∀ b o, p = some ⟨b, o, none⟩ → C ≤ b ∧ b < S ∧ some b ≠ g
def nodeCells (t : Nd) (s : Value) : List Value := [.int .i64 t.kind, .string t.name, .int .u32 t.num, .int .i64 t.int_, .string t.key, s, .int .i64 t.at_]
def cellsN (R : List (Nd × Value)) : List Value := R.flatMap fun r => nodeCells r.1 r.2
theorem cellsN_snoc (R : List (Nd × Value)) (t : Nd) (s : Value) : cellsN (R ++ [(t, s)]) = cellsN R ++ nodeCells t s := by simp [cellsN]
theorem cellsN_len (R : List (Nd × Value)) : (cellsN R).length = R.length * 7 := by
  induction R with
  | nil => rfl
  | cons r R ih =>
    have e : cellsN (r :: R) = nodeCells r.1 r.2 ++ cellsN R := by simp [cellsN]
    rw [e, List.length_append, ih]
    simp [nodeCells]; omega
theorem cellsN_at : ∀ (R : List (Nd × Value)) (i k : Nat) (hi : i < R.length), k < 7 → (cellsN R)[i * 7 + k]? = (nodeCells R[i].1 R[i].2)[k]?
  | [], i, k, hi, hk => absurd hi (Nat.not_lt_zero _)
  | r :: R, 0, k, hi, hk => by
    have e : cellsN (r :: R) = nodeCells r.1 r.2 ++ cellsN R := by simp [cellsN]
    rw [e, Nat.zero_mul, Nat.zero_add, List.getElem?_append_left (by simp [nodeCells]; exact hk)]
    rfl
  | r :: R, i + 1, k, hi, hk => by
    have e : cellsN (r :: R) = nodeCells r.1 r.2 ++ cellsN R := by simp [cellsN]
    rw [e, List.getElem?_append_right (by simp [nodeCells]; omega), show (i + 1) * 7 + k - (nodeCells r.1 r.2).length = i * 7 + k by simp [nodeCells]; omega]
    exact cellsN_at R i k (by simpa using hi) hk

theorem kidH.mono {C S S' : Nat} {g : Option Nat} (h : S ≤ S') (p : Option Addr) (n c : Nat) : kidH C S g p n c → kidH C S' g p n c := fun k b o e => ⟨(k b o e).1, by have := (k b o e).2.1; omega, (k b o e).2.2⟩
/-- Nodes in a row of one's own. -/
def RowN (w : World) (C : Nat) (v : Value) (l : List Nd) (R : List (Nd × Value)) : Prop :=
  R.map (fun r => r.1) = l ∧ w.ownsRow C 26 7 v l.length (cellsN R) ∧ ∀ r ∈ R, Kids w (kidH C w.heap.size v.ownBlock) r.2 r.1.args
theorem RowN.nil (w : World) (C : Nat) : RowN w C (.slice none 0 0) [] [] := ⟨rfl, World.ownsRow_nil w C _ 7, fun r h => by cases h⟩
theorem RowN.below {w w' : World} {C : Nat} {v : Value} {l : List Nd} {R : List (Nd × Value)} (h : RowN w C v l R) (k : Below w.heap.size w w') : RowN w' C v l R := by
  refine ⟨h.1, World.ownsRow.kept h.2.1 (row := none) ⟨k.os, k.tape, k.output, k.size, fun j hj _ => k.block j hj⟩ ?_, fun r hr => ((h.2.2 r hr).below k).weak (kidH.mono k.size)⟩
  cases v.ownBlock <;> simp
theorem RowN.push {w w1 w2 : World} {C : Nat} {v : Value} {l : List Nd} {R : List (Nd × Value)} {t : Nd} {s : Value} {g cap : Nat} (h : RowN w C v l R) (hb : Below w.heap.size w w1) (hs : Kids w (kidH C w.heap.size v.ownBlock) s t.args)
    (hg : w1.grownBy w2 v.ownBlock) (hat : v.ownBlock = some g ∨ g = w1.heap.size) (hown : w2.ownsRow C 26 7 (.slice (some ⟨g, 0, none⟩) (l.length + 1) cap) (l.length + 1) (cellsN R ++ nodeCells t s)) :
    RowN w2 C (.slice (some ⟨g, 0, none⟩) (l.length + 1) cap) (l ++ [t]) (R ++ [(t, s)]) := by
  have key : ∀ (x : Value) (m : List Nd), Kids w (kidH C w.heap.size v.ownBlock) x m → Kids w2 (kidH C w2.heap.size (some g)) x m := fun x m hx => by
    have h1 := hx.below hb
    have h2 : Kids w2 (kidH C w.heap.size v.ownBlock) x m := h1.keep fun p n c b o j u hq hp hj => by
      have hq' := hq b o hp
      rw [World.cell?_of_block (w := w1) (hg.block b (by have := hb.size; omega) hq'.2.2)]
      exact hj
    refine h2.weak fun p n c hq b o hp => ?_
    have hq' := hq b o hp
    refine ⟨hq'.1, by have := hb.size; have := hg.size; omega, fun e => ?_⟩
    rcases hat with hat | hat
    · exact hq'.2.2 (by rw [hat]; exact e)
    · have : b = g := Option.some.inj e
      have := hb.size
      omega
  refine ⟨by rw [List.map_append, h.1]; rfl, by rw [List.length_append, cellsN_snoc]; exact hown, fun r hr => ?_⟩
  rcases List.mem_append.1 hr with hr | hr
  · exact key _ _ (h.2.2 r hr)
  · simp at hr
    subst hr
    exact key _ _ hs
theorem RowN.kids {w : World} {C : Nat} {v : Value} {l : List Nd} {R : List (Nd × Value)} (h : RowN w C v l R) : Kids w (kidH C w.heap.size none) v l := by
  obtain ⟨hR, ⟨hl, ho⟩, hk⟩ := h
  rcases ho with ⟨hv, hn⟩ | ⟨g, cap, cur, hv, hB, hg, hc1, hc2, hsz, htk⟩
  · have : l = [] := List.eq_nil_of_length_eq_zero hn
    subst this
    exact ⟨none, 0, hv, (fun b o e => by cases e), .inl rfl⟩
  · have hRl : R.length = l.length := by rw [← hR]; simp
    refine ⟨some ⟨g, 0, none⟩, cap, hv, fun b o e => ?_, .inr ⟨g, 0, rfl, KA_of fun i hi => ?_⟩⟩
    · cases e
      exact ⟨hB, hlt hg, by simp⟩
    · have hi' : i < R.length := by omega
      have he : l[i] = R[i].1 := by
        have := List.getElem_map (fun r : Nd × Value => r.1) (l := R) (i := i) (h := by simpa using hi')
        rw [← this]
        simp [hR]
      have key : ∀ k, k < 7 → w.cell? ⟨g, 0 + i * 7 + k, none⟩ = (nodeCells R[i].1 R[i].2)[k]? := fun k hk => by
        rw [← cellsN_at R i k hi' hk, ← htk, List.getElem?_take_of_lt (by omega)]
        simp [World.cell?, hg]
      rw [he]
      exact ⟨key 0 (by decide), key 1 (by decide), key 2 (by decide), key 3 (by decide), key 4 (by decide), key 6 (by decide), R[i].2, key 5 (by decide), (hk _ (List.getElem_mem hi')).weak fun p n c hq b o hp => ⟨(hq b o hp).1, (hq b o hp).2.1, by simp⟩⟩
theorem Kids.off {C S : Nat} {w w' : World} {v : Value} {l : List Nd} (h : Kids w (kidH C S none) v l) (hb : ∀ b, C ≤ b → w'.heap[b]? = w.heap[b]?) : Kids w' (kidH C S none) v l :=
  h.keep fun p n c b o j u hq hp hj => by
    rw [World.cell?_of_block (w := w) (a := ⟨b, o + j, none⟩) (hb b (hq b o hp).1)]
    exact hj

end Go.Proofs.Ytpidjmgifglmiab
