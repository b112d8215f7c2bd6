import Derived.Test.YtnhpnmilgcjeaaaDoorMaskLawsP
/- The statement's own call: a mask of masks. -/
namespace Go.Proofs.YtnhpnmilgcjeaaaDoor
open Go.RowKit
set_option linter.unusedVariables false
set_option linter.unusedSimpArgs false

def nodeCells (t : Nd) (s : Value) : List Value := [.int .i64 t.kind, .string t.name, .int .u32 t.num, .int .i64 t.int_, .string t.key, s, .int .i64 t.at_]
def cellsN (R : List (Nd × Value)) : List Value := R.flatMap fun r => nodeCells r.1 r.2
theorem cellsN_snoc (R : List (Nd × Value)) (t : Nd) (s : Value) : cellsN (R ++ [(t, s)]) = cellsN R ++ nodeCells t s := by simp [cellsN]
theorem cellsN_len (R : List (Nd × Value)) : (cellsN R).length = R.length * 7 := by
  induction R with
  | nil => rfl
  | cons r R ih =>
    have e : cellsN (r :: R) = nodeCells r.1 r.2 ++ cellsN R := by simp [cellsN]
    rw [e, List.length_append, ih]
    simp [nodeCells]; omega
theorem cellsN_at : ∀ (R : List (Nd × Value)) (i k : Nat) (hi : i < R.length), k < 7 → (cellsN R)[i * 7 + k]? = (nodeCells R[i].1 R[i].2)[k]?
  | [], i, k, hi, hk => absurd hi (Nat.not_lt_zero _)
  | r :: R, 0, k, hi, hk => by
    have e : cellsN (r :: R) = nodeCells r.1 r.2 ++ cellsN R := by simp [cellsN]
    rw [e, Nat.zero_mul, Nat.zero_add, List.getElem?_append_left (by simp [nodeCells]; exact hk)]
    rfl
  | r :: R, i + 1, k, hi, hk => by
    have e : cellsN (r :: R) = nodeCells r.1 r.2 ++ cellsN R := by simp [cellsN]
    rw [e, List.getElem?_append_right (by simp [nodeCells]; omega), show (i + 1) * 7 + k - (nodeCells r.1 r.2).length = i * 7 + k by simp [nodeCells]; omega]
    exact cellsN_at R i k (by simpa using hi) hk

theorem news2 (w : World) (o : Obj) (cs : Array Value) (t : TypeId) : ∀ j u, cs.toList[j]? = some u → ((w.alloc o).alloc (.cells cs t)).cell? ((⟨w.heap.size + 1, 0, none⟩ : Addr).add j) = some u := by
  have h := World.news_of_block (box_heap (w.alloc o) (.cells cs t))
  have e : (w.alloc o).heap.size = w.heap.size + 1 := by simp
  rw [e] at h
  exact h
theorem info_Node : (Tryd.prog.info? 29).map (fun i => (i.zero, i.size, i.bytes)) = some (some (.agg #[.int .i64 0, .string ⟨#[]⟩, .int .u32 0, .int .i64 0, .string ⟨#[]⟩, .slice none 0 0, .int .i64 0]), 7, 88) := by kernel_rfl
theorem owns_set {w : World} {B n s : Nat} {t : TypeId} {v : Value} {xs : List Value} (h : w.ownsRow B t s v n xs) {C : Nat} (hC : C < B) (i : Nat) (x : Value) : (w.setCell ⟨C, i, none⟩ x).ownsRow B t s v n xs := by
  refine ⟨h.1, ?_⟩
  rcases h.2 with hv | ⟨g, cap, cur, hv, hB, hg, hr⟩
  · exact .inl hv
  · exact .inr ⟨g, cap, cur, hv, hB, by rw [Below.heap_setCell _ _ _ _ (by show g ≠ C; omega)]; exact hg, hr⟩
/-- A row of nodes of one's own reads as these trees. -/
theorem row_kids {w : World} {B : Nat} {v : Value} {l : List Nd} {R : List (Nd × Value)} (hR : R.map (fun r => r.1) = l) (h : w.ownsRow B 29 7 v l.length (cellsN R)) (hk : ∀ r ∈ R, Kids w anyH r.2 r.1.args) : Kids w anyH v l := by
  obtain ⟨hl, ho⟩ := h
  rcases ho with ⟨hv, hn⟩ | ⟨g, cap, cur, hv, hB, hg, hc1, hc2, hsz, htk⟩
  · have : l = [] := List.eq_nil_of_length_eq_zero hn
    subst this
    exact ⟨none, 0, hv, trivial, .inl rfl⟩
  · have hRl : R.length = l.length := by rw [← hR]; simp
    refine ⟨some ⟨g, 0, none⟩, cap, hv, trivial, .inr ⟨g, 0, rfl, KA_of fun i hi => ?_⟩⟩
    have hi' : i < R.length := by omega
    have he : l[i] = R[i].1 := by
      have := List.getElem_map (fun r : Nd × Value => r.1) (l := R) (i := i) (h := by simpa using hi')
      rw [← this]
      simp [hR]
    have key : ∀ k, k < 7 → w.cell? ⟨g, 0 + i * 7 + k, none⟩ = (nodeCells R[i].1 R[i].2)[k]? := fun k hk => by
      rw [← cellsN_at R i k hi' hk, ← htk, List.getElem?_take_of_lt (by omega)]
      simp [World.cell?, hg]
    rw [he]
    exact ⟨key 0 (by decide), key 1 (by decide), key 2 (by decide), key 3 (by decide), key 4 (by decide), key 6 (by decide), R[i].2, key 5 (by decide), hk _ (List.getElem_mem hi')⟩

set_option maxRecDepth 100000 in
set_option maxHeartbeats 4000000 in
theorem call_any (nm : ByteArray) (l : List Nd) (p : Option Addr) (c : Nat) (w : World) (hl : l.length ≤ 2) (hk : Kids w anyH (.slice p l.length c) l) :
    Calls Tryd.prog 16 #[.string nm, .slice p l.length c] w fun e w' => ∃ q d, e = .returned (.agg #[.int .i64 1, .string nm, .int .u32 0, .int .i64 0, .string ⟨#[]⟩, .slice q l.length d, .int .i64 0]) ∧ Kids w' anyH (.slice q l.length d) (l.map clr) ∧ Below w.heap.size w w' := by
  obtain ⟨i0, hi0, hz0, hz1, hz2⟩ := info_parts info_Node
  obtain ⟨n, hn⟩ : ∃ n, l.length = n := ⟨_, rfl⟩
  have HN : Hid (l.length = n) := hn
  have HK : Hid (Kids w anyH (.slice p l.length c) l) := hk
  have HBX : Hid ((w.alloc (.cells #[.int .i64 0, .string ⟨#[]⟩, .int .u32 0, .int .i64 0, .string ⟨#[]⟩, .slice none 0 0, .int .i64 0] 29)).heap[w.heap.size]? = some (.cells #[.int .i64 0, .string ⟨#[]⟩, .int .u32 0, .int .i64 0, .string ⟨#[]⟩, .slice none 0 0, .int .i64 0] 29)) := box_heap w _
  have HB0 : Hid (Below w.heap.size w (w.alloc (.cells #[.int .i64 0, .string ⟨#[]⟩, .int .u32 0, .int .i64 0, .string ⟨#[]⟩, .slice none 0 0, .int .i64 0] 29))) := bel_alloc _ _
  rw [hn] at hl ⊢
  clear hn hk
  go_enter Tryd.func16, Tryd.ntmps16
  go_wp2
  go_loopw [5, 6] (fun lv iv wr => Below w.heap.size w wr ∧ Hid (wr.heap[w.heap.size]? = some (.cells #[.int .i64 0, .string ⟨#[]⟩, .int .u32 0, .int .i64 0, .string ⟨#[]⟩, .slice none 0 0, .int .i64 0] 29)) ∧ ∃ (j : Nat) (ov : Value), ov = lv ∧ j ≤ n ∧ iv = .int .i64 j ∧ Hid (∃ R, R.map (fun r => r.1) = (l.take j).map clr ∧ (∀ r ∈ R, Kids w anyH r.2 r.1.args) ∧ wr.ownsRow (w.heap.size + 1) 29 7 ov j (cellsN R))) (fun _ iv _ => n - (intOf iv).toNat)
  case atStart => exact ⟨HB0.out, HBX.out, 0, _, rfl, Nat.zero_le _, rfl, [], rfl, (fun r h => absurd h (by simp)), World.ownsRow_nil _ _ _ 7⟩
  case round =>
    obtain ⟨hb, HBR, j, ov, rfl, hj, rfl, R, hR, hRk, hown⟩ := hrel
    clear HBX HB0
    have szr : w.heap.size + 1 ≤ wr.heap.size := hlt HBR.out
    by_cases hlt0 : j < n
    · have hll : j < l.length := by rw [HN.out]; exact hlt0
      obtain ⟨b1, o1, q1, d1, rfl, hx, kx⟩ := kid_at HK.out (bel0 w) hll
      obtain ⟨x0, x1, x2, x3, x4, x5, x6⟩ := hx
      have y0 := mkeep hb x0
      have y1 := mkeep hb x1
      have y2 := mkeep hb x2
      have y3 := mkeep hb x3
      have y4 := mkeep hb x4
      have y5 := mkeep hb x5
      have y6 := mkeep hb x6
      have i1 : (0 : Int) ≤ (j : Int) := by omega
      have i2 : (j : Int) < (n : Int) := by omega
      have HO : Hid (wr.ownsRow (w.heap.size + 1) 29 7 ov j (cellsN R)) := hown
      have HR1 : Hid ((R ++ [(clr l[j], Value.slice q1 l[j].args.length d1)]).map (fun r => r.1) = (l.take (j + 1)).map clr) := by
        show _ = _
        rw [gtake_succ hll, List.map_append, List.map_append, hR]
        rfl
      have HR2 : Hid (∀ r ∈ R ++ [(clr l[j], Value.slice q1 l[j].args.length d1)], Kids w anyH r.2 r.1.args) := fun r hr => by
        rcases List.mem_append.1 hr with hr | hr
        · exact hRk r hr
        · simp at hr; subst hr; exact kx
      clear hown hR hRk kx x0 x1 x2 x3 x4 x5 x6
      go_wp2_with (first
        | (at_builtin; refine wpList_append_own_at _ rfl _ _ 27 rfl (w.heap.size + 1) 29 i0 _ 7 88 Tryd.underlying27 hi0 hz0 hz1 hz2 rfl (by decide) ov j (cellsN R) rfl (World.ownsRow.alloc (World.ownsRow.alloc HO.out _) _) ⟨wr.heap.size + 1, 0, none⟩ 1 1 [.int .i64 l[j].kind, .string l[j].name, .int .u32 l[j].num, .int .i64 l[j].int_, .string ⟨#[]⟩, .slice q1 l[j].args.length d1, .int .i64 l[j].at_] rfl rfl (news2 wr _ #[.int .i64 l[j].kind, .string l[j].name, .int .u32 l[j].num, .int .i64 l[j].int_, .string ⟨#[]⟩, .slice q1 l[j].args.length d1, .int .i64 l[j].at_] 29) (by simp [Value.oneCell']) (by unfold maxLen; omega) (by omega) (by simp; omega) ?_; intro v' w3 hown3 hgrow hnil hat; have HO3 : Hid (w3.ownsRow (w.heap.size + 1) 29 7 v' (j + 1) (cellsN R ++ [.int .i64 l[j].kind, .string l[j].name, .int .u32 l[j].num, .int .i64 l[j].int_, .string ⟨#[]⟩, .slice q1 l[j].args.length d1, .int .i64 l[j].at_]) ∧ Below w.heap.size w w3 ∧ w3.heap[w.heap.size]? = some (.cells #[.int .i64 0, .string ⟨#[]⟩, .int .u32 0, .int .i64 0, .string ⟨#[]⟩, .slice none 0 0, .int .i64 0] 29)) := ⟨hown3, Below.grown ((hb.alloc (by omega) _).alloc (by simp; omega) _) hgrow (by simp; omega) (fun k e => by have := (HO.out.lt k e).1; omega), by rw [hgrow.block _ (by simp; omega) (fun e => by have := (HO.out.lt _ e.symm).1; omega), (bel_alloc _ _).block _ (by simp; omega), (bel_alloc wr _).block _ (by omega)]; exact HBR.out⟩; clear hown3 hgrow hnil hat))
      go_roundw
      case rel => exact ⟨HO3.out.2.1, HO3.out.2.2, j + 1, _, rfl, by omega, by go_num, _, HR1.out, HR2.out, by rw [cellsN_snoc]; exact HO3.out.1⟩
      case measure => simp [intOf]; omega
    · have : j = n := by omega
      subst this
      have e : (l.take j).map clr = l.map clr := by rw [List.take_of_length_le (by rw [HN.out]; exact Nat.le_refl _)]
      rw [e] at hR
      obtain ⟨⟨g0, g1, g2, g3, g4, g5, g6⟩, f0, f1, f2, f3, f4, f5, f6⟩ := seven HBR.out
      have hov : ∃ q d, ov = .slice q j d := by
        rcases hown.2 with ⟨hv, h0⟩ | ⟨g, cap, cur, hv, _⟩
        · exact ⟨none, 0, by rw [hv, h0]⟩
        · exact ⟨_, _, hv⟩
      obtain ⟨q, d, rfl⟩ := hov
      have HO : Hid (wr.ownsRow (w.heap.size + 1) 29 7 (.slice q j d) j (cellsN R) ∧ R.map (fun r => r.1) = l.map clr ∧ ∀ r ∈ R, Kids w anyH r.2 r.1.args) := ⟨hown, hR, hRk⟩
      clear hown hR hRk e
      go_wp2
      refine bodyPost_ret (by simp [results, Tryd.results16, go_sem, *]; try rfl) rfl ?_
      have HBF := ((((((hb.setCell (p := ⟨w.heap.size, 0, none⟩) (Nat.le_refl _) (.int .i64 1)).setCell (p := ⟨w.heap.size, 1, none⟩) (Nat.le_refl _) (.string nm)).setCell (p := ⟨w.heap.size, 2, none⟩) (Nat.le_refl _) (.int .u32 0)).setCell (p := ⟨w.heap.size, 3, none⟩) (Nat.le_refl _) (.int .i64 0)).setCell (p := ⟨w.heap.size, 4, none⟩) (Nat.le_refl _) (.string ⟨#[]⟩)).setCell (p := ⟨w.heap.size, 5, none⟩) (Nat.le_refl _) (.slice q j d)).setCell (p := ⟨w.heap.size, 6, none⟩) (Nat.le_refl _) (.int .i64 0)
      refine ⟨q, d, rfl, ?_, HBF⟩
      have hlen : (l.map clr).length = j := by rw [List.length_map]; exact HN.out
      refine row_kids (R := R) (B := w.heap.size + 1) HO.out.2.1 ?_ (fun r hr => (HO.out.2.2 r hr).below HBF)
      rw [hlen]
      exact owns_set (owns_set (owns_set (owns_set (owns_set (owns_set (owns_set HO.out.1 (Nat.lt_succ_self _) _ _) (Nat.lt_succ_self _) _ _) (Nat.lt_succ_self _) _ _) (Nat.lt_succ_self _) _ _) (Nat.lt_succ_self _) _ _) (Nat.lt_succ_self _) _ _) (Nat.lt_succ_self _) _ _

end Go.Proofs.YtnhpnmilgcjeaaaDoor
