import Derived.Test.YtnogokikiekcbaaPart10
/- Rows of schedules that grow by append; where they lie. -/
namespace Go.Proofs.Ytnogokikiekcbaa
open Go.RowKit
set_option linter.unusedVariables false
set_option linter.unusedSimpArgs false

/-- Blocks from C on, below S, and not one. -/
def blk (C S : Nat) (g : Option Nat) (b : Nat) : Prop := C ≤ b ∧ b < S ∧ some b ≠ g
def RowP (P : Nat → Prop) (w : World) (k : IntKind) (v : Value) (l : List Int) : Prop :=
  ∃ p c, v = .slice p l.length c ∧ (l = [] ∨ ∃ b o, p = some ⟨b, o, none⟩ ∧ P b ∧ ∀ i (h : i < l.length), w.cell? ⟨b, o + i, none⟩ = some (.int k l[i]))
theorem RowP.row {P : Nat → Prop} {w : World} {k : IntKind} {v : Value} {l : List Int} (h : RowP P w k v l) : Row w k v l := by
  obtain ⟨p, c, e, h⟩ := h
  exact ⟨p, c, e, h.imp id fun ⟨b, o, e, _, h⟩ => ⟨b, o, e, h⟩⟩
theorem RowP.to {P Q : Nat → Prop} {w w' : World} {k : IntKind} {v : Value} {l : List Int} (h : RowP P w k v l) (hb : ∀ b, P b → w'.heap[b]? = w.heap[b]?) (hq : ∀ b, P b → Q b) : RowP Q w' k v l := by
  obtain ⟨p, c, e, h⟩ := h
  exact ⟨p, c, e, h.imp id fun ⟨b, o, e, hp, h⟩ => ⟨b, o, e, hq b hp, fun i hi => (World.cell?_of_block (hb b hp)).trans (h i hi)⟩⟩
def SLp (P : Nat → Prop) (w : World) (b : Nat) (o : Nat) : List Sc → Prop
  | [] => True
  | ⟨op, ns, is, l⟩ :: r =>
    (w.cell? ⟨b, o, none⟩ = some (.int .i64 op) ∧ (∃ v, w.cell? ⟨b, o + 1, none⟩ = some v ∧ RowP P w .u32 v ns) ∧ (∃ v, w.cell? ⟨b, o + 2, none⟩ = some v ∧ RowP P w .i64 v is)
      ∧ ∃ p c, w.cell? ⟨b, o + 3, none⟩ = some (.slice p l.length c) ∧ (l = [] ∨ ∃ b' o', p = some ⟨b', o', none⟩ ∧ P b' ∧ SLp P w b' o' l))
    ∧ SLp P w b (o + 4) r
def SKp (P : Nat → Prop) (w : World) (v : Value) (l : List Sc) : Prop := ∃ p c, v = .slice p l.length c ∧ (l = [] ∨ ∃ b o, p = some ⟨b, o, none⟩ ∧ P b ∧ SLp P w b o l)
structure SVp (P : Nat → Prop) (w : World) (t : Sc) (a b c : Value) : Prop where
  nums : RowP P w .u32 a t.nums
  ints : RowP P w .i64 b t.ints
  kids : SKp P w c t.kids
theorem SLp_nil (P : Nat → Prop) (w : World) (b o : Nat) : SLp P w b o [] := by simp [SLp]
theorem SLp_cons {P : Nat → Prop} {w : World} {b o : Nat} {t : Sc} {r : List Sc} : SLp P w b o (t :: r) ↔ (w.cell? ⟨b, o, none⟩ = some (.int .i64 t.op) ∧ ∃ x y z, w.cell? ⟨b, o + 1, none⟩ = some x ∧ w.cell? ⟨b, o + 2, none⟩ = some y ∧ w.cell? ⟨b, o + 3, none⟩ = some z ∧ SVp P w t x y z) ∧ SLp P w b (o + 4) r := by
  cases t
  rw [SLp]
  refine and_congr_left fun _ => and_congr_right fun _ => ?_
  constructor
  · rintro ⟨⟨x, h1, r1⟩, ⟨y, h2, r2⟩, p, c, h3, hk⟩
    exact ⟨x, y, _, h1, h2, h3, r1, r2, p, c, rfl, hk⟩
  · rintro ⟨x, y, z, h1, h2, h3, r1, r2, p, c, rfl, hk⟩
    exact ⟨⟨x, h1, r1⟩, ⟨y, h2, r2⟩, p, c, h3, hk⟩
theorem SLp.to {P Q : Nat → Prop} {w w' : World} (hb : ∀ b, P b → w'.heap[b]? = w.heap[b]?) (hq : ∀ b, P b → Q b) : ∀ (l : List Sc) (b o : Nat), w'.heap[b]? = w.heap[b]? → SLp P w b o l → SLp Q w' b o l := by
  apply sforest (P := fun l => ∀ (b o : Nat), w'.heap[b]? = w.heap[b]? → SLp P w b o l → SLp Q w' b o l)
  · intro b o _ _; exact SLp_nil _ _ _ _
  · intro t r h1 h2 b o e h
    rw [SLp_cons] at h ⊢
    obtain ⟨⟨e0, x, y, z, e1, e2, e3, hv⟩, hr⟩ := h
    have ec : ∀ i, w'.cell? ⟨b, i, none⟩ = w.cell? ⟨b, i, none⟩ := fun i => World.cell?_of_block e
    refine ⟨⟨(ec _).trans e0, x, y, z, (ec _).trans e1, (ec _).trans e2, (ec _).trans e3, hv.nums.to hb hq, hv.ints.to hb hq, ?_⟩, h2 b (o + 4) e hr⟩
    obtain ⟨p, c, hp, hk⟩ := hv.kids
    exact ⟨p, c, hp, hk.imp id fun ⟨b', o', hp, hP, hk⟩ => ⟨b', o', hp, hq b' hP, h1 b' o' (hb b' hP) hk⟩⟩
theorem SKp.to {P Q : Nat → Prop} {w w' : World} {v : Value} {l : List Sc} (h : SKp P w v l) (hb : ∀ b, P b → w'.heap[b]? = w.heap[b]?) (hq : ∀ b, P b → Q b) : SKp Q w' v l := by
  obtain ⟨p, c, e, h⟩ := h
  exact ⟨p, c, e, h.imp id fun ⟨b, o, e, hP, h⟩ => ⟨b, o, e, hq b hP, SLp.to hb hq l b o (hb b hP) h⟩⟩
theorem SVp.to {P Q : Nat → Prop} {w w' : World} {t : Sc} {a b c : Value} (h : SVp P w t a b c) (hb : ∀ b, P b → w'.heap[b]? = w.heap[b]?) (hq : ∀ b, P b → Q b) : SVp Q w' t a b c := ⟨h.nums.to hb hq, h.ints.to hb hq, h.kids.to hb hq⟩
theorem SLp.sl {P : Nat → Prop} {w : World} : ∀ (l : List Sc) (b o : Nat), SLp P w b o l → SL w b o l := by
  apply sforest (P := fun l => ∀ (b o : Nat), SLp P w b o l → SL w b o l)
  · intro b o _; exact SL_nil _ _ _
  · intro t r h1 h2 b o h
    rw [SLp_cons] at h
    rw [SL_cons]
    obtain ⟨⟨e0, x, y, z, e1, e2, e3, hv⟩, hr⟩ := h
    refine ⟨⟨e0, ⟨x, e1, hv.nums.row⟩, ⟨y, e2, hv.ints.row⟩, z, e3, ?_⟩, h2 b (o + 4) hr⟩
    obtain ⟨p, c, hp, hk⟩ := hv.kids
    exact ⟨p, c, hp, hk.imp id fun ⟨b', o', hp, _, hk⟩ => ⟨b', o', hp, h1 b' o' hk⟩⟩
theorem SKp.sk {P : Nat → Prop} {w : World} {v : Value} {l : List Sc} (h : SKp P w v l) : SK w v l := by
  obtain ⟨p, c, e, h⟩ := h
  exact ⟨p, c, e, h.imp id fun ⟨b, o, e, _, h⟩ => ⟨b, o, e, SLp.sl l b o h⟩⟩
abbrev Ent4 := Sc × Value × Value × Value
def schCells (r : Ent4) : List Value := [.int .i64 r.1.op, r.2.1, r.2.2.1, r.2.2.2]
def cellsS (R : List Ent4) : List Value := R.flatMap schCells
theorem cellsS_snoc (R : List Ent4) (r : Ent4) : cellsS (R ++ [r]) = cellsS R ++ schCells r := by simp [cellsS]
theorem cellsS_at : ∀ (R : List Ent4) (i k : Nat) (hi : i < R.length), k < 4 → (cellsS R)[i * 4 + k]? = (schCells R[i])[k]?
  | [], i, k, hi, hk => absurd hi (Nat.not_lt_zero _)
  | r :: R, 0, k, hi, hk => by
    have e : cellsS (r :: R) = schCells r ++ cellsS R := by simp [cellsS]
    rw [e, Nat.zero_mul, Nat.zero_add, List.getElem?_append_left (by simp [schCells]; exact hk)]
    rfl
  | r :: R, i + 1, k, hi, hk => by
    have e : cellsS (r :: R) = schCells r ++ cellsS R := by simp [cellsS]
    rw [e, List.getElem?_append_right (by simp [schCells]; omega), show (i + 1) * 4 + k - (schCells r).length = i * 4 + k by simp [schCells]; omega]
    exact cellsS_at R i k (by simpa using hi) hk
/-- Schedules in a row of one's own. -/
def RowK (w : World) (C : Nat) (v : Value) (l : List Sc) (R : List Ent4) : Prop :=
  R.map (fun r => r.1) = l ∧ w.ownsRow C 26 4 v l.length (cellsS R) ∧ ∀ r ∈ R, SVp (blk C w.heap.size v.ownBlock) w r.1 r.2.1 r.2.2.1 r.2.2.2
theorem RowK.nil (w : World) (C : Nat) : RowK w C (.slice none 0 0) [] [] := ⟨rfl, World.ownsRow_nil w C _ 4, fun r h => by cases h⟩
theorem RowK.below {w w' : World} {C : Nat} {v : Value} {l : List Sc} {R : List Ent4} (h : RowK w C v l R) (k : Below w.heap.size w w') : RowK w' C v l R := by
  refine ⟨h.1, World.ownsRow.kept h.2.1 (row := none) ⟨k.os, k.tape, k.output, k.size, fun j hj _ => k.block j hj⟩ ?_, fun r hr => (h.2.2 r hr).to (fun b hb => k.block b hb.2.1) (fun b hb => ⟨hb.1, Nat.lt_of_lt_of_le hb.2.1 k.size, hb.2.2⟩)⟩
  cases v.ownBlock <;> simp
theorem RowK.push {w w1 w2 : World} {C : Nat} {v : Value} {l : List Sc} {R : List Ent4} {r : Ent4} {g cap : Nat} (h : RowK w C v l R) (hb : Below w.heap.size w w1) (hs : SVp (blk C w.heap.size v.ownBlock) w r.1 r.2.1 r.2.2.1 r.2.2.2)
    (hg : w1.grownBy w2 v.ownBlock) (hat : v.ownBlock = some g ∨ g = w1.heap.size) (hown : w2.ownsRow C 26 4 (.slice (some ⟨g, 0, none⟩) (l.length + 1) cap) (l.length + 1) (cellsS R ++ schCells r)) :
    RowK w2 C (.slice (some ⟨g, 0, none⟩) (l.length + 1) cap) (l ++ [r.1]) (R ++ [r]) := by
  have key : ∀ (x : Ent4), SVp (blk C w.heap.size v.ownBlock) w x.1 x.2.1 x.2.2.1 x.2.2.2 → SVp (blk C w2.heap.size (some g)) w2 x.1 x.2.1 x.2.2.1 x.2.2.2 := fun x hx => by
    refine hx.to (fun b hq => ?_) (fun b hq => ⟨hq.1, by have := hb.size; have := hg.size; have := hq.2.1; omega, fun e => ?_⟩)
    · rw [hg.block b (by have := hb.size; have := hq.2.1; omega) hq.2.2, hb.block b hq.2.1]
    · rcases hat with hat | hat
      · exact hq.2.2 (by rw [hat]; exact e)
      · have : b = g := Option.some.inj e
        have := hb.size
        have := hq.2.1
        omega
  refine ⟨by rw [List.map_append, h.1]; rfl, by rw [List.length_append, cellsS_snoc]; exact hown, fun x hx => ?_⟩
  rcases List.mem_append.1 hx with hx | hx
  · exact key _ (h.2.2 x hx)
  · simp at hx
    subst hx
    exact key _ hs
theorem RowK.kids {w : World} {C : Nat} {v : Value} {l : List Sc} {R : List Ent4} (h : RowK w C v l R) : SKp (blk C w.heap.size none) w v l := by
  obtain ⟨hR, ⟨hl, ho⟩, hk⟩ := h
  rcases ho with ⟨hv, hn⟩ | ⟨g, cap, cur, hv, hB, hg, hc1, hc2, hsz, htk⟩
  · have : l = [] := List.eq_nil_of_length_eq_zero hn
    subst this
    exact ⟨none, 0, hv, .inl rfl⟩
  · have hRl : R.length = l.length := by rw [← hR]; simp
    refine ⟨some ⟨g, 0, none⟩, cap, hv, .inr ⟨g, 0, rfl, ⟨hB, hlt hg, by simp⟩, ?_⟩⟩
    have key : ∀ i (hi : i < R.length) k, k < 4 → w.cell? ⟨g, i * 4 + k, none⟩ = (schCells R[i])[k]? := fun i hi k hk => by
      rw [← cellsS_at R i k hi hk, ← htk, List.getElem?_take_of_lt (by omega)]
      simp [World.cell?, hg]
    have gen : ∀ (m : List Sc) (o : Nat), (∀ i (hi : i < m.length), ∃ (h2 : o + i < R.length), m[i] = R[o + i].1) → SLp (blk C w.heap.size none) w g (o * 4) m := by
      intro m
      induction m with
      | nil => intro o _; exact SLp_nil _ _ _ _
      | cons t r ih =>
        intro o hm
        obtain ⟨h2, e⟩ := hm 0 (by simp)
        simp only [Nat.add_zero, List.getElem_cons_zero] at e h2
        rw [SLp_cons]
        have k1 := key o h2
        refine ⟨⟨?_, _, _, _, k1 1 (by decide), k1 2 (by decide), k1 3 (by decide), ?_⟩, ?_⟩
        · rw [e]; exact k1 0 (by decide)
        · rw [e]
          exact (hk _ (List.getElem_mem h2)).to (fun _ _ => rfl) (fun b hq => ⟨hq.1, hq.2.1, by simp⟩)
        · rw [show o * 4 + 4 = (o + 1) * 4 by omega]
          refine ih (o + 1) fun i hi => ?_
          obtain ⟨h3, e3⟩ := hm (i + 1) (by simpa using hi)
          refine ⟨by omega, ?_⟩
          simp only [List.getElem_cons_succ] at e3
          rw [e3]
          congr 2
          omega
    have := gen l 0 fun i hi => ⟨by omega, by simp [← hR]⟩
    simpa using this
theorem ktake_succ {l : List Sc} {j : Nat} (h : j < l.length) : l.take (j + 1) = l.take j ++ [l[j]] := List.take_succ_eq_append_getElem h

/-- A row that a call made at one block. -/
def OwnB (w : World) (g : Nat) (e : TypeId) (k : IntKind) (v : Value) (l : List Int) : Prop :=
  (l = [] ∧ v = .slice none 0 0) ∨ (l ≠ [] ∧ ∃ cap cur, v = .slice (some ⟨g, 0, none⟩) l.length cap ∧ w.heap[g]? = some (.cells cur e (0, 0)) ∧ l.length ≤ cur.size ∧ ∀ i (h : i < l.length), cur[i]? = some (.int k l[i]))
theorem OwnB.to {w w' : World} {g : Nat} {e : TypeId} {k : IntKind} {v : Value} {l : List Int} (h : OwnB w g e k v l) (hb : w'.heap[g]? = w.heap[g]?) : OwnB w' g e k v l := by
  rcases h with h | ⟨hl, cap, cur, hv, hg, hr⟩
  · exact .inl h
  · exact .inr ⟨hl, cap, cur, hv, hb.trans hg, hr⟩
theorem OwnB.rowP {w : World} {g : Nat} {e : TypeId} {k : IntKind} {v : Value} {l : List Int} {P : Nat → Prop} (h : OwnB w g e k v l) (hP : l ≠ [] → P g) : RowP P w k v l := by
  rcases h with ⟨rfl, rfl⟩ | ⟨hl, cap, cur, rfl, hg, hs, hc⟩
  · exact ⟨none, 0, rfl, .inl rfl⟩
  · refine ⟨_, _, rfl, .inr ⟨g, 0, rfl, hP hl, fun i hi => ?_⟩⟩
    rw [Nat.zero_add]
    simp [World.cell?, hg, hc i hi]
theorem OwnB.lt {w : World} {g : Nat} {e : TypeId} {k : IntKind} {v : Value} {l : List Int} (h : OwnB w g e k v l) (hl : l ≠ []) : g < w.heap.size := by
  rcases h with ⟨h, -⟩ | ⟨_, _, _, _, hg, _⟩
  · exact absurd h hl
  · exact hlt hg

theorem info_Sched : (Try.prog.info? 26).map (fun i => (i.zero, i.size, i.bytes)) = some (some (.agg #[.int .i64 0, .slice none 0 0, .slice none 0 0, .slice none 0 0]), 4, 80) := by kernel_rfl
theorem info_I8 : (Try.prog.info? 3).map (fun i => (i.zero, i.size, i.bytes)) = some (some (.int .i64 0), 1, 8) := by kernel_rfl
theorem below_grown {w w' : World} {row : Option Nat} (h : w.grownBy w' row) (hr : row = none) : Below w.heap.size w w' := by
  subst hr
  exact ⟨h.os, h.tape, h.output, h.size, fun k hk => h.block k hk (by simp)⟩
/-- append of a row to nothing. -/
theorem app_row {t e : TypeId} {k : IntKind} {i : TypeInfo} {z : Value} {bytes : Nat} (ht : Try.prog.underlying t = some (.slice e)) (hi : Try.prog.info? e = some i) (hz : i.zero = some z) (hsize : i.size = 1) (hby : i.bytes = bytes) (hzs : z.cells.size = 1)
    {l : List Int} {v : Value} {w : World} (h : Row w k v l) (hl : l.length ≤ maxLen) (hb : l.length * bytes ≤ 140737488355328) (ty : TypeId) :
    ∃ v' w', (Builtin.append_ #[t, t] ty #[.slice none 0 0, v]).run Try.prog w = .ok v' w' ∧ Below w.heap.size w w' ∧ OwnB w' w.heap.size e k v' l := by
  obtain ⟨p, c, rfl, h⟩ := h
  by_cases h0 : l = []
  · subst h0
    refine ⟨.slice none 0 0, w, ?_, Below.refl _ _, .inl ⟨rfl, rfl⟩⟩
    cases p with
    | none => simp [Builtin.append_, run_underlying ht, sizeOf, typeInfo, hi, Builtin.lenOf, Builtin.firstCells, storeCells]
    | some a => simp [Builtin.append_, run_underlying ht, sizeOf, typeInfo, hi, Builtin.lenOf, Builtin.firstCells, storeCells, loadCells, loadCellsFrom]
  · obtain ⟨b, o, rfl, h2⟩ : ∃ b o, p = some ⟨b, o, none⟩ ∧ ∀ i (h : i < l.length), w.cell? ⟨b, o + i, none⟩ = some (.int k l[i]) := h.resolve_left h0
    have hpos : 0 < l.length := List.length_pos_iff.2 h0
    obtain ⟨g, cap, w', hr, hown, hg, hat, hlt⟩ := run_append_lies (P := Try.prog) w t ty w.heap.size e i z 1 bytes ht hi hz hsize hby hzs (by decide) (.slice none 0 0) 0 [] (World.ownsRow_nil w _ _ 1) ⟨b, o, none⟩ l.length c (l.map (.int k)) (by simp) (fun j u hu => by
      have hj : j < l.length := by have := (List.getElem?_eq_some_iff.1 hu).1; simpa using this
      rw [List.getElem?_map, List.getElem?_eq_getElem hj] at hu
      simp only [Option.map_some, Option.some.injEq] at hu
      rw [show (⟨b, o, none⟩ : Addr).add j = ⟨b, o + j, none⟩ by unfold Addr.add; split <;> simp_all, ← hu]; exact h2 j hj) (by intro u hu; obtain ⟨x, _, rfl⟩ := List.mem_map.1 hu; rfl) hpos (by omega) (by rw [Nat.zero_add]; exact hb) (Nat.le_refl _) w.heap.size rfl
    have hg0 : g = w.heap.size := by
      rcases hat with hat | hat
      · cases hat
      · exact hat
    subst hg0
    refine ⟨_, w', hr, below_grown hg rfl, .inr ⟨h0, ?_⟩⟩
    rcases hown.2 with ⟨h1, -⟩ | ⟨g', cap', cur, hv, -, hgc, hc1, -, hsz, htk⟩
    · cases h1
    · simp only [Value.slice.injEq, Option.some.injEq, Addr.mk.injEq] at hv
      obtain ⟨⟨rfl, -⟩, -, rfl⟩ := hv
      refine ⟨cap, cur, by simp, hgc, by omega, fun i hi => ?_⟩
      have : (cur.toList.take ((0 + l.length) * 1))[i]? = (l.map (Value.int k))[i]? := by rw [htk]; rfl
      rw [List.getElem?_take_of_lt (by omega), List.getElem?_map, List.getElem?_eq_getElem hi] at this
      simpa using this
/-- An append in a plain region, by an equation. -/
theorem wpList_app {P : Program} {w w' : World} {ops : Array Oper} {rest : List Oper} {o : Oper} {a : Act} {Q : Exit → Act → World → Prop} (hgd : o.guard = none) (s x : Operand) (t : TypeId)
    (ho : o.op = .call { callee := .builtin .append, args := #[s, x], argTypes := #[t, t] }) (v v2 v' : Value) (hs : a.eval s = v) (hx : a.eval x = v2) (hr : (Builtin.append_ #[t, t] o.type #[v, v2]).run P w = .ok v' w')
    (h : wpList P ops Q rest (a.put o.dst v') w') : wpList P ops Q (o :: rest) a w :=
  wpList_plain hgd fun _ hK => by
    unfold Oper.wp execOp
    simp only [ho, resolve, invoke, builtin, Sem.run_bind, Sem.run_pure, Result.andThen_ok, List.map_toArray, List.map_cons, List.map_nil, hs, hx, hr]
    exact hK _ _ h
/-- Another world, but for one block and what comes from C on. -/
def OffT (C T : Nat) (w w' : World) : Prop := ∀ b, b < C → b ≠ T → w'.heap[b]? = w.heap[b]?
theorem OffT.cell {C T : Nat} {w w' : World} (h : OffT C T w w') {a : Addr} {v : Value} (hb : a.block < C) (hne : a.block ≠ T) (hc : w.cell? a = some v) : w'.cell? a = some v := (World.cell?_of_block (h _ hb hne)).trans hc
theorem OffT.of {C T : Nat} {w w' : World} (k : Below w.heap.size w w') (h : C ≤ w.heap.size) : OffT C T w w' := fun b hb _ => k.block b (by omega)
theorem OffT.drew (C T : Nat) (w : World) : OffT C T w w.drew := fun _ _ _ => rfl
theorem OffT.trans {C T : Nat} {a b c : World} (h : OffT C T a b) (k : OffT C T b c) : OffT C T a c := fun x hx hn => (k x hx hn).trans (h x hx hn)
theorem OffT.set {C T : Nat} {w w' : World} (h : OffT C T w w') (i : Nat) (v : Value) : OffT C T w (w'.setCell ⟨T, i, none⟩ v) := fun b hb hn => by
  rw [Below.heap_setCell _ _ _ _ (by exact hn)]; exact h b hb hn

end Go.Proofs.Ytnogokikiekcbaa
