import Derived.Test.YtpidjmgifglmiabTreeCopy
/- Package tree: Strip. -/
namespace Go.Proofs.Ytpidjmgifglmiab
open Go.RowKit
set_option linter.unusedVariables false
set_option linter.unusedSimpArgs false

/-- Only places of nodes have turned, to 0. -/
def RS (C : Nat) (w w' : World) : Prop :=
  (C ≤ w.heap.size → Below C w w') ∧ w.heap.size ≤ w'.heap.size ∧ (∀ (G : Nat) (x y : Value), w.heap[G]? = some (.cells #[x, y] 47) → w'.heap[G]? = some (.cells #[x, y] 47))
  ∧ ∀ (b : Nat) (cs : Array Value), w.heap[b]? = some (.cells cs 26) → ∃ ds : Array Value, w'.heap[b]? = some (.cells ds 26) ∧ ds.size = cs.size ∧ (∀ i : Nat, i % 7 ≠ 6 → ds[i]? = cs[i]?) ∧ ∀ i : Nat, ds[i]? = cs[i]? ∨ (ds[i]? = some (Value.int .i64 0) ∧ ∃ a, cs[i]? = some (Value.int .i64 a))
theorem RS.below {C : Nat} {w w' : World} (h : Below w.heap.size w w') : RS C w w' :=
  ⟨fun hC => h.mono hC, h.size, fun G x y hG => by rw [h.block G (hlt hG)]; exact hG, fun b cs hb => ⟨cs, by rw [h.block b (hlt hb)]; exact hb, rfl, fun _ _ => rfl, fun _ => .inl rfl⟩⟩
theorem RS.trans {C : Nat} {a b c : World} (h : RS C a b) (k : RS C b c) : RS C a c := by
  refine ⟨fun hC => (h.1 hC).trans (k.1 (Nat.le_trans hC h.2.1)), Nat.le_trans h.2.1 k.2.1, fun G x y hG => k.2.2.1 G x y (h.2.2.1 G x y hG), fun q cs hq => ?_⟩
  obtain ⟨ds, h1, h2, h3, h4⟩ := h.2.2.2 q cs hq
  obtain ⟨es, k1, k2, k3, k4⟩ := k.2.2.2 q ds h1
  refine ⟨es, k1, k2.trans h2, fun i hi => (k3 i hi).trans (h3 i hi), fun i => ?_⟩
  rcases k4 i with e | ⟨e, x, hx⟩
  · rw [e]; exact h4 i
  · rcases h4 i with f | ⟨f, y, hy⟩
    · exact .inr ⟨e, x, by rw [← f]; exact hx⟩
    · exact .inr ⟨e, y, hy⟩
theorem RS.set {C : Nat} {w : World} {b o : Nat} {cs : Array Value} {a : Int} (h : w.heap[b]? = some (.cells cs 26)) (hC : C ≤ b) (ho : o % 7 = 6) (ha : cs[o]? = some (.int .i64 a)) : RS C w (w.setCell ⟨b, o, none⟩ (.int .i64 0)) := by
  refine ⟨fun _ => (Below.refl _ _).setCell hC _, by simp [World.setCell], fun G x y hG => ?_, fun q ds hq => ?_⟩
  · have hne : G ≠ b := by rintro rfl; rw [h] at hG; simp at hG
    rw [Below.heap_setCell _ _ _ _ (by exact hne)]
    exact hG
  · by_cases e : q = b
    · subst e
      rw [h] at hq
      cases hq
      refine ⟨_, heap_setAt h o _, by simp, fun i hi => ?_, fun i => ?_⟩
      · rw [Array.getElem?_setIfInBounds, if_neg (by rintro rfl; exact hi ho)]
      · by_cases e : o = i
        · subst e
          right
          have : o < cs.size := by
            rcases Nat.lt_or_ge o cs.size with c | c
            · exact c
            · rw [Array.getElem?_eq_none c] at ha; cases ha
          exact ⟨by rw [Array.getElem?_setIfInBounds, if_pos rfl, if_pos this], a, ha⟩
        · left
          rw [Array.getElem?_setIfInBounds, if_neg e]
    · exact ⟨ds, by rw [Below.heap_setCell _ _ _ _ (by exact e)]; exact hq, rfl, fun _ _ => rfl, fun _ => .inl rfl⟩

/-- A cell that is no place stays. -/
theorem RS.keep {C : Nat} {w w' : World} (h : RS C w w') {b : Nat} {cs : Array Value} (hb : w.heap[b]? = some (.cells cs 26)) {i : Nat} (hi : i % 7 ≠ 6) {v : Value} (hv : w.cell? ⟨b, i, none⟩ = some v) : w'.cell? ⟨b, i, none⟩ = some v := by
  obtain ⟨ds, h1, -, h3, -⟩ := h.2.2.2 b cs hb
  rw [cell_heap h1, h3 i hi, ← cell_heap hb]
  exact hv
theorem RS.at {C : Nat} {w w' : World} (h : RS C w w') {b : Nat} {cs : Array Value} (hb : w.heap[b]? = some (.cells cs 26)) {i : Nat} {a : Int} (hv : w.cell? ⟨b, i, none⟩ = some (.int .i64 a)) : ∃ a', w'.cell? ⟨b, i, none⟩ = some (.int .i64 a') ∧ (a' = a ∨ a' = 0) := by
  obtain ⟨ds, h1, -, -, h4⟩ := h.2.2.2 b cs hb
  rcases h4 i with e | ⟨e, -⟩
  · exact ⟨a, by rw [cell_heap h1, e, ← cell_heap hb]; exact hv, .inl rfl⟩
  · exact ⟨0, by rw [cell_heap h1]; exact e, .inr rfl⟩
theorem ownH.rs {C : Nat} {w w' : World} (h : RS C w w') (p : Option Addr) (n c : Nat) : ownH w C p n c → ownH w' C p n c := by
  rintro (h1 | ⟨b, cs, h1, h2, h3, h4, h5, h6⟩)
  · exact .inl h1
  · obtain ⟨ds, g1, g2, -⟩ := h.2.2.2 b cs h5
    exact .inr ⟨b, ds, h1, h2, h3, h4, g1, by omega⟩

theorem KA_rs {C : Nat} {w w' : World} (h : RS C w w') : ∀ (l : List Nd) (b o : Nat), o % 7 = 0 → (∃ cs, w.heap[b]? = some (.cells cs 26)) → KA w (ownH w C) b o l →
    ∃ l', KA w' (ownH w' C) b o l' ∧ stripL l' = stripL l ∧ (stripL l = l → l' = l) := by
  apply forest (P := fun l => ∀ (b o : Nat), o % 7 = 0 → (∃ cs, w.heap[b]? = some (.cells cs 26)) → KA w (ownH w C) b o l → ∃ l', KA w' (ownH w' C) b o l' ∧ stripL l' = stripL l ∧ (stripL l = l → l' = l))
  · intro b o _ _ _
    exact ⟨[], KA_nil _ _ _ _, rfl, fun _ => rfl⟩
  · intro t r h1 h2 b o ho hb hk
    rw [KA_cons] at hk
    obtain ⟨⟨e0, e1, e2, e3, e4, e6, sv, e5, p, c, rfl, hq, hk'⟩, hr⟩ := hk
    obtain ⟨r', hr1, hr2, hr3⟩ := h2 b (o + 7) (by omega) hb hr
    obtain ⟨l', hl0, hl1, hl2, hl3⟩ : ∃ l', Kids w' (ownH w' C) (.slice p t.args.length c) l' ∧ l'.length = t.args.length ∧ stripL l' = stripL t.args ∧ (stripL t.args = t.args → l' = t.args) := by
      rcases hk' with hk' | ⟨b', o', hp, hk'⟩
      · refine ⟨[], ⟨p, c, by rw [hk'], ?_, .inl rfl⟩, by rw [hk'], by rw [hk'], fun _ => hk'.symm⟩
        have := ownH.rs h _ _ _ hq
        rw [hk'] at this
        exact this
      · rcases hq with ⟨hq, -⟩ | ⟨b2, cs2, hq, hq2⟩
        · rw [hq] at hp; cases hp
        · have hbo : b2 = b' ∧ 0 = o' := by rw [hq] at hp; simpa using hp
          obtain ⟨rfl, rfl⟩ := hbo
          obtain ⟨l', g1, g2, g3⟩ := h1 b2 0 rfl ⟨cs2, hq2.2.2.2.1⟩ hk'
          have hln : l'.length = t.args.length := by rw [← stripL_len l', g2, stripL_len]
          refine ⟨l', ⟨p, c, by rw [hln], ?_, .inr ⟨b2, 0, hp, g1⟩⟩, hln, g2, g3⟩
          rw [hln]
          exact ownH.rs h _ _ _ (.inr ⟨b2, cs2, hq, hq2⟩)
    obtain ⟨cs, hcs⟩ := hb
    obtain ⟨a', ha1, ha2⟩ := h.at hcs e6
    refine ⟨⟨t.kind, t.name, t.num, t.int_, t.key, l', a'⟩ :: r', KA_cons.2 ⟨⟨h.keep hcs (by omega) e0, h.keep hcs (by omega) e1, h.keep hcs (by omega) e2, h.keep hcs (by omega) e3, h.keep hcs (by omega) e4, ha1, _, h.keep hcs (by omega) e5, hl0⟩, hr1⟩, ?_, ?_⟩
    · rw [stripL_cons, stripL_cons, hr2]
      unfold strip
      simp only
      rw [hl2]
    · intro hz
      rw [stripL_cons] at hz
      have hz1 : strip t = t := (List.cons.inj hz).1
      have hz2 : stripL r = r := (List.cons.inj hz).2
      have h5 : stripL t.args = t.args := congrArg Nd.args hz1
      have h6 : (0 : Int) = t.at_ := congrArg Nd.at_ hz1
      rw [hr3 hz2, hl3 h5]
      congr 1
      cases t
      simp only [Nd.mk.injEq, true_and]
      simp only at h6 ha2
      omega

/-- A tree of one's own whose places may be any. -/
def Sh (w : World) (C b o : Nat) (t : Nd) : Prop := o % 7 = 0 ∧ C ≤ b ∧ (∃ cs, w.heap[b]? = some (.cells cs 26)) ∧ ∃ t', NodeA w (ownH w C) b o t' ∧ strip t' = strip t
/-- The same without places. -/
def Zd (w : World) (C b o : Nat) (t : Nd) : Prop := o % 7 = 0 ∧ (∃ cs, w.heap[b]? = some (.cells cs 26)) ∧ NodeA w (ownH w C) b o (strip t)
theorem stripL_twice : ∀ l : List Nd, stripL (stripL l) = stripL l := by
  apply forest
  · rw [stripL_nil, stripL_nil]
  · intro t r h1 h2
    rw [stripL_cons, stripL_cons, h2]
    congr 1
    unfold strip
    simp only
    rw [h1]
theorem stripL_cnt : ∀ l : List Nd, cntL (stripL l) = cntL l := by
  apply forest
  · rw [stripL_nil]
  · intro t r h1 h2
    rw [stripL_cons, cntL_cons, cntL_cons, h2]
    unfold cnt strip
    simp only
    rw [h1]
theorem strip_twice (t : Nd) : strip (strip t) = strip t := by
  have := stripL_twice [t]
  rw [stripL_one, stripL_one] at this
  exact (List.cons.inj this).1
theorem Sh.rs {C : Nat} {w w' : World} {b o : Nat} {t : Nd} (h : Sh w C b o t) (r : RS C w w') : Sh w' C b o t := by
  obtain ⟨h1, h2, ⟨cs, h3⟩, t', h4, h5⟩ := h
  obtain ⟨l', g1, g2, -⟩ := KA_rs r [t'] b o h1 ⟨cs, h3⟩ (KA_cons.2 ⟨h4, KA_nil _ _ _ _⟩)
  rw [stripL_one] at g2
  match l', g1, g2 with
  | [u], g1, g2 =>
    obtain ⟨ds, g3, -⟩ := r.2.2.2 b cs h3
    rw [stripL_one] at g2
    exact ⟨h1, h2, ⟨ds, g3⟩, u, (KA_cons.1 g1).1, ((List.cons.inj g2).1).trans h5⟩
  | [], g1, g2 => rw [stripL_nil] at g2; cases g2
  | u :: v :: q, g1, g2 => rw [stripL_cons, stripL_cons] at g2; have := (List.cons.inj g2).2; cases this
theorem Zd.rs {C : Nat} {w w' : World} {b o : Nat} {t : Nd} (h : Zd w C b o t) (r : RS C w w') : Zd w' C b o t := by
  obtain ⟨h1, ⟨cs, h3⟩, h4⟩ := h
  obtain ⟨l', g1, g2, g3⟩ := KA_rs r [strip t] b o h1 ⟨cs, h3⟩ (KA_cons.2 ⟨h4, KA_nil _ _ _ _⟩)
  obtain ⟨ds, g4, -⟩ := r.2.2.2 b cs h3
  rw [g3 (by rw [stripL_one, strip_twice])] at g1
  exact ⟨h1, ⟨ds, g4⟩, (KA_cons.1 g1).1⟩
theorem stripL_get : ∀ (l : List Nd) (i : Nat) (h : i < l.length), (stripL l)[i]'(by rw [stripL_len]; exact h) = strip l[i] := by
  intro l
  induction l with
  | nil => intro i h; exact absurd h (Nat.not_lt_zero _)
  | cons t r ih =>
    intro i h
    cases i with
    | zero => simp [stripL_cons]
    | succ i =>
      have := ih i (by simpa using h)
      simp [stripL_cons, this]
/-- What a walk needs of a node. -/
theorem Sh.open {w : World} {C b o : Nat} {t : Nd} (h : Sh w C b o t) : ∃ p c a, w.cell? ⟨b, o + 5, none⟩ = some (.slice p t.args.length c) ∧ w.cell? ⟨b, o + 6, none⟩ = some (.int .i64 a) ∧ w.frozen? ⟨b, o + 6, none⟩ = false
    ∧ (t.args = [] ∨ ∃ b', p = some ⟨b', 0, none⟩ ∧ ∀ i (h : i < t.args.length), Sh w C b' (i * 7) t.args[i])
    ∧ (w.cell? ⟨b, o, none⟩ = some (.int .i64 t.kind) ∧ w.cell? ⟨b, o + 1, none⟩ = some (.string t.name) ∧ w.cell? ⟨b, o + 2, none⟩ = some (.int .u32 t.num) ∧ w.cell? ⟨b, o + 3, none⟩ = some (.int .i64 t.int_) ∧ w.cell? ⟨b, o + 4, none⟩ = some (.string t.key))
    ∧ ownH w C p t.args.length c := by
  obtain ⟨h1, h2, ⟨cs, h3⟩, t', ⟨e0, e1, e2, e3, e4, e6, sv, e5, p, c, rfl, hq, hk⟩, h5⟩ := h
  have k0 : t'.kind = t.kind := (by have := congrArg Nd.kind h5; exact this)
  have k1 : t'.name = t.name := (by have := congrArg Nd.name h5; exact this)
  have k2 : t'.num = t.num := (by have := congrArg Nd.num h5; exact this)
  have k3 : t'.int_ = t.int_ := (by have := congrArg Nd.int_ h5; exact this)
  have k4 : t'.key = t.key := (by have := congrArg Nd.key h5; exact this)
  have k5 : stripL t'.args = stripL t.args := (by have := congrArg Nd.args h5; exact this)
  have kl : t'.args.length = t.args.length := by rw [← stripL_len t'.args, k5, stripL_len]
  have kf : w.frozen? ⟨b, o + 6, none⟩ = false := by
    rw [cell_heap h3] at e6
    exact (at_cell h3 _ e6).2
  refine ⟨p, c, t'.at_, by rw [← kl]; exact e5, e6, kf, ?_, ⟨by rw [← k0]; exact e0, by rw [← k1]; exact e1, by rw [← k2]; exact e2, by rw [← k3]; exact e3, by rw [← k4]; exact e4⟩, by rw [← kl]; exact hq⟩
  rcases hk with hk | ⟨b', o', hp, hk⟩
  · left
    rw [hk] at kl
    exact List.eq_nil_of_length_eq_zero kl.symm
  · rcases hq with ⟨hq, -⟩ | ⟨b2, cs2, hq, hq1, hq2⟩
    · rw [hq] at hp; cases hp
    · right
      have hbo : b2 = b' ∧ 0 = o' := by rw [hq] at hp; simpa using hp
      obtain ⟨rfl, rfl⟩ := hbo
      refine ⟨b2, hp, fun i hi => ?_⟩
      have hi' : i < t'.args.length := by omega
      have := KA_get hk hi'
      rw [Nat.zero_add] at this
      refine ⟨by omega, hq1, ⟨cs2, hq2.2.2.1⟩, t'.args[i], this, ?_⟩
      rw [← stripL_get t'.args i hi', ← stripL_get t.args i hi]
      simp [k5]

end Go.Proofs.Ytpidjmgifglmiab
