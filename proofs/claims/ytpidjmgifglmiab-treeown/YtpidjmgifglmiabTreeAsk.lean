import Derived.Test.YtpidjmgifglmiabTreeWalk
/- Package tree: what only reads a tree by its walk: Count, Depth, measure. -/
namespace Go.Proofs.Ytpidjmgifglmiab
open Go.RowKit
set_option linter.unusedVariables false
set_option linter.unusedSimpArgs false

/-- All below B is as it was, and the places that were handed on. -/
def RT (B : Nat) (w w' : World) : Prop :=
  (B ≤ w.heap.size → Below B w w') ∧ w.heap.size ≤ w'.heap.size ∧ ∀ (G : Nat) (x y : Value), w.heap[G]? = some (.cells #[x, y] 47) → w'.heap[G]? = some (.cells #[x, y] 47)

theorem hlt {w : World} {G : Nat} {o : Obj} (h : w.heap[G]? = some o) : G < w.heap.size := by
  rcases Nat.lt_or_ge G w.heap.size with c | c
  · exact c
  · rw [Array.getElem?_eq_none c] at h; cases h
theorem RT.below {B : Nat} {w w' : World} (h : Below w.heap.size w w') : RT B w w' :=
  ⟨fun hB => h.mono hB, h.size, fun G x y hG => by rw [h.block G (hlt hG)]; exact hG⟩
theorem RT.trans {B : Nat} {a b c : World} (h : RT B a b) (k : RT B b c) : RT B a c :=
  ⟨fun hB => (h.1 hB).trans (k.1 (Nat.le_trans hB h.2.1)), Nat.le_trans h.2.1 k.2.1, fun G x y hG => k.2.2 G x y (h.2.2 G x y hG)⟩
theorem heap_set {w : World} {C : Nat} {x : Value} {t : TypeId} (h : w.heap[C]? = some (.cells #[x] t)) (v : Value) : (w.setCell ⟨C, 0, none⟩ v).heap[C]? = some (.cells #[v] t) := by
  simp [World.setCell, Array.getElem?_modify, h]
theorem heap_old (w : World) {C : Nat} {o : Obj} (x : Obj) (h : w.heap[C]? = some o) : (w.alloc x).heap[C]? = some o := by
  rw [Below.heap_alloc w x C (hlt h)]; exact h
theorem RT.set {B : Nat} {w : World} {C : Nat} {x : Value} {t : TypeId} (h : w.heap[C]? = some (.cells #[x] t)) (hB : B ≤ C) (v : Value) : RT B w (w.setCell ⟨C, 0, none⟩ v) := by
  refine ⟨fun _ => (Below.refl _ _).setCell hB v, by simp [World.setCell], fun G y z hG => ?_⟩
  have hne : G ≠ C := by rintro rfl; rw [h] at hG; simp at hG
  rw [Below.heap_setCell _ _ _ _ (by exact hne)]
  exact hG
theorem one_cell {w : World} {C : Nat} {x : Value} {t : TypeId} (h : w.heap[C]? = some (.cells #[x] t)) : w.cell? ⟨C, 0, none⟩ = some x ∧ w.frozen? ⟨C, 0, none⟩ = false := by
  simp [World.cell?, World.frozen?, h]

/-- Trees that lie in the world in which the walk began. -/
def LT (W : World) (w : World) (b o : Nat) (t : Nd) : Prop := NodeA W anyH b o t ∧ (ok1 t ∧ cnt t ≤ 9000) ∧ Below W.heap.size W w
theorem LT.node {W w : World} {b o : Nat} {t : Nd} (h : LT W w b o t) : NodeA w anyH b o t := h.1.below h.2.2

theorem looks_of {σ : Type} (W : World) {k : Nat} {cap : Array Value} {g : σ → Nd → Int → Option Nd → Bool × σ} {I : Nat → σ → World → Prop} (hen : Ent k)
    (hib : ∀ m s (w w' : World), I m s w → Below w.heap.size w w' → I m s w') (him : ∀ m m' s w, m ≤ m' → I m' s w → I m s w)
    (hl : ∀ (m : Nat) (s : σ) (w : World) (b o : Nat) (t : Nd) (d : Int) (av : Option Addr) (u : Option Nd), I (m + 1) s w → LT W w b o t → Ab (LT W) w av u →
      Calls Try.prog k (#[.pointer (some ⟨b, o, none⟩), .agg #[.int .i64 d, .pointer av]] ++ cap) w fun e w' => e = .returned (.bool (g s t d u).1) ∧ I m (g s t d u).2 w' ∧ RT W.heap.size w w') :
    Looks k cap g (RT W.heap.size) (LT W) I where
  ent := hen
  rb := fun w w' h => RT.below h
  rt := fun a b c h k => h.trans k
  rc := fun w w' G x y h hG => h.2.2 G x y hG
  lr := fun w w' b o t h r => ⟨h.1, h.2.1, h.2.2.trans (r.1 h.2.2.size)⟩
  lk := fun w b o t h => by
    obtain ⟨⟨e0, e1, e2, e3, e4, e6, sv, e5, p, c, hv, hq, hk⟩, hok, hb⟩ := h
    subst hv
    refine ⟨p, c, (hb.cell (mcell_lt e5)).trans e5, ?_⟩
    rcases hk with hk | ⟨b', o', hp, hk⟩
    · exact .inl hk
    · exact .inr ⟨b', o', hp, fun i hi => ⟨KA_get hk hi, ⟨okL_get hok.1.2 hi, by have h1 := cnt_get hi; have h2 := hok.2; unfold cnt at h2; omega⟩, hb⟩⟩
  lc := fun w w' b o t v h r hc => by
    have := (r.1 h.2.2.size).cell (p := ⟨b, o + 5, none⟩) (mcell_lt (a := ⟨b, o, none⟩) h.1.1)
    rw [this]; exact hc
  ib := hib
  im := him
  look := hl

theorem top_any (w : World) : Calls Try.prog 23 #[] w fun e w' => e = .returned (.agg #[.int .i64 1, .pointer none]) ∧ Below w.heap.size w w' := by
  go_enter Try.func23, Try.ntmps23
  go_wp2
  go_returns
  exact ⟨rfl, by go_grown⟩

/-- How many. -/
def gCount : Int → Nd → Int → Option Nd → Bool × Int := fun s _ _ _ => (true, s + 1)
def ICount (C : Nat) (m : Nat) (s : Int) (w : World) : Prop := 0 ≤ s ∧ s + m ≤ 9000 ∧ w.heap[C]? = some (.cells #[.int .i64 s] 3)
theorem ICount.below {C m : Nat} {s : Int} {w w' : World} (h : ICount C m s w) (k : Below w.heap.size w w') : ICount C m s w' :=
  ⟨h.1, h.2.1, by rw [k.block C (hlt h.2.2)]; exact h.2.2⟩

set_option maxHeartbeats 400000 in
theorem count1_any (W : World) (C : Nat) (hC : W.heap.size ≤ C) (m : Nat) (s : Int) (w : World) (b o : Nat) (t : Nd) (d : Int) (av : Option Addr) (u : Option Nd) (hI : ICount C (m + 1) s w) :
    Calls Try.prog 30 (#[.pointer (some ⟨b, o, none⟩), .agg #[.int .i64 d, .pointer av]] ++ #[.pointer (some ⟨C, 0, none⟩)]) w fun e w' => e = .returned (.bool (gCount s t d u).1) ∧ ICount C m (gCount s t d u).2 w' ∧ RT W.heap.size w w' := by
  obtain ⟨h0, h1, h2⟩ := hI
  have g1 := heap_old w (.cells #[.int .i64 d, .pointer av] 47) h2
  obtain ⟨c1, f1⟩ := one_cell g1
  show Calls Try.prog 30 #[.pointer (some ⟨b, o, none⟩), .agg #[.int .i64 d, .pointer av], .pointer (some ⟨C, 0, none⟩)] w _
  have G1 : Hid ((w.alloc (.cells #[.int .i64 d, .pointer av] 47)).heap[C]? = some (.cells #[.int .i64 s] 3)) := g1
  clear g1 h2
  go_enter Try.func30, Try.ntmps30
  go_wp2
  go_ret
  refine ⟨rfl, ⟨?_, ?_, ?_⟩, (RT.below (bel_alloc w _)).trans (RT.set G1.out hC _)⟩
  · show 0 ≤ s + 1; omega
  · show s + 1 + m ≤ 9000; omega
  · exact heap_set G1.out _

theorem wkL_count (l : List Nd) : ∀ (d : Int) (u : Option Nd) (s : Int), wkL gCount l d u s = (true, s + cntL l) := by
  apply forest (P := fun l => ∀ (d : Int) (u : Option Nd) (s : Int), wkL gCount l d u s = (true, s + cntL l))
  · intro d u s; rw [wkL_nil, cntL_nil]; simp
  · intro t r h1 h2 d u s
    rw [wkL_cons, cntL_cons]
    have e : wk gCount t d u s = (true, s + cnt t) := by
      unfold wk
      rw [show gCount s t d u = (true, s + 1) from rfl]
      rw [if_pos rfl, h1]
      unfold cnt
      congr 1
      push_cast
      omega
    rw [e, if_pos rfl, h2]
    congr 1
    push_cast
    omega
theorem wk_count (t : Nd) (d : Int) (u : Option Nd) : wk gCount t d u 0 = (true, (cnt t : Int)) := by
  rw [← wkL_one, wkL_count, cntL_one]
  simp

theorem two_heap (w : World) (A B : Obj) : ((w.alloc A).alloc B).heap[w.heap.size + 1]? = some B := by
  have := box_heap (w.alloc A) B
  rwa [show (w.alloc A).heap.size = w.heap.size + 1 by simp] at this
theorem two_below {w : World} {A B : Obj} {v : World} (h : Below ((w.alloc A).alloc B).heap.size ((w.alloc A).alloc B) v) : Below (w.heap.size + 1) (w.alloc A) v := by
  have h1 := bel (bel_alloc (w.alloc A) B) h
  rwa [show (w.alloc A).heap.size = w.heap.size + 1 by simp] at h1
theorem cell_heap {w : World} {G : Nat} {cs : Array Value} {t : TypeId} {f : Nat × Nat} (h : w.heap[G]? = some (.cells cs t f)) (i : Nat) : w.cell? ⟨G, i, none⟩ = cs[i]? := by
  simp [World.cell?, h]
/-- The world in which a node lies boxed. -/
theorem box_node (w : World) (t : Nd) (sv : Value) (hk : Kids w anyH sv t.args) :
    NodeA (w.alloc (.cells #[.int .i64 t.kind, .string t.name, .int .u32 t.num, .int .i64 t.int_, .string t.key, sv, .int .i64 t.at_] 26)) anyH w.heap.size 0 t := by
  have h := box_heap w (.cells #[.int .i64 t.kind, .string t.name, .int .u32 t.num, .int .i64 t.int_, .string t.key, sv, .int .i64 t.at_] 26)
  exact ⟨cell_heap h 0, cell_heap h 1, cell_heap h 2, cell_heap h 3, cell_heap h 4, cell_heap h 6, sv, cell_heap h 5, hk.below (bel_alloc _ _)⟩

set_option maxHeartbeats 1000000 in
theorem count_any (t : Nd) (sv : Value) (w : World) (hc : cnt t ≤ 9000) (hok : ok1 t) (hk : Kids w anyH sv t.args) :
    Calls Try.prog 18 #[nv t sv] w fun e w' => e = .returned (.int .i64 (cnt t)) ∧ Below w.heap.size w w' := by
  have hn := box_node w t sv hk
  have HC : Hid (∀ v : World, ICount (w.heap.size + 1) (cnt t) 0 v → Below (w.heap.size + 1) (w.alloc (.cells #[.int .i64 t.kind, .string t.name, .int .u32 t.num, .int .i64 t.int_, .string t.key, sv, .int .i64 t.at_] 26)) v → Calls Try.prog 22 #[.pointer (some ⟨w.heap.size, 0, none⟩), .agg #[.int .i64 1, .pointer none], .func (.func 30) #[] #[.pointer (some ⟨w.heap.size + 1, 0, none⟩)]] v fun e v' => e = .returned (.bool true) ∧ v'.cell? ⟨w.heap.size + 1, 0, none⟩ = some (.int .i64 (cnt t)) ∧ Below w.heap.size w v') := fun v hI hv => by
    have hbW := bel_alloc w (.cells #[.int .i64 t.kind, .string t.name, .int .u32 t.num, .int .i64 t.int_, .string t.key, sv, .int .i64 t.at_] 26)
    obtain ⟨W, hW⟩ : ∃ W, w.alloc (.cells #[.int .i64 t.kind, .string t.name, .int .u32 t.num, .int .i64 t.int_, .string t.key, sv, .int .i64 t.at_] 26) = W := ⟨_, rfl⟩
    have hs : W.heap.size = w.heap.size + 1 := by rw [← hW]; simp
    rw [hW] at hn hbW hv
    rw [← hs] at hI hv ⊢
    have := walk_any (looks_of W (enters_of Try.func30 (by kernel_rfl) rfl) (fun m s w w' h k => h.below k) (fun m m' s w hm h => ⟨h.1, by have := h.2.1; omega, h.2.2⟩) (fun m s w b o t d av u hI _ _ => count1_any W W.heap.size (Nat.le_refl _) m s w b o t d av u hI))
      (dep t) t 0 0 v w.heap.size 0 1 none none (Nat.le_refl _) hc (by decide) (by have := dep_cnt t; omega) (by rw [Nat.zero_add]; exact hI) ⟨hn, ⟨hok, hc⟩, hv⟩ (.inl ⟨rfl, rfl⟩)
    rw [wk_count] at this
    refine this.mono fun e v' ⟨he, hi, hr⟩ => ⟨he, (one_cell hi.2.2).1, ?_⟩
    exact hbW.trans ((hv.trans (hr.1 hv.size)).mono (by omega))
  clear hn hok hk
  unfold nv
  go_enter Try.func18, Try.ntmps18
  go_wp2_with (first
    | (go_at_call 23; refine (top_any _).mono ?_; rintro e w2 ⟨rfl, hb2⟩; have hI2 : ICount (w.heap.size + 1) (cnt t) 0 w2 := ICount.below ⟨by omega, by omega, two_heap _ _ _⟩ hb2; have hB2 := two_below hb2)
    | (go_at_call 22; (with_reducible refine (HC.out _ hI2 hB2).mono ?_); rintro e w3 ⟨rfl, hc3, hb3⟩))
  go_ret
  exact ⟨rfl, hb3⟩

end Go.Proofs.Ytpidjmgifglmiab
