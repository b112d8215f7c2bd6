import Derived.Test.YtnhpnmilgcjeaaaDoorMaskSeq
import Derived.Test.YtnhpnmilgcjeaaaDoorTreeMem
import Derived.Sort.QuietIn
import Derived.Sort.CutIn
/- Package mask: Match. -/
namespace Go.Proofs.YtnhpnmilgcjeaaaDoor
open Go.RowKit Go.Shelf
set_option linter.unusedVariables false
set_option linter.unusedSimpArgs false
attribute [local go_sem] Oper.semAt_some

/-- A box that holds v and may be written. -/
structure Bx (W : World) (A : Nat) (v : Value) : Prop where
  c : W.cell? ⟨A, 0, none⟩ = some v
  f : W.frozen? ⟨A, 0, none⟩ = false
theorem Bx.lt {W : World} {A : Nat} {v : Value} (h : Bx W A v) : A < W.heap.size := by
  obtain ⟨o, ho, _⟩ := cells_of_cell h.c
  exact (Array.getElem?_eq_some_iff.1 ho).1
theorem Bx.new (W : World) (v : Value) (t : TypeId) : Bx (W.alloc (.cells #[v] t)) W.heap.size v := ⟨by simp, by simp⟩
theorem Bx.below {W W' : World} {A : Nat} {v : Value} (h : Bx W A v) (k : Below W.heap.size W W') : Bx W' A v := ⟨(k.cell (p := ⟨A, 0, none⟩) h.lt).trans h.c, (k.frozen (p := ⟨A, 0, none⟩) h.lt).trans h.f⟩
theorem Bx.alloc {W : World} {A : Nat} {v : Value} (h : Bx W A v) (o : Obj) : Bx (W.alloc o) A v := h.below ((Below.refl _ _).alloc (Nat.le_refl _) _)
theorem Bx.set {W : World} {A : Nat} {v : Value} (h : Bx W A v) (u : Value) : Bx (W.setCell ⟨A, 0, none⟩ u) A u := ⟨World.cell?_setCell_same' _ _ _ (by rw [h.c]; rfl), by rw [World.frozen?_setCell]; exact h.f⟩
theorem Bx.other {W : World} {A C : Nat} {v : Value} (h : Bx W A v) (hne : A ≠ C) (u : Value) : Bx (W.setCell ⟨C, 0, none⟩ u) A v := ⟨(World.cell?_setCell_other _ _ _ _ (fun e => hne (by rw [Addr.mk.injEq] at e; exact e.1.symm))).trans h.c, by rw [World.frozen?_setCell]; exact h.f⟩
theorem Bx.put {W : World} {A : Nat} {v : Value} (h : Bx W A v) {l : Nat} {o : Obj} (hl : W.heap[l]? = some o) (ho : o.isCells = false) (o' : Obj) : Bx (W.putObj l o') A v := by
  have hr : ∀ x, some l = some x → ∃ o : Obj, W.heap[x]? = some o ∧ o.isCells = false := fun x e => by cases e; exact ⟨o, hl, ho⟩
  exact ⟨cell_kept h.c (grownBy_putObj' W l o') hr, (frozen_kept h.c (grownBy_putObj' W l o') hr).trans h.f⟩

theorem ret_box {R : Ending → World → Prop} {tm : Array Value} {A : Nat} {v : Value} {W : World} (h : Bx W A v) (hR : R (.returned v) W) (ht : tm[4]? = some (.pointer (some ⟨A, 0, none⟩)) := by rfl) : bodyPostM Fence.wide 5 Tryd.prog Tryd.f8 R .ret { tmps := tm, defers := [] } W := by
  have hc := h.c
  have hz : tm.getD 4 undef = .pointer (some ⟨A, 0, none⟩) := by rw [Array.getD_eq_getD_getElem?, ht]; rfl
  refine ⟨v, ?_, hR⟩
  simp [results, Tryd.results8, go_sem, hc, ht]

/-- The glob about its first and its last star. -/
structure Ends (a : ByteArray) (k m : Nat) : Prop where
  le : k ≤ m
  lt : m < a.size
  ph : PlainG (gs (a.extract 0 k))
  pt : PlainG (gs (a.extract (m + 1) a.size))
  e : gs a = gs (a.extract 0 k) ++ gs (a.extract k (m + 1)) ++ gs (a.extract (m + 1) a.size)
  h1 : ∃ z, gs (a.extract k (m + 1)) = 42 :: z
  h2 : ∃ z, gs (a.extract k (m + 1)) = z ++ [42]
theorem ends_of {a : ByteArray} {k : Nat} (hst : starAt (gs a) = some k) {i : Int} (hL : LastStar (gs a) i) : ∃ m : Nat, i = m ∧ Ends a k m := by
  obtain ⟨x, y, hxy, px, hxl⟩ := star_some hst
  rcases hL with ⟨_, hp⟩ | ⟨x', y', hxy', py, rfl⟩
  · exact absurd rfl (hp 42 (by rw [hxy]; simp))
  · have hlen : (gs a).length = a.size := gs_length a
    have l1 : a.size = x.length + (y.length + 1) := by rw [← hlen, hxy]; simp
    have l2 : a.size = x'.length + (y'.length + 1) := by rw [← hlen, hxy']; simp
    have g1 : (gs a)[x'.length]? = some 42 := by rw [hxy']; simp
    have g2 : (gs a)[x.length]? = some 42 := by rw [hxy]; simp
    have hle : x.length ≤ x'.length := by
      apply Nat.le_of_not_lt
      intro hlt
      rw [hxy, List.getElem?_append_left hlt] at g1
      exact px 42 (List.mem_of_getElem? g1) rfl
    have hk : k ≤ x'.length := by omega
    have e1 : gs (a.extract 0 k) = x := by rw [gx_extract, hxy, ← hxl]; simp
    have e2 : gs (a.extract (x'.length + 1) a.size) = y' := by
      rw [gx_extract, List.take_of_length_le (by rw [hlen]; exact Nat.le_refl _), hxy', show x' ++ 42 :: y' = (x' ++ [42]) ++ y' by simp, List.drop_left' (by simp)]
    have e3 : gs (a.extract k (x'.length + 1)) = ((gs a).take (x'.length + 1)).drop k := gx_extract a _ _
    refine ⟨x'.length, rfl, hk, by omega, by rw [e1]; exact px, by rw [e2]; exact py, ?_, ?_, ?_⟩
    · rw [e1, e2, e3, ← hxl]
      have t1 : (gs a).take (x'.length + 1) = x' ++ [42] := by rw [hxy', show x' ++ 42 :: y' = (x' ++ [42]) ++ y' by simp, List.take_left' (by simp)]
      have t2 : x = ((gs a).take (x'.length + 1)).take x.length := by rw [List.take_take, Nat.min_eq_left (by omega), hxy, List.take_left' rfl]
      conv => rhs; rw [show x ++ List.drop x.length (List.take (x'.length + 1) (gs a)) = List.take x.length (List.take (x'.length + 1) (gs a)) ++ List.drop x.length (List.take (x'.length + 1) (gs a)) by rw [← t2]]
      rw [List.take_append_drop, t1, hxy']
      simp
    · rw [e3]
      have hl : k < ((gs a).take (x'.length + 1)).length := by rw [List.length_take, hlen]; omega
      refine ⟨((gs a).take (x'.length + 1)).drop (k + 1), ?_⟩
      rw [List.drop_eq_getElem_cons hl]
      congr 1
      have : ((gs a).take (x'.length + 1))[k]? = some 42 := by rw [List.getElem?_take, if_pos (by omega), ← hxl]; exact g2
      rw [List.getElem?_eq_getElem hl] at this
      exact Option.some.inj this
    · rw [e3]
      have t1 : (gs a).take (x'.length + 1) = x' ++ [42] := by rw [hxy', show x' ++ 42 :: y' = (x' ++ [42]) ++ y' by simp, List.take_left' (by simp)]
      rw [t1, List.drop_append_of_le_length hk]
      exact ⟨_, rfl⟩
/-- What Match asks. -/
theorem Ends.match {a b : ByteArray} {k m : Nat} (h : Ends a k m) : matchP (gs a) (gs b) = true ↔ k + (a.size - (m + 1)) ≤ b.size ∧ fitsG (gs (a.extract 0 k)) (gs (b.extract 0 k)) = true ∧ fitsG (gs (a.extract (m + 1) a.size)) (gs (b.extract (b.size - (a.size - (m + 1))) b.size)) = true ∧ Means (42 :: (gs (a.extract k (m + 1)) ++ [42])) (gs (b.extract k (b.size - (a.size - (m + 1))))) := by
  have lh : (gs (a.extract 0 k)).length = k := by have := h.le; have := h.lt; rw [gs_length, ByteArray.size_extract]; omega
  have lt : (gs (a.extract (m + 1) a.size)).length = a.size - (m + 1) := by have := h.lt; rw [gs_length, ByteArray.size_extract]; omega
  have b1 : gs (b.extract 0 k) = (gs b).take k := by rw [gx_extract, List.drop_zero]
  have b2 : gs (b.extract (b.size - (a.size - (m + 1))) b.size) = (gs b).drop (b.size - (a.size - (m + 1))) := by rw [gx_extract, List.take_of_length_le (by rw [gs_length]; exact Nat.le_refl _)]
  have b3 : gs (b.extract k (b.size - (a.size - (m + 1)))) = ((gs b).drop k).take (b.size - (a.size - (m + 1)) - k) := by rw [gx_extract, List.drop_take]
  rw [match_means, h.e, ends_means h.ph h.pt, lh, lt, gs_length, mid_means _ _ h.h1 h.h2, b1, b2, b3]

theorem ret_mark {R : Ending → World → Prop} {tm : Array Value} {A D : Nat} {v : Value} {W : World} (h : Bx W A v) (hK : W.heap[D]? = some (.deferred (some []))) (hR : R (.returned v) (W.putObj D (.deferred none))) (ht : tm[4]? = some (.pointer (some ⟨A, 0, none⟩)) := by rfl) : bodyPostM Fence.wide 5 Tryd.prog Tryd.f8 R .ret { tmps := tm, defers := [{ target := .collected D, args := #[] }] } W := by
  have hc := (h.put hK rfl (.deferred none)).c
  refine ⟨by simp, .inl ⟨_, _, rfl, run_takeDeferred hK, v, ?_, hR⟩⟩
  simp [results, Tryd.results8, go_sem, hc, ht]
theorem keeps_below {W W' : World} (h : Below W.heap.size W W') : KeepsOthers W W' := ⟨h.size, fun k o hk _ => (h.block k (Array.getElem?_eq_some_iff.1 hk).1).trans hk⟩
theorem Sq.below {S T U : Nat} {r : ByteArray} {W W' : World} (q : Sq S T U r W) (k : Below W.heap.size W W') : Sq S T U r W' := by
  have s1 : Bx W S (.string r) := ⟨q.s, q.f⟩
  exact ⟨q.size, (s1.below k).c, (s1.below k).f, (k.cell (mcell_lt q.t)).trans q.t, (k.cell (mcell_lt q.u)).trans q.u⟩
theorem cell_other {W : World} {A C : Nat} {v : Value} (h : W.cell? ⟨A, 0, none⟩ = some v) (hne : A ≠ C) (u : Value) : (W.setCell ⟨C, 0, none⟩ u).cell? ⟨A, 0, none⟩ = some v := (World.cell?_setCell_other _ _ _ _ (fun e => hne (by rw [Addr.mk.injEq] at e; exact e.1.symm))).trans h
theorem Sq.other {S T U C : Nat} {r : ByteArray} {W : World} (q : Sq S T U r W) (h1 : S ≠ C) (h2 : T ≠ C) (h3 : U ≠ C) (u : Value) : Sq S T U r (W.setCell ⟨C, 0, none⟩ u) :=
  ⟨q.size, cell_other q.s h1 u, by rw [World.frozen?_setCell]; exact q.f, cell_other q.t h2 u, cell_other q.u h3 u⟩
theorem Sq.step {S T U : Nat} {r : ByteArray} {W : World} (q : Sq S T U r W) (h2 : T ≠ S) (h3 : U ≠ S) (j : Nat) : Sq S T U (aft r j) (W.setCell ⟨S, 0, none⟩ (.string (aft r j))) := by
  have s1 : Bx W S (.string r) := ⟨q.s, q.f⟩
  have hs := q.size
  exact ⟨by unfold aft; rw [ByteArray.size_extract]; omega, (s1.set _).c, (s1.set _).f, cell_other q.t h2 _, cell_other q.u h3 _⟩
theorem gs_from (x : ByteArray) (i : Nat) : gs (x.extract i x.size) = (gs x).drop i := by rw [gx_extract, List.take_of_length_le (by rw [gs_length]; exact Nat.le_refl _)]
theorem star_piece {r : ByteArray} {j : Nat} (h : starAt (gs r) = some j) : PlainG (gs (r.extract 0 j)) ∧ gs r = gs (r.extract 0 j) ++ 42 :: gs (aft r j) ∧ (r.extract 0 j).size ≤ r.size := by
  obtain ⟨x, y, he, hx, hl⟩ := star_some h
  have e1 : gs (r.extract 0 j) = x := by rw [gx_extract, he, ← hl]; simp
  have e2 : gs (aft r j) = y := by
    unfold aft
    rw [gs_from, he, show x ++ 42 :: y = (x ++ [42]) ++ y by simp, List.drop_left' (by simp [hl])]
  exact ⟨by rw [e1]; exact hx, by rw [e1, e2, he], by rw [ByteArray.size_extract]; omega⟩
theorem first_fit (p x : Gs) : (∃ a, FitAt p x a ∧ ∀ j, j < a → ¬ FitAt p x j) ∨ ∀ j, ¬ FitAt p x j := by
  have key : ∀ n, (∃ a, FitAt p x a ∧ ∀ j, j < a → ¬ FitAt p x j) ∨ ∀ j, j < n → ¬ FitAt p x j := by
    intro n
    induction n with
    | zero => exact .inr fun j hj => absurd hj (Nat.not_lt_zero j)
    | succ n ih =>
      rcases ih with h | h
      · exact .inl h
      · by_cases hn : FitAt p x n
        · exact .inl ⟨n, hn, h⟩
        · refine .inr fun j hj => ?_
          by_cases e : j = n
          · subst e; exact hn
          · exact h j (by omega)
  rcases key (x.length + 1) with h | h
  · exact .inl h
  · refine .inr fun j hj => ?_
    have := hj.1
    exact h j (by omega) hj
theorem mfind_yes (p t : ByteArray) (hp : p.size ≤ 1152921504606846975) (ht : t.size ≤ 1152921504606846975) (α : Nat) (h1 : FitAt (gs p) (gs t) α) (h2 : ∀ j, j < α → ¬ FitAt (gs p) (gs t) j) (w : World) :
    Calls Tryd.prog 21 #[.string p, .string t] w fun e w' => e = .returned (.tuple #[.int .i64 α, .bool true]) ∧ Below w.heap.size w w' := (mfind_any p t hp ht w).mono (by
  rintro e w' ⟨(⟨a, rfl, g1, g2⟩ | ⟨rfl, g⟩), hb⟩
  · have : a = α := by
      rcases Nat.lt_trichotomy a α with h | h | h
      · exact absurd g1 (h2 a h)
      · exact h
      · exact absurd h1 (g2 α h)
    subst this
    exact ⟨rfl, hb⟩
  · exact absurd h1 (g α))
theorem mfind_no (p t : ByteArray) (hp : p.size ≤ 1152921504606846975) (ht : t.size ≤ 1152921504606846975) (hn : ∀ j, ¬ FitAt (gs p) (gs t) j) (w : World) :
    Calls Tryd.prog 21 #[.string p, .string t] w fun e w' => e = .returned (.tuple #[.int .i64 0, .bool false]) ∧ Below w.heap.size w w' := (mfind_any p t hp ht w).mono (by
  rintro e w' ⟨(⟨a, rfl, g1, g2⟩ | ⟨rfl, g⟩), hb⟩
  · exact absurd g1 (hn a)
  · exact ⟨rfl, hb⟩)

theorem four_new (w : World) (x r : ByteArray) (t u : TypeId) (hr : r.size ≤ 1152921504606846975) : Bx ((((w.alloc (.cells #[.string x] t)).alloc (.cells #[.string r] t)).alloc (.cells #[.string ⟨#[42]⟩] t)).alloc (.cells #[.int .i64 0] u)) w.heap.size (.string x) ∧ Sq (w.heap.size + 1) (w.heap.size + 1 + 1) (w.heap.size + 1 + 2) r ((((w.alloc (.cells #[.string x] t)).alloc (.cells #[.string r] t)).alloc (.cells #[.string ⟨#[42]⟩] t)).alloc (.cells #[.int .i64 0] u)) ∧ ((((w.alloc (.cells #[.string x] t)).alloc (.cells #[.string r] t)).alloc (.cells #[.string ⟨#[42]⟩] t)).alloc (.cells #[.int .i64 0] u)).heap.size = w.heap.size + 4 := by
  have b0 := Bx.new w (.string x) t
  have b1 := Bx.new (w.alloc (.cells #[.string x] t)) (.string r) t
  have b2 := Bx.new ((w.alloc (.cells #[.string x] t)).alloc (.cells #[.string r] t)) (.string ⟨#[42]⟩) t
  have b3 := Bx.new (((w.alloc (.cells #[.string x] t)).alloc (.cells #[.string r] t)).alloc (.cells #[.string ⟨#[42]⟩] t)) (.int .i64 0) u
  simp only [World.size_alloc] at b1 b2 b3
  exact ⟨((b0.alloc _).alloc _).alloc _, ⟨hr, ((b1.alloc _).alloc _).c, ((b1.alloc _).alloc _).f, (b2.alloc _).c, b3.c⟩, by simp⟩

/-- Between two rounds: r of the glob is left. -/
structure Mt (w : World) (A B S T U : Nat) (MS : Bool) (r : ByteArray) (W : World) : Prop where
  sq : Sq S T U r W
  ca : Bx W A (.bool false)
  be : Below w.heap.size w W
  cb : ∃ x : ByteArray, x.size ≤ 1152921504606846975 ∧ Bx W B (.string x) ∧ (MS = true ↔ Means (42 :: (gs r ++ [42])) (gs x))
/-- Behind the loop. -/
structure Mo (w : World) (A : Nat) (MS ms : Bool) (W : World) : Prop where
  ca : Bx W A (.bool false)
  be : Below w.heap.size w W
  ms : MS = ms
theorem below_put {w W : World} (h : Below w.heap.size w W) {l : Nat} (hl : w.heap.size ≤ l) (o' : Obj) : Below w.heap.size w (W.putObj l o') :=
  h.grown (grownBy_putObj' W l o') h.size (fun k e => by cases e; exact hl)
theorem Mt.stays {w : World} {A B S T U : Nat} {MS : Bool} {B0 : Nat} (r : ByteArray) (h0 : w.heap.size ≤ B0) : Stays B0 (Mt w A B S T U MS r) := by
  refine ⟨fun W l o o' h hl hlo ho => ?_, fun W o h => ?_⟩
  · obtain ⟨x, hx, hb, hm⟩ := h.cb
    exact ⟨h.sq.put hlo ho o', h.ca.put hlo ho o', below_put h.be (by omega) o', x, hx, hb.put hlo ho o', hm⟩
  · obtain ⟨x, hx, hb, hm⟩ := h.cb
    have k : Below W.heap.size W (W.alloc o) := (Below.refl _ _).alloc (Nat.le_refl _) _
    have q := h.sq
    have s1 : Bx W S (.string r) := ⟨q.s, q.f⟩
    exact ⟨⟨q.size, (s1.alloc o).c, (s1.alloc o).f, (k.cell (mcell_lt q.t)).trans q.t, (k.cell (mcell_lt q.u)).trans q.u⟩, h.ca.alloc o, h.be.alloc h.be.size o, x, hx, hb.alloc o, hm⟩
theorem Mo.stays {w : World} {A : Nat} {MS : Bool} {B0 : Nat} (ms : Bool) (h0 : w.heap.size ≤ B0) : Stays B0 (Mo w A MS ms) :=
  ⟨fun W l o o' h hl hlo ho => ⟨h.ca.put hlo ho o', below_put h.be (by omega) o', h.ms⟩, fun W o h => ⟨h.ca.alloc o, h.be.alloc h.be.size o, h.ms⟩⟩

set_option maxRecDepth 100000 in
set_option maxHeartbeats 2000000 in
theorem mMatch_in (a b : ByteArray) (ha : a.size ≤ 1152921504606846975) (hb : b.size ≤ 1152921504606846975) (w : World) :
    CallsIn Fence.wide 5 Tryd.prog 8 #[.string a, .string b] w fun e w' => e = .returned (.bool (matchP (gs a) (gs b))) ∧ Below w.heap.size w w' := by
  obtain ⟨MS, hMS⟩ : ∃ MS, matchP (gs a) (gs b) = MS := ⟨_, rfl⟩
  rw [hMS]
  have HI : Hid (∀ v, CallsIn Fence.wide (5 - 1) Tryd.prog 17 #[.string a, .int .u8 42] v fun e w' => e = .returned (.int .i64 (starI (gs a))) ∧ w' = v) := fun v => callsIn_wide.2 (idx_any a v)
  have HL : Hid (∀ v, CallsIn Fence.wide (5 - 1) Tryd.prog 18 #[.string a, .int .u8 42] v fun e w' => ∃ i, e = .returned (.int .i64 i) ∧ LastStar (gs a) i ∧ w' = v) := fun v => callsIn_wide.2 (last_any a ha v)
  refine callsIn_of_wp_marks Tryd.func8 rfl trivial ?_ rfl
  simp only [Tryd.ntmps8, List.size_toArray, List.length_cons, List.length_nil, Nat.reduceAdd, Nat.reduceSub, Array.replicate_succ, Array.replicate_zero, List.push_toArray, List.append_toArray, List.nil_append, List.cons_append]
  cases hst : starAt (gs a) with
  | none =>
    have hsi : starI (gs a) = -1 := by unfold starI; rw [hst]
    have HM : Hid (fitsG (gs a) (gs b) = MS) := by
      show _ = _
      rw [← hMS, Bool.eq_iff_iff, fits_means _ _ (star_none hst), match_means]
    have HF : Hid (∀ v, CallsIn Fence.wide (5 - 1) Tryd.prog 19 #[.string a, .string b] v fun e w' => e = .returned (.bool (fitsG (gs a) (gs b))) ∧ Below v.heap.size v w') := fun v => callsIn_wide.2 (mfits_any a b ha hb v)
    rw [hsi] at HI
    clear hsi hst
    have bx := Bx.new w (.bool false) 4
    have hbw := (Below.refl w.heap.size w).alloc (Nat.le_refl _) (.cells #[.bool false] 4)
    gi_wp2_with (first | (refine ⟨trivial, ?_⟩; gi_at_call 17; refine (HI.out _).mono ?_; clear HI; rintro e w1 ⟨rfl, rfl⟩) | (refine ⟨trivial, ?_⟩; gi_at_call 18; refine (HL.out _).mono ?_; clear HL; rintro e w1 ⟨i, rfl, hi, rfl⟩) | (refine ⟨trivial, ?_⟩; gi_at_call 19; refine (HF.out _).mono ?_; clear HF; rintro e w1 ⟨rfl, hb1⟩; have bx1 := bx.below hb1; have d1 := bx1.c; have d2 := bx1.f))
    refine ret_box (bx1.set _) ?_
    exact ⟨mret_bool HM.out, mbel hbw hb1 |>.setCell (Nat.le_refl _) _⟩
  | some k =>
    have hsi : starI (gs a) = (k : Int) := by unfold starI; rw [hst]
    rw [hsi] at HI
    have HL2 : Hid (∀ v, CallsIn Fence.wide (5 - 1) Tryd.prog 18 #[.string a, .int .u8 42] v fun e w' => ∃ m : Nat, e = .returned (.int .i64 m) ∧ Ends a k m ∧ w' = v) := fun v => (HL.out v).mono (by
      rintro e w' ⟨i, rfl, hi, rfl⟩
      obtain ⟨m, rfl, he⟩ := ends_of hst hi
      exact ⟨m, rfl, he, rfl⟩)
    clear hsi hst HL
    have k0 : (0 : Int) ≤ (k : Int) := by omega
    have bx := Bx.new w (.bool false) 4
    have hbw := (Below.refl w.heap.size w).alloc (Nat.le_refl _) (.cells #[.bool false] 4)
    gi_wp2_with (first | (refine ⟨trivial, ?_⟩; gi_at_call 17; refine (HI.out _).mono ?_; clear HI; rintro e w1 ⟨rfl, rfl⟩) | (refine ⟨trivial, ?_⟩; gi_at_call 18; refine (HL2.out _).mono ?_; clear HL2; rintro e w1 ⟨m, rfl, he, rfl⟩))
    obtain ⟨W0, hW0⟩ : ∃ W0, w.alloc (.cells #[.bool false] 4) = W0 := ⟨_, rfl⟩
    rw [hW0] at bx hbw ⊢
    have hkm := he.le
    have hma := he.lt
    have i1 : (k : Int) ≤ (a.size : Int) := by omega
    have i2 : (m : Int) + 1 ≤ (a.size : Int) := by omega
    have i3 : (0 : Int) ≤ (m : Int) + 1 := by omega
    have hw1 : IntKind.i64.wrap ((m : Int) + 1) = (m : Int) + 1 := by rw [IntKind.wrap_i64]; omega
    gi_quiet (fail)
    have bxd : Bx (W0.drewN nq) w.heap.size (.bool false) := ⟨bx.c, bx.f⟩
    have hbd : Below w.heap.size w (W0.drewN nq) := mbel hbw (mbel_dn _ _)
    have hsd : w.heap.size + 1 = (W0.drewN nq).heap.size := by rw [← hW0]; simp
    obtain ⟨W1, hW1⟩ : ∃ W1, W0.drewN nq = W1 := ⟨_, rfl⟩
    rw [hW1] at bxd hbd hsd ⊢
    clear bx hbw hW0 hW1
    have hmt := he.match (b := b)
    rw [hMS] at hmt
    obtain ⟨q, hq⟩ : ∃ q, a.size - (m + 1) = q := ⟨_, rfl⟩
    rw [hq] at hmt
    obtain ⟨H, hH⟩ : ∃ H, a.extract 0 k = H := ⟨_, rfl⟩
    obtain ⟨T, hT⟩ : ∃ T, a.extract (m + 1) a.size = T := ⟨_, rfl⟩
    have hHs : H.size = k := by rw [← hH, ByteArray.size_extract]; omega
    have hTs : T.size = q := by rw [← hT, ByteArray.size_extract]; omega
    have hHi : (H.size : Int) = (k : Int) := by omega
    have hTi : (T.size : Int) = (q : Int) := by omega
    rw [hH, hT] at hmt ⊢
    have hqa : q ≤ 1152921504606846975 := by omega
    have hwe : IntKind.i64.wrap ((b.size : Int) - (q : Int)) = (b.size : Int) - (q : Int) := by rw [IntKind.wrap_i64]; omega
    by_cases hend : k + q ≤ b.size
    · have e1 : ¬ ((b.size : Int) - (q : Int) < (k : Int)) := by omega
      obtain ⟨E, hE⟩ : ∃ E, b.size - q = E := ⟨_, rfl⟩
      have hEi : (b.size : Int) - (q : Int) = (E : Int) := by omega
      rw [hEi] at hwe e1
      rw [hE] at hmt
      have e2 : (k : Int) ≤ (b.size : Int) := by omega
      have e3 : (0 : Int) ≤ (E : Int) := by omega
      have e4 : (E : Int) ≤ (b.size : Int) := by omega
      have e5 : (k : Int) ≤ (E : Int) := by omega
      have HK1 : Hid (∀ v, CallsIn Fence.wide (5 - 1) Tryd.prog 19 #[.string H, .string (b.extract 0 k)] v fun e w' => e = .returned (.bool (fitsG (gs H) (gs (b.extract 0 k)))) ∧ Below v.heap.size v w') := fun v => callsIn_wide.2 (mfits_any H _ (by omega) (by rw [ByteArray.size_extract]; omega) v)
      have HK2 : Hid (∀ v, CallsIn Fence.wide (5 - 1) Tryd.prog 19 #[.string T, .string (b.extract E b.size)] v fun e w' => e = .returned (.bool (fitsG (gs T) (gs (b.extract E b.size)))) ∧ Below v.heap.size v w') := fun v => callsIn_wide.2 (mfits_any T _ (by omega) (by rw [ByteArray.size_extract]; omega) v)
      cases hF1 : fitsG (gs H) (gs (b.extract 0 k)) with
      | false =>
        rw [hF1] at hmt HK1
        have HM : Hid (MS = false) := by
          show MS = false
          cases MS
          · rfl
          · have := (hmt.1 rfl).2.1; simp at this
        clear HK2 hmt hF1
        gi_wp2_with ((refine ⟨trivial, ?_⟩; gi_at_call 19; with_reducible refine (HK1.out _).mono ?_; clear HK1; rintro e w1 ⟨rfl, hb1⟩; have bx1 := bxd.below hb1; have d1 := bx1.c; have d2 := bx1.f))
        refine ⟨trivial, ?_⟩
        gi_wp2
        refine ret_box (bx1.set _) ?_
        exact ⟨mret_bool HM.out.symm, (hbd.trans (hb1.mono (by omega))).setCell (p := ⟨w.heap.size, 0, none⟩) (Nat.le_refl _) _⟩
      | true =>
        rw [hF1] at hmt HK1
        cases hF2 : fitsG (gs T) (gs (b.extract E b.size)) with
        | false =>
          rw [hF2] at hmt HK2
          have HM : Hid (MS = false) := by
            show MS = false
            cases MS
            · rfl
            · have := (hmt.1 rfl).2.2.1; simp at this
          clear hmt hF1 hF2
          gi_wp2_with (first | (refine ⟨trivial, ?_⟩; gi_at_call 19; with_reducible refine (HK1.out _).mono ?_; clear HK1; rintro e w1 ⟨rfl, hb1⟩) | (refine ⟨trivial, ?_⟩; gi_at_call 19; with_reducible refine (HK2.out _).mono ?_; clear HK2; rintro e w2 ⟨rfl, hb2⟩; have bx2 := (bxd.below hb1).below hb2; have d1 := bx2.c; have d2 := bx2.f))
          refine ret_box (bx2.set _) ?_
          exact ⟨mret_bool HM.out.symm, (hbd.trans ((mbel hb1 hb2).mono (by omega))).setCell (p := ⟨w.heap.size, 0, none⟩) (Nat.le_refl _) _⟩
        | true =>
          rw [hF2] at hmt HK2
          have HM : Hid (MS = true ↔ Means (42 :: (gs (a.extract k (m + 1)) ++ [42])) (gs (b.extract k E))) := hmt.trans ⟨fun h => h.2.2.2, fun h => ⟨hend, rfl, rfl, h⟩⟩
          clear hmt hF1 hF2
          have HS : Hid (∀ v, CallsIn Fence.wide (5 - 1) Tryd.prog 20 #[.string (a.extract k (m + 1)), .string ⟨#[42]⟩] v fun e w' => e = .returned (.func (.func 35) #[] #[.pointer (some ⟨v.heap.size + 1, 0, none⟩), .pointer (some ⟨v.heap.size, 0, none⟩), .pointer (some ⟨v.heap.size + 2, 0, none⟩)]) ∧ w' = ((v.alloc (.cells #[.string (a.extract k (m + 1))] 9)).alloc (.cells #[.string ⟨#[42]⟩] 9)).alloc (.cells #[.int .i64 0] 3)) := fun v => callsIn_wide.2 (seq_any _ v)
          gi_wp2_with (first | (refine ⟨trivial, ?_⟩; gi_at_call 19; with_reducible refine (HK1.out _).mono ?_; clear HK1; rintro e w1 ⟨rfl, hb1⟩) | (refine ⟨trivial, ?_⟩; gi_at_call 19; with_reducible refine (HK2.out _).mono ?_; clear HK2; rintro e w2 ⟨rfl, hb2⟩; have bx2 := (bxd.below hb1).below hb2; have d1 := bx2.c; have d2 := bx2.f) | (refine ⟨trivial, ?_⟩; gi_at_call 20; with_reducible refine (HS.out _).mono ?_; clear HS; rintro e w3 ⟨rfl, rfl⟩))
          have hb3 := mbel hb1 hb2
          have bxa : Bx ((((w2.alloc (.cells #[.string (b.extract k E)] 9)).alloc (.cells #[.string (a.extract k (m + 1))] 9)).alloc (.cells #[.string ⟨#[42]⟩] 9)).alloc (.cells #[.int .i64 0] 3)) w.heap.size (.bool false) := (((bx2.alloc _).alloc _).alloc _).alloc _
          have hbe : Below w.heap.size w ((((w2.alloc (.cells #[.string (b.extract k E)] 9)).alloc (.cells #[.string (a.extract k (m + 1))] 9)).alloc (.cells #[.string ⟨#[42]⟩] 9)).alloc (.cells #[.int .i64 0] 3)) := by
            have h2 : Below w.heap.size w w2 := hbd.trans (hb3.mono (by omega))
            have hs := h2.size
            exact (((h2.alloc hs _).alloc (by simp; omega) _).alloc (by simp; omega) _).alloc (by simp; omega) _
          have hfour := four_new w2 (b.extract k E) (a.extract k (m + 1)) 9 3 (by rw [ByteArray.size_extract]; omega)
          have hwB : w.heap.size < w2.heap.size := bx2.lt
          obtain ⟨B, hB⟩ : ∃ B, w2.heap.size = B := ⟨_, rfl⟩
          obtain ⟨W3, hW3⟩ : ∃ W3, ((((w2.alloc (.cells #[.string (b.extract k E)] 9)).alloc (.cells #[.string (a.extract k (m + 1))] 9)).alloc (.cells #[.string ⟨#[42]⟩] 9)).alloc (.cells #[.int .i64 0] 3)) = W3 := ⟨_, rfl⟩
          rw [hW3] at bxa hbe hfour ⊢
          rw [hB] at hfour hwB ⊢
          obtain ⟨bxb, hsq, hsz3⟩ := hfour
          have hXs : (b.extract k E).size ≤ 1152921504606846975 := by rw [ByteArray.size_extract]; omega
          clear hW3 hB d1 d2 bx2 hb1 hb2 hb3 bxd hbd
          refine wpIn_range_split (S := B + 1) (T := B + 1 + 1) (U := B + 1 + 2) (by omega) rfl (Mt w w.heap.size B (B + 1) (B + 1 + 1) (B + 1 + 2) MS) (Mo w w.heap.size MS true) (Mo w w.heap.size MS false) (fun r W h => h.sq)
            (fun r => Mt.stays r (by rw [hsz3]; omega)) (Mo.stays _ (by rw [hsz3]; omega)) (Mo.stays _ (by rw [hsz3]; omega)) ⟨by omega, by omega, by omega⟩ (a.extract k (m + 1)) ⟨hsq, bxa, hbe, _, hXs, bxb, HM.out⟩
            (fun x => { tmps := #[.string a, .string b, undef, undef, .pointer (some ⟨w.heap.size, 0, none⟩), .int .i64 (k : Int), .int .i64 (m : Int), .string H, .string T, .int .i64 (E : Int), .pointer (some ⟨B, 0, none⟩), .string x, undef, undef, .string a, .int .i64 (k : Int), .string a, .int .i64 (m : Int), .int .i64 (k : Int), .bool (decide ((k : Int) < 0)), undef, undef, undef, .string a, .int .i64 (k : Int), .string H, .string a, .int .i64 (m : Int), .int .i64 ((m : Int) + 1), .string T, .string b, .int .i64 (b.size : Int), .string T, .int .i64 (q : Int), .int .i64 (E : Int), .int .i64 (E : Int), .string H, .int .i64 (k : Int), .bool false, .bool false, .string H, .string b, .string H, .int .i64 (k : Int), .string (b.extract 0 k), .bool true, .bool false, .bool false, .bool false, .string T, .string b, .int .i64 (E : Int), .string (b.extract E b.size), .bool true, .bool false, .bool false, .string b, .string H, .int .i64 (k : Int), .int .i64 (E : Int), .string (b.extract k E), .string a, .int .i64 (k : Int), .int .i64 (m : Int), .int .i64 ((m : Int) + 1), .string (a.extract k (m + 1)), .func (.func 35) #[] #[.pointer (some ⟨B + 1 + 1, 0, none⟩), .pointer (some ⟨B + 1, 0, none⟩), .pointer (some ⟨B + 1 + 2, 0, none⟩)], .string x, undef, undef, undef, undef, undef, undef, undef, undef, undef, undef, undef, undef, undef, undef], defers := [] }) ?assign ?b1 ?b2 ?done ?stop
          case assign =>
            intro l x W K hK
            gi_wp2
            exact hK
          case b1 =>
            rintro l r j W hm hj
            obtain ⟨hpl, hgr, hps⟩ := star_piece hj
            obtain ⟨P, hP⟩ : ∃ P, r.extract 0 j = P := ⟨_, rfl⟩
            rw [hP] at hpl hgr hps ⊢
            obtain ⟨sq, ca, be, x, hx, cb, hms⟩ := hm
            have hrs := sq.size
            have hPs : P.size ≤ 1152921504606846975 := by omega
            have c1 := cb.c
            have c2 := cb.f
            rcases first_fit (gs P) (gs x) with ⟨α, h1, h2⟩ | hn
            · have HF : Hid (∀ v, CallsIn (Fence.wide.inRound l) (5 - 1 - 1 - 1) Tryd.prog 21 #[.string P, .string x] v fun e w' => e = .returned (.tuple #[.int .i64 α, .bool true]) ∧ Below v.heap.size v w') := fun v => CallsIn.inRound l (callsIn_wide.2 (mfind_yes P x hPs hx α h1 h2 v))
              have hα := h1.1
              rw [gs_length, gs_length] at hα
              have HM2 : Hid (MS = true ↔ Means (42 :: (gs (aft r j) ++ [42])) (gs (x.extract (α + P.size) x.size))) := by
                refine hms.trans ?_
                rw [hgr, List.append_assoc, List.cons_append, step_some hpl h1 h2, gs_length, gs_from]
              have i1 : (α : Int) + (P.size : Int) ≤ (x.size : Int) := by omega
              have i2 : (0 : Int) ≤ (α : Int) + (P.size : Int) := by omega
              have hw2 : IntKind.i64.wrap ((α : Int) + (P.size : Int)) = (α : Int) + (P.size : Int) := by rw [IntKind.wrap_i64]; omega
              have hxs : (x.extract (α + P.size) x.size).size ≤ 1152921504606846975 := by rw [ByteArray.size_extract]; omega
              clear hms hgr hpl h1 h2
              gi_wp2_with (refine ⟨trivial, ?_⟩; gi_at_call 21; with_reducible refine (HF.out _).mono ?_; clear HF; rintro e w1 ⟨rfl, hb1⟩; have bx1 := cb.below hb1; have d1 := bx1.c; have d2 := bx1.f)
              refine ⟨(keeps_below hb1).trans (KeepsOthers.setCell _ _ _), (sq.below hb1).other (by omega) (by omega) (by omega) _, ?_⟩
              have sq1 := (sq.below hb1).other (C := B) (by omega) (by omega) (by omega) (.string (x.extract (α + P.size) x.size))
              refine ⟨sq1.step (by omega) (by omega) j, ((ca.below hb1).other (by omega) _).other (by omega) _, ?_, _, hxs, (bx1.set _).other (by omega) _, HM2.out⟩
              have hbz := hb1.size
              have hbe := be.size
              exact ((be.trans (hb1.mono be.size)).setCell (p := ⟨B, 0, none⟩) (by show w.heap.size ≤ B; omega) _).setCell (p := ⟨B + 1, 0, none⟩) (by show w.heap.size ≤ B + 1; omega) _
            · have HF : Hid (∀ v, CallsIn (Fence.wide.inRound l) (5 - 1 - 1 - 1) Tryd.prog 21 #[.string P, .string x] v fun e w' => e = .returned (.tuple #[.int .i64 0, .bool false]) ∧ Below v.heap.size v w') := fun v => CallsIn.inRound l (callsIn_wide.2 (mfind_no P x hPs hx hn v))
              have HM2 : Hid (MS = false) := by
                show MS = false
                cases MS
                · rfl
                · exfalso
                  have := hms.1 rfl
                  rw [hgr, List.append_assoc, List.cons_append] at this
                  exact step_none hpl hn this
              clear hms hgr hpl hn
              gi_wp2_with (refine ⟨trivial, ?_⟩; gi_at_call 21; with_reducible refine (HF.out _).mono ?_; clear HF; rintro e w1 ⟨rfl, hb1⟩; have bx1 := ca.below hb1; have d1 := bx1.c; have d2 := bx1.f)
              exact ⟨(keeps_below hb1).trans (KeepsOthers.setCell _ _ _), bx1.set _, (be.trans (hb1.mono be.size)).setCell (p := ⟨w.heap.size, 0, none⟩) (Nat.le_refl _) _, HM2.out⟩
          case b2 =>
            rintro l r W hm hj
            have hpl := star_none hj
            obtain ⟨sq, ca, be, x, hx, cb, hms⟩ := hm
            have hrs := sq.size
            have c1 := cb.c
            have c2 := cb.f
            rcases first_fit (gs r) (gs x) with ⟨α, h1, h2⟩ | hn
            · have HF : Hid (∀ v, CallsIn (Fence.wide.inRound l) (5 - 1 - 1 - 1) Tryd.prog 21 #[.string r, .string x] v fun e w' => e = .returned (.tuple #[.int .i64 α, .bool true]) ∧ Below v.heap.size v w') := fun v => CallsIn.inRound l (callsIn_wide.2 (mfind_yes r x hrs hx α h1 h2 v))
              have hα := h1.1
              rw [gs_length, gs_length] at hα
              have HM2 : Hid (MS = true) := by
                refine hms.2 ?_
                rw [step_some hpl h1 h2]
                exact means_all _
              have i1 : (α : Int) + (r.size : Int) ≤ (x.size : Int) := by omega
              have i2 : (0 : Int) ≤ (α : Int) + (r.size : Int) := by omega
              have hw2 : IntKind.i64.wrap ((α : Int) + (r.size : Int)) = (α : Int) + (r.size : Int) := by rw [IntKind.wrap_i64]; omega
              clear hms hpl h1 h2
              gi_wp2_with (refine ⟨trivial, ?_⟩; gi_at_call 21; with_reducible refine (HF.out _).mono ?_; clear HF; rintro e w1 ⟨rfl, hb1⟩; have bx1 := cb.below hb1; have d1 := bx1.c; have d2 := bx1.f)
              exact ⟨(keeps_below hb1).trans (KeepsOthers.setCell _ _ _), (ca.below hb1).other (by omega) _, (be.trans (hb1.mono be.size)).setCell (p := ⟨B, 0, none⟩) (by show w.heap.size ≤ B; omega) _, HM2.out⟩
            · have HF : Hid (∀ v, CallsIn (Fence.wide.inRound l) (5 - 1 - 1 - 1) Tryd.prog 21 #[.string r, .string x] v fun e w' => e = .returned (.tuple #[.int .i64 0, .bool false]) ∧ Below v.heap.size v w') := fun v => CallsIn.inRound l (callsIn_wide.2 (mfind_no r x hrs hx hn v))
              have HM2 : Hid (MS = false) := by
                show MS = false
                cases MS
                · rfl
                · exact absurd (hms.1 rfl) (step_none hpl hn)
              clear hms hpl hn
              gi_wp2_with (refine ⟨trivial, ?_⟩; gi_at_call 21; with_reducible refine (HF.out _).mono ?_; clear HF; rintro e w1 ⟨rfl, hb1⟩; have bx1 := ca.below hb1; have d1 := bx1.c; have d2 := bx1.f)
              exact ⟨(keeps_below hb1).trans (KeepsOthers.setCell _ _ _), bx1.set _, (be.trans (hb1.mono be.size)).setCell (p := ⟨w.heap.size, 0, none⟩) (Nat.le_refl _) _, HM2.out⟩
          case done =>
            rintro D W hD ⟨hca, hbl, hms⟩ hK
            have d1 := hca.c
            have d2 := hca.f
            gi_wp2
            refine ret_mark (hca.set _) ((KeepsOthers.setCell _ _ _).same D _ hK rfl) ⟨mret_bool hms.symm, below_put (hbl.setCell (p := ⟨w.heap.size, 0, none⟩) (Nat.le_refl _) _) (by omega) _⟩
          case stop =>
            rintro D W hD ⟨hca, hbl, hms⟩ hK
            gi_wp2
            refine ret_mark hca hK ⟨mret_bool hms.symm, below_put hbl (by omega) _⟩
    · have e1 : (b.size : Int) - (q : Int) < (k : Int) := by omega
      have HM : Hid (MS = false) := by
        show MS = false
        cases MS
        · rfl
        · exact absurd (hmt.1 rfl).1 hend
      clear hmt
      have d1 := bxd.c
      have d2 := bxd.f
      gi_wp2
      refine ⟨trivial, ?_⟩
      gi_wp2
      refine ⟨trivial, ?_⟩
      gi_wp2
      refine ret_box (bxd.set _) ?_
      exact ⟨mret_bool HM.out.symm, hbd.setCell (p := ⟨w.heap.size, 0, none⟩) (Nat.le_refl _) _⟩

theorem mMatch_any (a b : ByteArray) (ha : a.size ≤ 1152921504606846975) (hb : b.size ≤ 1152921504606846975) (w : World) :
    Calls Tryd.prog 8 #[.string a, .string b] w fun e w' => e = .returned (.bool (matchP (gs a) (gs b))) ∧ Below w.heap.size w w' := callsIn_wide.1 (mMatch_in a b ha hb w)

end Go.Proofs.YtnhpnmilgcjeaaaDoor
