import Derived.Test.YtmiidhgbdecdkaaGreatPart5
import Derived.Test.YtmiidhgbdecdkaaGreatPart2
import Derived.Test.YtmiidhgbdecdkaaGreatPart1
import Derived.ChangeKeysEq
namespace Go.Proofs.YtmiidhgbdecdkaaGreat
open Go.RowKit
set_option linter.unusedVariables false
set_option linter.unusedSimpArgs false
theorem OffS.sameSize {S : Blk} {w w' : World} (h : OffS S w w') (hz : w'.heap.size = w.heap.size) {x : Nat} (hx : ¬ S x) : w'.heap[x]? = w.heap[x]? := by
 rcases Nat.lt_or_ge x w.heap.size with c | c
 ·exact h.2.2.2.2 x c hx
 ·rw [Array.getElem?_eq_none c, Array.getElem?_eq_none (by omega)]
def PlcTo (N : Nat) : Prop := ∀ (t : Nd) (b o : Nat) (S : Blk) (a : Int) (cs : Array Value) (T : TypeId) (w : World), dep t ≤ N → cnt t ≤ 40000 → NO w b o t S → ¬ S b → w.heap[b]? = some (.cells cs T) →
 Calls Tryz.prog 84 #[.pointer (some ⟨b, o, none⟩), .int .i64 a] w fun e w' => (∃ v, e = .returned v) ∧ NO w' b o (placeN t a) S ∧ OffS (fun j => S j ∨ j = b) w w' ∧ w'.heap.size = w.heap.size ∧ w'.heap[b]? = some (.cells (cs.setIfInBounds (o + 6) (.int .i64 a)) T)
def PlRow (wr : World) (l : List Nd) (a : Int) (p : Option Addr) (S : Blk) (j : Nat) : Prop :=
 (l = [] ∧ p = none) ∨ ∃ b' ds, ∃ F : Nat → Blk, p = some ⟨b', 0, none⟩ ∧ S b' ∧ wr.heap[b']? = some (.cells ds 29) ∧ (∀ i k x, i ≠ k → F i x → F k x → False) ∧ (∀ i x, F i x → S x ∧ x ≠ b') ∧ ∀ i (h : i < l.length), NO wr b' (0 + i * 7) (if i < j then placeN l[i] a else l[i]) (F i)
set_option maxRecDepth 100000 in
set_option maxHeartbeats 1000000 in
theorem plc_to : ∀ N, PlcTo N := by
 intro N
 induction N with
 | zero => intro t b o S a cs T w hd; unfold dep at hd; omega
 | succ N ih =>
  intro t b o S a cs T w hd hc hno hSb hcs
  have hlen : t.args.length ≤ 40000 := by have := cntL_len t.args; unfold cnt at hc; omega
  obtain ⟨n, hnn⟩ : ∃ n, t.args.length = n := ⟨_, rfl⟩
  have HN : Hid (t.args.length = n) := hnn
  obtain ⟨e0, e1, e2, e3, e4, e6, sv, e5, hk⟩ := hno
  obtain ⟨p, c, rfl, hp⟩ := hk
  have f6 := (at_cell hcs (o + 6) (u := .int .i64 t.at_) (by rw [← cell_heap hcs]; exact e6)).2
  have hb0 : (w.setCell ⟨b, o + 6, none⟩ (.int .i64 a)).heap[b]? = some (.cells (cs.setIfInBounds (o + 6) (.int .i64 a)) T) := heap_setAt hcs (o + 6) _
  have hoff0 : OffS (fun j => S j ∨ j = b) w (w.setCell ⟨b, o + 6, none⟩ (.int .i64 a)) := (OffS.refl _ w).set (fun _ => .inr rfl) _
  have hsz0 : (w.setCell ⟨b, o + 6, none⟩ (.int .i64 a)).heap.size = w.heap.size := by simp [World.setCell]
  have h50 : (w.setCell ⟨b, o + 6, none⟩ (.int .i64 a)).cell? ⟨b, o + 5, none⟩ = some (.slice p n c) := by
   rw [cell_heap hb0, Array.getElem?_setIfInBounds, if_neg (by omega), ← cell_heap hcs, ← hnn]
   exact e5
  have hrow0 : PlRow (w.setCell ⟨b, o + 6, none⟩ (.int .i64 a)) t.args a p S 0 := by
   rcases hp with ⟨g1, g2, g3⟩ | ⟨b', ds, g1, g2, g3, g4, g5⟩
   ·exact .inl ⟨g1, g2⟩
   ·obtain ⟨F, f1, f2, f3⟩ := OT_at _ _ _ _ g5.2
    have hne : b' ≠ b := fun e => hSb (e ▸ g2)
    refine .inr ⟨b', ds, F, g1, g2, by rw [Below.heap_setCell _ _ _ _ (by exact hne)]; exact g3, f1, f2, fun i hi => ?_⟩
    rw [if_neg (Nat.not_lt_zero _)]
    exact (f3 i hi).keep (fun x hx => Below.heap_setCell _ _ _ _ (by show x ≠ b; intro e; exact hSb (e ▸ (f2 i x hx).1))) fun k _ => World.cell?_of_block (w := w) (Below.heap_setCell _ _ _ _ (by exact hne))
  have HC : Hid (w.cell? ⟨b, o, none⟩ = some (.int .i64 t.kind) ∧ w.cell? ⟨b, o + 1, none⟩ = some (.string t.name) ∧ w.cell? ⟨b, o + 2, none⟩ = some (.int .u32 t.num) ∧ w.cell? ⟨b, o + 3, none⟩ = some (.int .i64 t.int_) ∧ w.cell? ⟨b, o + 4, none⟩ = some (.string t.key) ∧ w.cell? ⟨b, o + 6, none⟩ = some (.int .i64 t.at_)) := ⟨e0, e1, e2, e3, e4, e6⟩
  have HS0 : Hid (OffS (fun j => S j ∨ j = b) w (w.setCell ⟨b, o + 6, none⟩ (.int .i64 a)) ∧ (w.setCell ⟨b, o + 6, none⟩ (.int .i64 a)).heap.size = w.heap.size ∧ (w.setCell ⟨b, o + 6, none⟩ (.int .i64 a)).heap[b]? = some (.cells (cs.setIfInBounds (o + 6) (.int .i64 a)) T) ∧ PlRow (w.setCell ⟨b, o + 6, none⟩ (.int .i64 a)) t.args a p S 0) := ⟨hoff0, hsz0, hb0, hrow0⟩
  have HIH : Hid (PlcTo N) := ih
  have HD : Hid (dep t ≤ N + 1 ∧ cnt t ≤ 40000) := ⟨hd, hc⟩
  have HCS : Hid (w.heap[b]? = some (.cells cs T)) := hcs
  have HH5 : Hid ((w.setCell ⟨b, o + 6, none⟩ (.int .i64 a)).cell? ⟨b, o + 5, none⟩ = some (.slice p n c)) := h50
  have HPC : Hid (t.args ≠ [] → t.args.length ≤ c) := by
   rcases hp with ⟨g1, g2, g3⟩ | ⟨b', ds, g1, g2, g3, g4, g5⟩
   ·exact fun h => absurd g1 h
   ·exact fun _ => g5.1
  have HP : Hid (t.args = [] → p = none ∧ c = 0) := by
   rcases hp with ⟨g1, g2, g3⟩ | ⟨b', ds, g1, g2, g3, g4, g5⟩
   ·exact fun _ => ⟨g2, g3⟩
   ·exact fun e => absurd e g4
  rw [hnn] at hlen
  clear hnn hp hoff0 hsz0 hrow0 hb0 ih hd hc e5 hcs e0 e1 e2 e3 e4
  go_enter Tryz.func84, Tryz.ntmps84
  go_wp2
  go_loopw [14] (fun iv wr => ∃ j : Nat, j ≤ n ∧ iv = .int .i64 j ∧ wr.cell? ⟨b, o + 5, none⟩ = some (.slice p n c) ∧ Hid (OffS (fun j => S j ∨ j = b) w wr ∧ wr.heap.size = w.heap.size ∧ wr.heap[b]? = some (.cells (cs.setIfInBounds (o + 6) (.int .i64 a)) T) ∧ PlRow wr t.args a p S j)) (fun iv _ => n - (intOf iv).toNat)
  case atStart => exact ⟨0, Nat.zero_le _, rfl, HH5.out, HS0.out⟩
  case round =>
   obtain ⟨j, hj, rfl, hx5, hS⟩ := hrel
   clear HS0 HH5 h50
   by_cases hlt0 : j < n
   ·obtain ⟨hoff, hsz, hbr, hrow⟩ := hS.out
    have hll : j < t.args.length := by rw [HN.out]; exact hlt0
    obtain ⟨b', ds, F, rfl, hb1, hb2, f1, f2, f3⟩ : ∃ b' ds, ∃ F : Nat → Blk, p = some ⟨b', 0, none⟩ ∧ S b' ∧ wr.heap[b']? = some (.cells ds 29) ∧ (∀ i k x, i ≠ k → F i x → F k x → False) ∧ (∀ i x, F i x → S x ∧ x ≠ b') ∧ ∀ i (h : i < t.args.length), NO wr b' (0 + i * 7) (if i < j then placeN t.args[i] a else t.args[i]) (F i) := by
     rcases hrow with ⟨e, -⟩ | e
     ·rw [e] at hll; exact absurd hll (Nat.not_lt_zero _)
     ·exact e
    have hne : b ≠ b' := fun e => hSb (e ▸ hb1)
    have HW : Hid (Calls Tryz.prog 84 #[.pointer (some ⟨b', j * 7, none⟩), .int .i64 a] wr fun e w3 => (∃ v, e = .returned v) ∧ w3.cell? ⟨b, o + 5, none⟩ = some (.slice (some ⟨b', 0, none⟩) n c) ∧ (OffS (fun j => S j ∨ j = b) w w3 ∧ w3.heap.size = w.heap.size ∧ w3.heap[b]? = some (.cells (cs.setIfInBounds (o + 6) (.int .i64 a)) T) ∧ PlRow w3 t.args a (some ⟨b', 0, none⟩) S (j + 1))) := by
     have h0 := f3 j hll
     rw [if_neg (Nat.lt_irrefl _), Nat.zero_add] at h0
     refine (HIH.out t.args[j] b' (j * 7) (F j) a ds 29 wr (by have h1 := dep_get hll; have h2 := HD.out.1; unfold dep at h1 h2; unfold dep; omega) (by have h1 := cnt_get hll; have h2 := HD.out.2; unfold cnt at h2; omega) h0 (fun e => (f2 j b' e).2 rfl) hb2).mono fun e w3 ⟨he, k1, k2, k3, k4⟩ => ?_
     have hbb : w3.heap[b]? = wr.heap[b]? := k2.sameSize k3 fun h => h.elim (fun h => hSb (f2 j b h).1) hne
     refine ⟨he, ?_, hoff.trans (k2.sub fun x _ hx => ?_), k3.trans hsz, hbb.trans hbr, .inr ⟨b', _, F, rfl, hb1, k4, f1, f2, fun i hi => ?_⟩⟩
     ·rw [World.cell?_of_block (w := wr) (a := ⟨b, o + 5, none⟩) hbb]
      exact hx5
     ·rcases hx with hx | rfl
      ·exact .inl (f2 j x hx).1
      ·exact .inl hb1
     ·by_cases e : i = j
      ·subst e
       rw [if_pos (Nat.lt_succ_self _), Nat.zero_add]
       exact k1
      ·rw [show (if i < j + 1 then placeN t.args[i] a else t.args[i]) = (if i < j then placeN t.args[i] a else t.args[i]) from by
        by_cases c : i < j
        ·rw [if_pos c, if_pos (by omega)]
        ·rw [if_neg c, if_neg (by omega)]]
       refine (f3 i hi).keep (fun x hx => k2.sameSize k3 fun h => h.elim (fun h => f1 i j x e hx h) (f2 i x hx).2) fun k hk => ?_
       rw [cell_heap k4, cell_heap hb2, Array.getElem?_setIfInBounds, if_neg (by omega)]
    have i1 : (0 : Int) ≤ (j : Int) := by omega
    have i2 : (j : Int) < (n : Int) := by omega
    clear hrow hoff hsz hbr hS hb2 f1 f2 f3 HIH HD HCS HC
    go_wp2_with (go_at_call 84; (with_reducible refine HW.out.mono ?_); rintro e w3 ⟨⟨ev, rfl⟩, hx3, hs3⟩; have HS3 : Hid (OffS (fun j => S j ∨ j = b) w w3 ∧ w3.heap.size = w.heap.size ∧ w3.heap[b]? = some (.cells (cs.setIfInBounds (o + 6) (.int .i64 a)) T) ∧ PlRow w3 t.args a (some ⟨b', 0, none⟩) S (j + 1)) := hs3; clear hs3)
    go_roundw
    case rel => exact ⟨j + 1, by omega, by go_num, hx3, HS3.out⟩
    case measure => simp [intOf]; omega
   ·have : j = n := by omega
    subst this
    have i2 : ¬ ((j : Int) < (j : Int)) := by omega
    go_wp2
    refine bodyPost_end (by simp [results, Tryz.results84, go_sem]; try rfl) rfl ?_
    obtain ⟨hoff, hsz, hbr, hrow⟩ := hS.out
    obtain ⟨e0, e1, e2, e3, e4, e6⟩ := HC.out
    have cell : ∀ q, q ≠ o + 6 → wr.cell? ⟨b, q, none⟩ = w.cell? ⟨b, q, none⟩ := fun q hq => by
     rw [cell_heap hbr, cell_heap HCS.out, Array.getElem?_setIfInBounds, if_neg (by omega)]
    have hsize : o + 6 < cs.size := by
     rw [cell_heap HCS.out] at e6
     exact (Array.getElem?_eq_some_iff.1 e6).1
    refine ⟨⟨_, rfl⟩, ⟨(cell _ (by omega)).trans e0, (cell _ (by omega)).trans e1, (cell _ (by omega)).trans e2, (cell _ (by omega)).trans e3, (cell _ (by omega)).trans e4, ?_, _, hx5, ?_⟩, hoff, hsz, hbr⟩
    ·rw [cell_heap hbr, Array.getElem?_setIfInBounds, if_pos rfl, if_pos hsize]
     rfl
    ·refine ⟨p, c, by rw [show (placeN t a).args = placeL a t.args from rfl, placeL_map, List.length_map, HN.out], ?_⟩
     rw [show (placeN t a).args = placeL a t.args from rfl, placeL_map]
     rcases hrow with ⟨g1, g2⟩ | ⟨b', ds, F, g1, g2, g3, f1, f2, f3⟩
     ·exact .inl ⟨by rw [g1]; rfl, HP.out g1⟩
     ·by_cases hnil : t.args = []
      ·exact .inl ⟨by rw [hnil]; rfl, HP.out hnil⟩
      ·refine .inr ⟨b', ds, g1, g2, g3, by simpa using hnil, by rw [List.length_map]; exact HPC.out hnil, OT_of _ _ _ _ F f1 (fun i x hx => f2 i x hx) fun i hi => ?_⟩
       have hi' : i < t.args.length := by simpa using hi
       have := f3 i hi'
       rw [if_pos (by rw [← HN.out]; exact hi')] at this
       rw [List.getElem_map]
       exact this
end Go.Proofs.YtmiidhgbdecdkaaGreat
namespace Go.Proofs.YtmiidhgbdecdkaaGreat
open Go.RowKit
set_option linter.unusedVariables false
set_option linter.unusedSimpArgs false
def RowO (w : World) (C : Nat) (v : Value) (l : List Nd) (R : List (Nd × Value)) (F : Nat → Blk) : Prop :=
 R.map (fun r => r.1) = l ∧ w.ownsRow C 29 7 v l.length (cellsN R) ∧ (∀ i (h : i < R.length), Ow w R[i].2 R[i].1.args (F i)) ∧ (∀ i j x, i ≠ j → F i x → F j x → False) ∧ (∀ i x, F i x → C ≤ x ∧ x < w.heap.size ∧ some x ≠ v.ownBlock) ∧ (∀ i x, R.length ≤ i → ¬ F i x) ∧ (l = [] → v = .slice none 0 0)
theorem RowO.nil (w : World) (C : Nat) : RowO w C (.slice none 0 0) [] [] (fun _ _ => False) := ⟨rfl, World.ownsRow_nil w C _ 7, fun i h => absurd h (Nat.not_lt_zero _), fun _ _ _ _ h => h.elim, fun _ _ h => h.elim, fun _ _ _ h => h, fun _ => rfl⟩
theorem RowO.keep {w w' : World} {C : Nat} {v : Value} {l : List Nd} {R : List (Nd × Value)} {F : Nat → Blk} (h : RowO w C v l R F) (hs : w.heap.size ≤ w'.heap.size) (k : ∀ b, C ≤ b → b < w.heap.size → w'.heap[b]? = w.heap[b]?) : RowO w' C v l R F := by
 obtain ⟨h1, ⟨h2, h2'⟩, h3, h4, h5, h6, h7⟩ := h
 refine ⟨h1, ⟨h2, ?_⟩, fun i hi => (h3 i hi).keep fun j hj => k j (h5 i j hj).1 (h5 i j hj).2.1, h4, fun i x hx => ⟨(h5 i x hx).1, by have := (h5 i x hx).2.1; omega, (h5 i x hx).2.2⟩, h6, h7⟩
 rcases h2' with h2' | ⟨g, cap, cur, e1, e2, e3, e4⟩
 ·exact .inl h2'
 ·exact .inr ⟨g, cap, cur, e1, e2, by rw [k g e2 (hlt e3)]; exact e3, e4⟩
theorem RowO.below {w w' : World} {C : Nat} {v : Value} {l : List Nd} {R : List (Nd × Value)} {F : Nat → Blk} (h : RowO w C v l R F) (k : Below w.heap.size w w') : RowO w' C v l R F := h.keep k.size fun b _ hb => k.block b hb
theorem RowO.set {w : World} {C : Nat} {v : Value} {l : List Nd} {R : List (Nd × Value)} {F : Nat → Blk} (h : RowO w C v l R F) {O : Nat} (hO : O < C) (i : Nat) (x : Value) : RowO (w.setCell ⟨O, i, none⟩ x) C v l R F :=
 h.keep (by simp [World.setCell]) fun b hb _ => Below.heap_setCell _ _ _ _ (by show b ≠ O; omega)
theorem RowO.lt {w : World} {C : Nat} {v : Value} {l : List Nd} {R : List (Nd × Value)} {F : Nat → Blk} (h : RowO w C v l R F) {g : Nat} (hg : v.ownBlock = some g) : C ≤ g ∧ g < w.heap.size := h.2.1.lt g hg
theorem RowO.push {w w1 w2 : World} {C : Nat} {v : Value} {l : List Nd} {R : List (Nd × Value)} {F : Nat → Blk} {t : Nd} {s : Value} {S : Blk} {x : Obj} {g cap : Nat} (h : RowO w C v l R F) (hC : C ≤ w.heap.size) (hb : Below w.heap.size w w1) (hs : Ow w1 s t.args S) (hS : ∀ j, S j → w.heap.size ≤ j ∧ j < w1.heap.size)
  (hg : (w1.alloc x).grownBy w2 v.ownBlock) (hat : v.ownBlock = some g ∨ g = w1.heap.size + 1) (hown : w2.ownsRow C 29 7 (.slice (some ⟨g, 0, none⟩) (l.length + 1) cap) (l.length + 1) (cellsN R ++ nodeCells t s)) :
  RowO w2 C (.slice (some ⟨g, 0, none⟩) (l.length + 1) cap) (l ++ [t]) (R ++ [(t, s)]) (fun i => if i = R.length then S else F i) := by
 have hsz : w1.heap.size ≤ w2.heap.size := by have := hg.size; simp at this; omega
 have ob : ∀ k, v.ownBlock = some k → C ≤ k ∧ k < w.heap.size := fun k hk => h.lt hk
 have kk : ∀ b, b < w1.heap.size → some b ≠ v.ownBlock → w2.heap[b]? = w1.heap[b]? := fun b h1 h2 => by
  rw [hg.block b (by simp; omega) h2, (bel_alloc w1 x).block b h1]
 obtain ⟨h1, h2, h3, h4, h5, h6, h7⟩ := h
 refine ⟨by rw [List.map_append, h1]; rfl, by rw [List.length_append, cellsN_snoc]; exact hown, fun i hi => ?_, ?_, ?_, ?_, fun e => by simp at e⟩
 ·by_cases e : i = R.length
  ·subst e
   have e2 : (R ++ [(t, s)])[R.length] = (t, s) := by rw [List.getElem_append_right (Nat.le_refl _)]; simp
   rw [e2]
   show Ow w2 s t.args (if R.length = R.length then S else F R.length)
   rw [if_pos rfl]
   exact hs.keep fun j hj => kk j (hS j hj).2 fun e => by have := (ob j e.symm).2; have := (hS j hj).1; omega
  ·have hi' : i < R.length := by simp at hi; omega
   show Ow w2 _ _ (if i = R.length then S else F i)
   rw [if_neg e, List.getElem_append_left hi']
   exact (h3 i hi').keep fun j hj => by
    have := (h5 i j hj)
    rw [kk j (by have := hb.size; omega) this.2.2]
    exact hb.block j this.2.1
 ·intro i j y hij hi hj
  change (if i = R.length then S else F i) y at hi
  change (if j = R.length then S else F j) y at hj
  by_cases ei : i = R.length
  ·rw [if_pos ei] at hi
   rw [if_neg (by omega)] at hj
   have := (h5 j y hj).2.1
   have := (hS y hi).1
   omega
  ·rw [if_neg ei] at hi
   by_cases ej : j = R.length
   ·rw [if_pos ej] at hj
    have := (h5 i y hi).2.1
    have := (hS y hj).1
    omega
   ·rw [if_neg ej] at hj
    exact h4 i j y hij hi hj
 ·intro i y hi
  change (if i = R.length then S else F i) y at hi
  have key : (C ≤ y ∧ y < w1.heap.size) ∧ some y ≠ v.ownBlock := by
   by_cases ei : i = R.length
   ·rw [if_pos ei] at hi
    have := hS y hi
    exact ⟨⟨by omega, this.2⟩, fun e => by have := (ob y e.symm).2; omega⟩
   ·rw [if_neg ei] at hi
    have := h5 i y hi
    exact ⟨⟨this.1, by have := hb.size; omega⟩, this.2.2⟩
  refine ⟨key.1.1, by omega, fun e => ?_⟩
  have eg : y = g := Option.some.inj e
  rcases hat with hat | hat
  ·exact key.2 (by rw [hat, eg])
  ·omega
 ·intro i y hi
  show ¬ (if i = R.length then S else F i) y
  rw [List.length_append] at hi
  rw [if_neg (by simp at hi; omega)]
  exact h6 i y (by simp at hi; omega)
theorem RowO.ow {w : World} {C : Nat} {v : Value} {l : List Nd} {R : List (Nd × Value)} {F : Nat → Blk} (h : RowO w C v l R F) : ∃ S : Blk, Ow w v l S ∧ ∀ j, S j → C ≤ j ∧ j < w.heap.size := by
 have hall := h
 obtain ⟨h1, ⟨hl, ho⟩, h3, h4, h5, h6, h7⟩ := h
 refine ⟨fun x => v.ownBlock = some x ∨ ∃ i, F i x, ?_, fun j hj => ?_⟩
 ·rcases ho with ⟨hv, hn⟩ | ⟨g, cap, cur, hv, hB, hg, hc1, hc2, hsz, htk⟩
  ·have : l = [] := List.eq_nil_of_length_eq_zero hn
   subst this
   exact ⟨none, 0, hv, .inl ⟨rfl, rfl, rfl⟩⟩
  ·have hRl : R.length = l.length := by rw [← h1]; simp
   by_cases hnil : l = []
   ·subst hnil
    have := h7 rfl
    rw [this] at hv
    cases hv
   ·refine ⟨some ⟨g, 0, none⟩, cap, hv, .inr ⟨g, cur, rfl, .inl (by rw [hv]; rfl), hg, hnil, hc1, OT_of _ _ _ _ F h4 (fun i x hx => ⟨.inr ⟨i, hx⟩, fun e => (h5 i x hx).2.2 (by rw [hv, e]; rfl)⟩) fun i hi => ?_⟩⟩
    have hi' : i < R.length := by omega
    have he : l[i] = R[i].1 := by
     have := List.getElem_map (fun r : Nd × Value => r.1) (l := R) (i := i) (h := by simpa using hi')
     rw [← this]
     simp [h1]
    have key : ∀ k, k < 7 → w.cell? ⟨g, 0 + i * 7 + k, none⟩ = (nodeCells R[i].1 R[i].2)[k]? := fun k hk => by
     rw [← cellsN_at R i k hi' hk, ← htk, Nat.zero_add, List.getElem?_take_of_lt (by omega)]
     simp [World.cell?, hg]
    rw [he]
    exact ⟨key 0 (by decide), key 1 (by decide), key 2 (by decide), key 3 (by decide), key 4 (by decide), key 6 (by decide), R[i].2, key 5 (by decide), h3 i hi'⟩
 ·rcases hj with hj | ⟨i, hi⟩
  ·exact hall.lt hj
  ·exact ⟨(h5 i j hi).1, (h5 i j hi).2.1⟩
end Go.Proofs.YtmiidhgbdecdkaaGreat
namespace Go.Proofs.YtmiidhgbdecdkaaGreat
open Go.RowKit
set_option linter.unusedVariables false
set_option linter.unusedSimpArgs false
theorem und_scope : Tryz.prog.underlying 80 = some (.slice (Tryz.prog.elem 80)) := by kernel_rfl
theorem elem_scope : Tryz.prog.elem 80 = 128 := by kernel_rfl
theorem size_let (w : World) : (sizeOf 128).run Tryz.prog w = .ok 4 w := by
 obtain ⟨i0, hi0, hz0, hz1, hz2⟩ := info_parts info_let
 have h := run_sizeOf (P := Tryz.prog) (w := w) hi0
 rw [show Tryz.prog.cellsOf 128 = 4 by kernel_rfl] at h
 exact h
theorem scope_to (p : Option Addr) (n c h : Nat) (hh : h ≤ c) (w : World) : (Instr.sliceAt 80 (.slice p n c) none (some (.int .i64 h)) none).run Tryz.prog w = .ok (.slice p h c) w := by
 rw [run_sliceAt_slice (h := und_scope), run_slice_h (ht := und_scope) (h0 := by omega) (h2 := by omega), elem_scope, size_let]
 show Result.ok (sliced p 0 (h : Int).toNat c 4) w = _
 unfold sliced
 congr 1
 by_cases c0 : c = 0
 ·subst c0; simp
 ·rw [if_neg c0]; cases p <;> simp [Addr.add]
theorem OffS.at {v v' : World} {O : Nat} (h : OffS (fun j => j = O) v v') (i : Nat) (x : Value) : OffS (fun j => j = O) v (v'.setCell ⟨O, i, none⟩ x) := OffS.set h (a := ⟨O, i, none⟩) (fun _ => rfl) x
theorem offS_seven (v : World) (O : Nat) (a b c d e f g : Value) : OffS (fun j => j = O) v (((((((v.setCell ⟨O, 0, none⟩ a).setCell ⟨O, 1, none⟩ b).setCell ⟨O, 2, none⟩ c).setCell ⟨O, 3, none⟩ d).setCell ⟨O, 4, none⟩ e).setCell ⟨O, 5, none⟩ f).setCell ⟨O, 6, none⟩ g) :=
 (((((((OffS.refl (fun j => j = O) v).at 0 a).at 1 b).at 2 c).at 3 d).at 4 e).at 5 f).at 6 g
theorem size_sevenS (v : World) (O : Nat) (a b c d e f g : Value) : (((((((v.setCell ⟨O, 0, none⟩ a).setCell ⟨O, 1, none⟩ b).setCell ⟨O, 2, none⟩ c).setCell ⟨O, 3, none⟩ d).setCell ⟨O, 4, none⟩ e).setCell ⟨O, 5, none⟩ f).setCell ⟨O, 6, none⟩ g).heap.size = v.heap.size := by simp [World.setCell]
def BoxS (w : World) (V : Nd) (sv : Value) (S : Blk) (O : Nat) (U : World) : Prop :=
 Below w.heap.size w U ∧ U.heap[w.heap.size]? = some (.cells #[.int .i64 0, .string ⟨#[]⟩, .int .u32 0, .int .i64 0, .string ⟨#[]⟩, .slice none 0 0, .int .i64 0] 29) ∧ w.heap.size < O ∧ U.heap[O]? = some (.cells #[.int .i64 V.kind, .string V.name, .int .u32 V.num, .int .i64 V.int_, .string V.key, sv, .int .i64 V.at_] 29) ∧ Ow U sv V.args S ∧ ∀ j, S j → w.heap.size < j ∧ j ≠ O ∧ j < U.heap.size
theorem box_state {w x : World} {V : Nd} {sv : Value} {S : Blk} {O : Nat} {a0 a1 a2 a3 a4 a5 a6 : Value} (hb : Below w.heap.size w x) (hr : x.heap[w.heap.size]? = some (.cells #[.int .i64 0, .string ⟨#[]⟩, .int .u32 0, .int .i64 0, .string ⟨#[]⟩, .slice none 0 0, .int .i64 0] 29)) (hx : x.heap[O]? = some (.cells #[a0, a1, a2, a3, a4, a5, a6] 29)) (hO : w.heap.size < O) (ho : Ow x sv V.args S) (hS : ∀ j, S j → w.heap.size < j ∧ j ≠ O ∧ j < x.heap.size) :
  BoxS w V sv S O (((((((x.setCell ⟨O, 0, none⟩ (.int .i64 V.kind)).setCell ⟨O, 1, none⟩ (.string V.name)).setCell ⟨O, 2, none⟩ (.int .u32 V.num)).setCell ⟨O, 3, none⟩ (.int .i64 V.int_)).setCell ⟨O, 4, none⟩ (.string V.key)).setCell ⟨O, 5, none⟩ sv).setCell ⟨O, 6, none⟩ (.int .i64 V.at_)) := by
 have h := offS_seven x O (.int .i64 V.kind) (.string V.name) (.int .u32 V.num) (.int .i64 V.int_) (.string V.key) sv (.int .i64 V.at_)
 have hz := size_sevenS x O (.int .i64 V.kind) (.string V.name) (.int .u32 V.num) (.int .i64 V.int_) (.string V.key) sv (.int .i64 V.at_)
 refine ⟨h.below hb (fun b hb' => by have := hlt hr; omega) (fun b hb' e => by have e : b = O := e; omega), ?_, hO, put_sevenA hx _ _ _ _ _ _ _, ho.keep fun j hj => h.sameSize hz (hS j hj).2.1, fun j hj => ⟨(hS j hj).1, (hS j hj).2.1, by rw [hz]; exact (hS j hj).2.2⟩⟩
 rw [h.sameSize hz (by show ¬ w.heap.size = O; omega)]
 exact hr
theorem BoxS.below {w U U' : World} {V : Nd} {sv : Value} {S : Blk} {O : Nat} (h : BoxS w V sv S O U) (k : Below U.heap.size U U') : BoxS w V sv S O U' := by
 obtain ⟨h1, h2, h3, h4, h5, h6⟩ := h
 exact ⟨bel h1 k, (k.block _ (hlt h2)).trans h2, h3, (k.block _ (hlt h4)).trans h4, h5.keep fun j hj => k.block j (h6 j hj).2.2, fun j hj => ⟨(h6 j hj).1, (h6 j hj).2.1, by have := (h6 j hj).2.2; have := k.size; omega⟩⟩
theorem BoxS.key {w U : World} {V : Nd} {sv : Value} {S : Blk} {O : Nat} (h : BoxS w V sv S O U) (ky : ByteArray) : BoxS w (keyN V ky) sv S O (U.setCell ⟨O, 4, none⟩ (.string ky)) := by
 obtain ⟨h1, h2, h3, h4, h5, h6⟩ := h
 have k := (OffS.refl (fun j => j = O) U).at 4 (.string ky)
 have hz : (U.setCell ⟨O, 4, none⟩ (.string ky)).heap.size = U.heap.size := by simp [World.setCell]
 refine ⟨k.below h1 (fun b hb' => by have := hlt h2; omega) (fun b hb' e => by have e : b = O := e; omega), ?_, h3, ?_, h5.keep fun j hj => k.sameSize hz (h6 j hj).2.1, fun j hj => ⟨(h6 j hj).1, (h6 j hj).2.1, by rw [hz]; exact (h6 j hj).2.2⟩⟩
 ·rw [k.sameSize hz (by show ¬ w.heap.size = O; omega)]
  exact h2
 ·have := put_oneA h4 4 (.string ky)
  simp only [List.setIfInBounds_toArray, List.set_cons_zero, List.set_cons_succ] at this
  exact this
theorem BoxS.place {w x x' : World} {V : Nd} {sv : Value} {S : Blk} {O : Nat} {a : Int} (h : BoxS w V sv S O x) (k : NO x' O 0 (placeN V a) S ∧ OffS (fun j => S j ∨ j = O) x x' ∧ x'.heap.size = x.heap.size ∧ x'.heap[O]? = some (.cells ((#[.int .i64 V.kind, .string V.name, .int .u32 V.num, .int .i64 V.int_, .string V.key, sv, .int .i64 V.at_]).setIfInBounds (0 + 6) (.int .i64 a)) 29)) : BoxS w (placeN V a) sv S O x' := by
 obtain ⟨h1, h2, h3, h4, h5, h6⟩ := h
 obtain ⟨k1, k2, k3, k4⟩ := k
 have k4' : x'.heap[O]? = some (.cells #[.int .i64 V.kind, .string V.name, .int .u32 V.num, .int .i64 V.int_, .string V.key, sv, .int .i64 a] 29) := by
  simp only [Nat.zero_add, List.setIfInBounds_toArray, List.set_cons_zero, List.set_cons_succ] at k4
  exact k4
 have hS : ∀ b, b ≤ w.heap.size → ¬ (S b ∨ b = O) := fun b hb e => by
  rcases e with e | e
  ·have := (h6 b e).1; omega
  ·omega
 refine ⟨k2.below h1 (fun b hb => by have := hlt h2; omega) (fun b hb => hS b (by omega)), (k2.sameSize k3 (hS _ (Nat.le_refl _))).trans h2, h3, k4', ?_, fun j hj => ⟨(h6 j hj).1, (h6 j hj).2.1, by rw [k3]; exact (h6 j hj).2.2⟩⟩
 obtain ⟨-, -, -, -, -, -, sv', e5, ho⟩ := k1
 have := (sevenA k4').1.2.2.2.2.2.1
 have e5' : x'.cell? ⟨O, 5, none⟩ = some sv' := e5
 rw [this] at e5'
 rw [Option.some.inj e5']
 exact ho
theorem BoxS.done {w U : World} {V : Nd} {sv : Value} {S : Blk} {O : Nat} (h : BoxS w V sv S O U) (a b c d e f g : Value) : (∃ S, Ow (((((((U.setCell ⟨w.heap.size, 0, none⟩ a).setCell ⟨w.heap.size, 1, none⟩ b).setCell ⟨w.heap.size, 2, none⟩ c).setCell ⟨w.heap.size, 3, none⟩ d).setCell ⟨w.heap.size, 4, none⟩ e).setCell ⟨w.heap.size, 5, none⟩ f).setCell ⟨w.heap.size, 6, none⟩ g) sv V.args S ∧ (∀ j, S j → w.heap.size ≤ j ∧ j < (((((((U.setCell ⟨w.heap.size, 0, none⟩ a).setCell ⟨w.heap.size, 1, none⟩ b).setCell ⟨w.heap.size, 2, none⟩ c).setCell ⟨w.heap.size, 3, none⟩ d).setCell ⟨w.heap.size, 4, none⟩ e).setCell ⟨w.heap.size, 5, none⟩ f).setCell ⟨w.heap.size, 6, none⟩ g).heap.size)) ∧ Below w.heap.size w (((((((U.setCell ⟨w.heap.size, 0, none⟩ a).setCell ⟨w.heap.size, 1, none⟩ b).setCell ⟨w.heap.size, 2, none⟩ c).setCell ⟨w.heap.size, 3, none⟩ d).setCell ⟨w.heap.size, 4, none⟩ e).setCell ⟨w.heap.size, 5, none⟩ f).setCell ⟨w.heap.size, 6, none⟩ g) := by
 obtain ⟨h1, h2, h3, h4, h5, h6⟩ := h
 have k := offS_seven U w.heap.size a b c d e f g
 have hz := size_sevenS U w.heap.size a b c d e f g
 refine ⟨⟨S, h5.keep fun j hj => k.sameSize hz (by show ¬ j = w.heap.size; have := (h6 j hj).1; omega), fun j hj => ⟨Nat.le_of_lt (h6 j hj).1, by rw [hz]; exact (h6 j hj).2.2⟩⟩, k.below h1 (fun b hb => by have := hlt h2; omega) (fun b hb e => by have e : b = w.heap.size := e; omega)⟩
def WrS (l : List (ByteArray × Nd)) (N : Nat) : Prop := ∀ (t : Nd) (b o : Nat) (p : Option Addr) (c : Nat) (w : World), dep t ≤ N → cnt (wrN (envA l) t) ≤ 40000 → ok1 t → ScopeA w p l → l.length ≤ c → NodeA w anyH b o t →
 Calls Tryz.prog 45 #[.slice p l.length c, .pointer (some ⟨b, o, none⟩)] w fun e w' => ∃ sv S, e = .returned (nv (wrN (envA l) t) sv) ∧ Ow w' sv (wrN (envA l) t).args S ∧ (∀ j, S j → w.heap.size ≤ j ∧ j < w'.heap.size) ∧ Below w.heap.size w w'
set_option maxRecDepth 100000 in
set_option maxHeartbeats 4000000 in
theorem wrs_name (l : List (ByteArray × Nd)) (hl : l.length ≤ 40000) (hok : ∀ i (h : i < l.length), ok1 l[i].2) (before : ∀ i, i < l.length → ∀ N, WrS (l.take i) N)
  (t : Nd) (b o : Nat) (p : Option Addr) (c : Nat) (w : World) (i : Nat) (hm : mntP l t = some i) (hc : cnt (wrN (envA l) t) ≤ 40000) (hokt : ok1 t) (hs : ScopeA w p l) (hlc : l.length ≤ c) (hn : NodeA w anyH b o t) :
  Calls Tryz.prog 45 #[.slice p l.length c, .pointer (some ⟨b, o, none⟩)] w fun e w' => ∃ sv S, e = .returned (nv (wrN (envA l) t) sv) ∧ Ow w' sv (wrN (envA l) t).args S ∧ (∀ j, S j → w.heap.size ≤ j ∧ j < w'.heap.size) ∧ Below w.heap.size w w' := by
 obtain ⟨hi, hwr⟩ := wr_mnt hm
 have hme := fun (x : World) (k : Below w.heap.size w x) => smeant_any l p c b o t x hl (hs.below k) (hn.below k)
 rw [hm] at hme
 have htk := fun (x : World) (k : Below w.heap.size w x) => (hs.below k).take i
 obtain ⟨bs, hp, x0, ⟨bv, ov, x1, hnv⟩, -⟩ := hs i hi
 subst hp
 have hlen : (l.take i).length = i := by rw [List.length_take]; omega
 have hcv : cnt (wrN (envA (l.take i)) l[i].2) ≤ 40000 := by
  rw [hwr] at hc
  have h1 : ∀ (x : Nd) (k : ByteArray), cnt (keyN x k) = cnt x := fun _ _ => rfl
  rw [h1, mcnt_place] at hc
  exact hc
 have hwv := fun (x : World) (k : Below w.heap.size w x) => before i hi (dep l[i].2) l[i].2 bv ov (some ⟨bs, 0, none⟩) c x (Nat.le_refl _) hcv (hok i hi) (htk x k) (by rw [hlen]; omega) (hnv.below k)
 obtain ⟨V, hV⟩ : ∃ V, wrN (envA (l.take i)) l[i].2 = V := ⟨_, rfl⟩
 rw [hV] at hwv hwr hcv
 simp only [hlen] at hwv
 have hsl := fun (x : World) => scope_to (some ⟨bs, 0, none⟩) l.length c i (by omega) x
 have hci := fun (x : World) => clone_any t.key hokt.1.2.1 x
 obtain ⟨-, -, -, -, e4, e6, -⟩ := hn
 obtain ⟨W, hW, hX, hB, -⟩ := new_box w
 obtain ⟨ky, hky⟩ : ∃ ky, t.key = ky := ⟨_, rfl⟩
 obtain ⟨a, ha⟩ : ∃ a, t.at_ = a := ⟨_, rfl⟩
 obtain ⟨Lk, hLk⟩ : ∃ Lk, l.length = Lk := ⟨_, rfl⟩
 rw [hky] at e4 hwr hci
 rw [ha] at e6 hwr
 rw [hLk] at hsl hme ⊢
 rw [hwr]
 have HM : Hid (∀ x, Below w.heap.size w x → Calls Tryz.prog 83 #[.slice (some ⟨bs, 0, none⟩) Lk c, .pointer (some ⟨b, o, none⟩)] x fun e w' => e = .returned (.tuple #[.int .i64 i, .bool true]) ∧ Below x.heap.size x w') := hme
 have HWV : Hid (∀ x, Below w.heap.size w x → Calls Tryz.prog 45 #[.slice (some ⟨bs, 0, none⟩) i c, .pointer (some ⟨bv, ov, none⟩)] x fun e w' => ∃ sv S, e = .returned (.agg #[.int .i64 V.kind, .string V.name, .int .u32 V.num, .int .i64 V.int_, .string V.key, sv, .int .i64 V.at_]) ∧ Ow w' sv V.args S ∧ (∀ j, S j → x.heap.size ≤ j ∧ j < w'.heap.size) ∧ Below x.heap.size x w') := hwv
 have HCL : Hid (∀ x, Calls Tryz.prog 85 #[.string ky] x fun e w' => e = .returned (.string ky) ∧ Below x.heap.size x w') := hci
 have HPL : Hid (∀ (O : Nat) (S : Blk) (cs : Array Value) (T : TypeId) (x : World), NO x O 0 V S → ¬ S O → x.heap[O]? = some (.cells cs T) → Calls Tryz.prog 84 #[.pointer (some ⟨O, 0, none⟩), .int .i64 a] x fun e w' => (∃ v, e = .returned v) ∧ NO w' O 0 (placeN V a) S ∧ OffS (fun j => S j ∨ j = O) x w' ∧ w'.heap.size = x.heap.size ∧ w'.heap[O]? = some (.cells (cs.setIfInBounds (0 + 6) (.int .i64 a)) T)) := fun O S cs T x h1 h2 h3 => plc_to (dep V) V O 0 S a cs T x (Nat.le_refl _) hcv h1 h2 h3
 have HC : Hid (w.cell? ⟨bs, i * 4 + 1, none⟩ = some (.pointer (some ⟨bv, ov, none⟩))) := x1
 have H4 : Hid (w.cell? ⟨b, o + 4, none⟩ = some (.string ky)) := e4
 have H6 : Hid (w.cell? ⟨b, o + 6, none⟩ = some (.int .i64 a)) := e6
 have HX : Hid (W.heap[w.heap.size]? = some (.cells #[.int .i64 0, .string ⟨#[]⟩, .int .u32 0, .int .i64 0, .string ⟨#[]⟩, .slice none 0 0, .int .i64 0] 29)) := hX
 have HB : Hid (Below w.heap.size w W) := hB
 have k0 : (0 : Int) ≤ (i : Int) := by omega
 have k1 : (i : Int) < (Lk : Int) := by rw [hLk] at hi; omega
 clear hme hwv htk hm hs hlc hi before hok hwr hcv hc hokt hX hB hlen hV x0 x1 hnv e4 e6 hky ha hLk hci hl
 go_enter Tryz.func45, Tryz.ntmps45
 go_upto_region 3 with (go_at_call 83; (with_reducible refine (HM.out _ HB.out).mono ?_); rintro e w1 ⟨rfl, hb1⟩; have HB1 : Hid (Below w.heap.size w w1) := bel HB.out hb1; have HX1 : Hid (w1.heap[w.heap.size]? = some (.cells #[.int .i64 0, .string ⟨#[]⟩, .int .u32 0, .int .i64 0, .string ⟨#[]⟩, .slice none 0 0, .int .i64 0] 29)) := (hb1.block _ (hlt HX.out)).trans HX.out; clear hb1)
 have c1 := (HB1.out.cell (mcell_lt HC.out)).trans HC.out
 go_cut [7] (fun gv wx => ∃ O, gv = .pointer (some ⟨O, 0, none⟩) ∧ Hid (∃ sv S, BoxS w V sv S O wx))
 case first =>
  refine wp_region_held_drew (S := (fun x => x.cell? ⟨bs, i * 4 + 1, none⟩ = some (.pointer (some ⟨bv, ov, none⟩)))) (by kernel_rfl) ?_ (fun hHeld => ?_)
  ·((try dsimp only); first | assumption | exact c1 | exact cU | exact (HB9.out.cell (mcell_lt HC.out)).trans HC.out | exact (HB8.out.cell (mcell_lt HC.out)).trans HC.out)
  refine wpAnyH_take (i := 0) (v := ?_) (by simp only [List.getElem?_toArray, List.getElem?_cons_succ, List.getElem?_cons_zero]; rfl) (by kernel_rfl) (by kernel_rfl) (by kernel_rfl) (by exact fun _ _ _ h => h) (Or.inl ⟨by rfl, ?_⟩) (by assumption) ?_
  rotate_left 1
  ·(intro wS hSw; (try dsimp only at hSw); go_simp; try (with_reducible rfl))
  try simp only [Act.put, List.setIfInBounds_toArray, List.set_cons_zero, List.set_cons_succ]
  refine wpAnyH_take (i := 1) (v := ?_) (by simp only [List.getElem?_toArray, List.getElem?_cons_succ, List.getElem?_cons_zero]; rfl) (by kernel_rfl) (by kernel_rfl) (by kernel_rfl) (by exact fun _ _ _ h => h) (Or.inl ⟨by rfl, ?_⟩) (by assumption) ?_
  rotate_left 1
  ·(intro wS hSw; (try dsimp only at hSw); go_simp; try (with_reducible rfl))
  try simp only [Act.put, List.setIfInBounds_toArray, List.set_cons_zero, List.set_cons_succ]
  refine wpAnyH_take (i := 2) (v := ?_) (by simp only [List.getElem?_toArray, List.getElem?_cons_succ, List.getElem?_cons_zero]; rfl) (by kernel_rfl) (by kernel_rfl) (by kernel_rfl) (by exact fun _ _ _ h => h) (Or.inl ⟨by rfl, ?_⟩) (by assumption) ?_
  rotate_left 1
  ·(intro wS hSw; (try dsimp only at hSw); go_simp; try (with_reducible rfl))
  try simp only [Act.put, List.setIfInBounds_toArray, List.set_cons_zero, List.set_cons_succ]
  refine wpAnyH_take (i := 3) (v := ?_) (by simp only [List.getElem?_toArray, List.getElem?_cons_succ, List.getElem?_cons_zero]; rfl) (by kernel_rfl) (by kernel_rfl) (by kernel_rfl) (by exact fun _ _ _ h => h) (Or.inl ⟨by rfl, ?_⟩) (by assumption) ?_
  rotate_left 1
  ·(intro wS hSw; (try dsimp only at hSw); go_simp; try (with_reducible rfl))
  try simp only [Act.put, List.setIfInBounds_toArray, List.set_cons_zero, List.set_cons_succ]
  refine wpAnyH_take (i := 4) (v := ?_) (by simp only [List.getElem?_toArray, List.getElem?_cons_succ, List.getElem?_cons_zero]; rfl) (by kernel_rfl) (by kernel_rfl) (by kernel_rfl) (by exact fun _ _ _ h => h) (Or.inl ⟨by rfl, ?_⟩) (by assumption) ?_
  rotate_left 1
  ·(intro wS hSw; (try dsimp only at hSw); go_simp; try (with_reducible rfl))
  try simp only [Act.put, List.setIfInBounds_toArray, List.set_cons_zero, List.set_cons_succ]
  refine wpAnyH_take (i := 5) (v := ?_) (by simp only [List.getElem?_toArray, List.getElem?_cons_succ, List.getElem?_cons_zero]; rfl) (by kernel_rfl) (by kernel_rfl) (by kernel_rfl) (by exact fun _ _ _ h => h) (Or.inl ⟨by rfl, ?_⟩) (by assumption) ?_
  rotate_left 1
  ·(intro wS hSw; (try dsimp only at hSw); go_simp; try (with_reducible rfl))
  try simp only [Act.put, List.setIfInBounds_toArray, List.set_cons_zero, List.set_cons_succ]
  refine wpAnyH_take (i := 6) (v := ?_) (by simp only [List.getElem?_toArray, List.getElem?_cons_succ, List.getElem?_cons_zero]; rfl) (by kernel_rfl) (by kernel_rfl) (by kernel_rfl) (by exact fun _ _ _ h => h) (Or.inl ⟨by rfl, ?_⟩) (by assumption) ?_
  rotate_left 1
  ·(intro wS hSw; (try dsimp only at hSw); go_simp; try (with_reducible rfl))
  try simp only [Act.put, List.setIfInBounds_toArray, List.set_cons_zero, List.set_cons_succ]
  refine wpAnyH_take (i := 7) (v := ?_) (by simp only [List.getElem?_toArray, List.getElem?_cons_succ, List.getElem?_cons_zero]; rfl) (by kernel_rfl) (by kernel_rfl) (by kernel_rfl) (by exact fun _ _ _ h => h) (Or.inl ⟨by rfl, ?_⟩) (by assumption) ?_
  rotate_left 1
  ·(intro wS hSw; (try dsimp only at hSw); go_simp; try (with_reducible rfl))
  try simp only [Act.put, List.setIfInBounds_toArray, List.set_cons_zero, List.set_cons_succ]
  clear hHeld
  refine wpAnyH_ready (rs := [8, 9]) (by kernel_rfl) (by simp) ?_
  refine AllReadyH.cons (i := 8) (by simp only [List.getElem?_toArray, List.getElem?_cons_succ, List.getElem?_cons_zero]; rfl) (fun K hK => ?_) ?_
  ·go_simp
   (go_at_call 45; (with_reducible refine (HWV.out _ (bel HB1.out (bel_d _))).mono ?_); rintro e w8 ⟨sv8, S8, rfl, how8, hS8, hb8⟩; obtain ⟨p8, c8, rfl, -⟩ := id how8; have HOW8 : Hid (Ow w8 (.slice p8 V.args.length c8) V.args S8) := how8; have HB8 : Hid (Below w.heap.size w w8) := bel (bel HB1.out (bel_d _)) hb8; have HS8 : Hid (∀ j, S8 j → w.heap.size < j ∧ j < w8.heap.size) := fun j hj => ⟨by have h2 : w1.heap.size ≤ j := (hS8 j hj).1; have := hlt HX1.out; omega, (hS8 j hj).2⟩; have HW8 : Hid (w.heap.size < w8.heap.size) := (by have := hlt HX1.out; have h2 : w1.heap.size ≤ w8.heap.size := hb8.size; show _ < _; omega); have HR8 : Hid (w8.heap[w.heap.size]? = some (.cells #[.int .i64 0, .string ⟨#[]⟩, .int .u32 0, .int .i64 0, .string ⟨#[]⟩, .slice none 0 0, .int .i64 0] 29)) := (hb8.block _ (by exact hlt HX1.out)).trans HX1.out; clear how8 hS8 hb8)
   try (go_wp2_with fail)
   refine hK.out _ _ ?_ (fun hHeld => ?_)
   ·((try dsimp only); first | assumption | exact c1 | exact cU | exact (HB9.out.cell (mcell_lt HC.out)).trans HC.out | exact (HB8.out.cell (mcell_lt HC.out)).trans HC.out)
   clear hK K
   try simp only [Act.put, List.setIfInBounds_toArray, List.set_cons_zero, List.set_cons_succ]
   clear hHeld
   refine wpAnyH_ready (rs := [9]) (by kernel_rfl) (by simp) ?_
   refine AllReadyH.cons (i := 9) (by simp only [List.getElem?_toArray, List.getElem?_cons_succ, List.getElem?_cons_zero]; rfl) (fun K hK => ?_) AllReadyH.nil
   go_simp
   obtain ⟨O, hO⟩ : ∃ O, w8.heap.size = O := ⟨_, rfl⟩
   obtain ⟨w9, hw9⟩ : ∃ V, w8.alloc (.cells #[.int .i64 0, .string ⟨#[]⟩, .int .u32 0, .int .i64 0, .string ⟨#[]⟩, .slice none 0 0, .int .i64 0] 29) = V := ⟨_, rfl⟩
   have HX9 : Hid (w9.heap[O]? = some (.cells #[.int .i64 0, .string ⟨#[]⟩, .int .u32 0, .int .i64 0, .string ⟨#[]⟩, .slice none 0 0, .int .i64 0] 29)) := by show _ = _; rw [← hw9, ← hO]; exact box_heapA w8 _
   have hb9 : Below w8.heap.size w8 w9 := by rw [← hw9]; exact bel_alloc _ _
   have HB9 : Hid (Below w.heap.size w w9) := bel HB8.out hb9
   have HO9 : Hid (w.heap.size < O) := by show _ < _; rw [← hO]; exact HW8.out
   have HOW9 : Hid (Ow w9 (.slice p8 V.args.length c8) V.args S8) := HOW8.out.keep fun j hj => hb9.block j (HS8.out j hj).2
   have HS9 : Hid (∀ j, S8 j → w.heap.size < j ∧ j ≠ O ∧ j < w9.heap.size) := fun j hj => ⟨(HS8.out j hj).1, by have := (HS8.out j hj).2; omega, by have := (HS8.out j hj).2; have := hb9.size; omega⟩
   have HR9 : Hid (w9.heap[w.heap.size]? = some (.cells #[.int .i64 0, .string ⟨#[]⟩, .int .u32 0, .int .i64 0, .string ⟨#[]⟩, .slice none 0 0, .int .i64 0] 29)) := (hb9.block _ (hlt HR8.out)).trans HR8.out
   rw [hw9, hO]
   clear hw9 hO hb9
   refine hK.out _ _ ?_ (fun hHeld => ?_)
   ·((try dsimp only); first | assumption | exact c1 | exact cU | exact (HB9.out.cell (mcell_lt HC.out)).trans HC.out | exact (HB8.out.cell (mcell_lt HC.out)).trans HC.out)
   clear hK K
   try simp only [Act.put, List.setIfInBounds_toArray, List.set_cons_zero, List.set_cons_succ]
   clear hHeld
   refine wpAnyH_ready (rs := [10]) (by kernel_rfl) (by simp) ?_
   refine AllReadyH.cons (i := 10) (by simp only [List.getElem?_toArray, List.getElem?_cons_succ, List.getElem?_cons_zero]; rfl) (fun K hK => ?_) AllReadyH.nil
   obtain ⟨⟨m0, m1, m2, m3, m4, m5, m6⟩, e0, e1, e2, e3, e4, e5, e6⟩ := sevenA HX9.out
   go_simp
   have hst := box_state HB9.out HR9.out HX9.out HO9.out HOW9.out HS9.out
   obtain ⟨U, hU⟩ : ∃ U, (((((((w9.setCell ⟨O, 0, none⟩ (.int .i64 V.kind)).setCell ⟨O, 1, none⟩ (.string V.name)).setCell ⟨O, 2, none⟩ (.int .u32 V.num)).setCell ⟨O, 3, none⟩ (.int .i64 V.int_)).setCell ⟨O, 4, none⟩ (.string V.key)).setCell ⟨O, 5, none⟩ (.slice p8 V.args.length c8)).setCell ⟨O, 6, none⟩ (.int .i64 V.at_)) = U := ⟨_, rfl⟩
   rw [hU] at hst
   try rw [hU]
   have HST : Hid (BoxS w V (.slice p8 V.args.length c8) S8 O U) := hst
   have cU : U.cell? ⟨bs, i * 4 + 1, none⟩ = some (.pointer (some ⟨bv, ov, none⟩)) := (hst.1.cell (mcell_lt HC.out)).trans HC.out
   clear hU hst m0 m1 m2 m3 m4 m5 m6 e0 e1 e2 e3 e4 e5 e6
   refine hK.out _ _ ?_ (fun hHeld => ?_)
   ·((try dsimp only); first | assumption | exact c1 | exact cU | exact (HB9.out.cell (mcell_lt HC.out)).trans HC.out | exact (HB8.out.cell (mcell_lt HC.out)).trans HC.out)
   clear hK K
   try simp only [Act.put, List.setIfInBounds_toArray, List.set_cons_zero, List.set_cons_succ]
   refine wpAnyH_done (by kernel_rfl) ?_ _
   go_wp2_with fail
   go_meet
   exact ⟨O, rfl, _, S8, HST.out⟩
  refine AllReadyH.cons (i := 9) (by simp only [List.getElem?_toArray, List.getElem?_cons_succ, List.getElem?_cons_zero]; rfl) (fun K hK => ?_) AllReadyH.nil
  go_simp
  obtain ⟨O, hO⟩ : ∃ O, w1.heap.size = O := ⟨_, rfl⟩
  obtain ⟨w9, hw9⟩ : ∃ V, (w1.alloc (.cells #[.int .i64 0, .string ⟨#[]⟩, .int .u32 0, .int .i64 0, .string ⟨#[]⟩, .slice none 0 0, .int .i64 0] 29)).drew = V := ⟨_, rfl⟩
  have HX9 : Hid (w9.heap[O]? = some (.cells #[.int .i64 0, .string ⟨#[]⟩, .int .u32 0, .int .i64 0, .string ⟨#[]⟩, .slice none 0 0, .int .i64 0] 29)) := by show _ = _; rw [← hw9, ← hO]; exact box_heapA w1 _
  have hb9 : Below w1.heap.size w1 w9 := by rw [← hw9]; exact bel (bel_alloc _ _) (bel_d _)
  have HB9 : Hid (Below w.heap.size w w9) := bel HB1.out hb9
  have HO9 : Hid (w.heap.size < O) := by show _ < _; rw [← hO]; exact hlt HX1.out
  have HR9 : Hid (w9.heap[w.heap.size]? = some (.cells #[.int .i64 0, .string ⟨#[]⟩, .int .u32 0, .int .i64 0, .string ⟨#[]⟩, .slice none 0 0, .int .i64 0] 29)) := (hb9.block _ (hlt HX1.out)).trans HX1.out
  rw [hw9, hO]
  clear hw9 hO hb9
  refine hK.out _ _ ?_ (fun hHeld => ?_)
  ·((try dsimp only); first | assumption | exact c1 | exact cU | exact (HB9.out.cell (mcell_lt HC.out)).trans HC.out | exact (HB8.out.cell (mcell_lt HC.out)).trans HC.out)
  clear hK K
  try simp only [Act.put, List.setIfInBounds_toArray, List.set_cons_zero, List.set_cons_succ]
  clear hHeld
  refine wpAnyH_ready (rs := [8]) (by kernel_rfl) (by simp) ?_
  refine AllReadyH.cons (i := 8) (by simp only [List.getElem?_toArray, List.getElem?_cons_succ, List.getElem?_cons_zero]; rfl) (fun K hK => ?_) AllReadyH.nil
  go_simp
  (go_at_call 45; (with_reducible refine (HWV.out _ HB9.out).mono ?_); rintro e w8 ⟨sv8, S8, rfl, how8, hS8, hb8⟩; obtain ⟨p8, c8, rfl, -⟩ := id how8; have HOW8 : Hid (Ow w8 (.slice p8 V.args.length c8) V.args S8) := how8; have HB8 : Hid (Below w.heap.size w w8) := bel HB9.out hb8; have HS8 : Hid (∀ j, S8 j → w.heap.size < j ∧ j ≠ O ∧ j < w8.heap.size) := fun j hj => ⟨by have := hS8 j hj; have := hlt HX9.out; have := HO9.out; omega, by have := hS8 j hj; have := hlt HX9.out; omega, (hS8 j hj).2⟩; have HX8 : Hid (w8.heap[O]? = some (.cells #[.int .i64 0, .string ⟨#[]⟩, .int .u32 0, .int .i64 0, .string ⟨#[]⟩, .slice none 0 0, .int .i64 0] 29)) := (hb8.block _ (hlt HX9.out)).trans HX9.out; have HR8 : Hid (w8.heap[w.heap.size]? = some (.cells #[.int .i64 0, .string ⟨#[]⟩, .int .u32 0, .int .i64 0, .string ⟨#[]⟩, .slice none 0 0, .int .i64 0] 29)) := (hb8.block _ (hlt HR9.out)).trans HR9.out; clear how8 hS8 hb8)
  try (go_wp2_with fail)
  refine hK.out _ _ ?_ (fun hHeld => ?_)
  ·((try dsimp only); first | assumption | exact c1 | exact cU | exact (HB9.out.cell (mcell_lt HC.out)).trans HC.out | exact (HB8.out.cell (mcell_lt HC.out)).trans HC.out)
  clear hK K
  try simp only [Act.put, List.setIfInBounds_toArray, List.set_cons_zero, List.set_cons_succ]
  clear hHeld
  refine wpAnyH_ready (rs := [10]) (by kernel_rfl) (by simp) ?_
  refine AllReadyH.cons (i := 10) (by simp only [List.getElem?_toArray, List.getElem?_cons_succ, List.getElem?_cons_zero]; rfl) (fun K hK => ?_) AllReadyH.nil
  obtain ⟨⟨m0, m1, m2, m3, m4, m5, m6⟩, e0, e1, e2, e3, e4, e5, e6⟩ := sevenA HX8.out
  go_simp
  have hst := box_state HB8.out HR8.out HX8.out HO9.out HOW8.out HS8.out
  obtain ⟨U, hU⟩ : ∃ U, (((((((w8.setCell ⟨O, 0, none⟩ (.int .i64 V.kind)).setCell ⟨O, 1, none⟩ (.string V.name)).setCell ⟨O, 2, none⟩ (.int .u32 V.num)).setCell ⟨O, 3, none⟩ (.int .i64 V.int_)).setCell ⟨O, 4, none⟩ (.string V.key)).setCell ⟨O, 5, none⟩ (.slice p8 V.args.length c8)).setCell ⟨O, 6, none⟩ (.int .i64 V.at_)) = U := ⟨_, rfl⟩
  rw [hU] at hst
  try rw [hU]
  have HST : Hid (BoxS w V (.slice p8 V.args.length c8) S8 O U) := hst
  have cU : U.cell? ⟨bs, i * 4 + 1, none⟩ = some (.pointer (some ⟨bv, ov, none⟩)) := (hst.1.cell (mcell_lt HC.out)).trans HC.out
  clear hU hst m0 m1 m2 m3 m4 m5 m6 e0 e1 e2 e3 e4 e5 e6
  refine hK.out _ _ ?_ (fun hHeld => ?_)
  ·((try dsimp only); first | assumption | exact c1 | exact cU | exact (HB9.out.cell (mcell_lt HC.out)).trans HC.out | exact (HB8.out.cell (mcell_lt HC.out)).trans HC.out)
  clear hK K
  try simp only [Act.put, List.setIfInBounds_toArray, List.set_cons_zero, List.set_cons_succ]
  refine wpAnyH_done (by kernel_rfl) ?_ _
  go_wp2_with fail
  go_meet
  exact ⟨O, rfl, _, S8, HST.out⟩
 case rest =>
  obtain ⟨O, rfl, HST⟩ := hcut
  obtain ⟨sv, S, hst⟩ := HST.out
  have hst0 := hst
  obtain ⟨hbU, hrU, hOw, hxU, howU, hSU⟩ := hst
  obtain ⟨p8, c8, rfl, -⟩ := id howU
  obtain ⟨⟨m0, m1, m2, m3, m4, m5, m6⟩, -⟩ := sevenA hxU
  have HPC : Hid (Calls Tryz.prog 84 #[.pointer (some ⟨O, 0, none⟩), .int .i64 a] wc fun e w' => (∃ v, e = .returned v) ∧ BoxS w (placeN V a) (.slice p8 V.args.length c8) S O w') := (HPL.out O S _ _ wc ⟨m0, m1, m2, m3, m4, m6, _, m5, howU⟩ (fun h => (hSU O h).2.1 rfl) hxU).mono fun e w' h => ⟨h.1, hst0.place h.2⟩
  have z6 := (hbU.cell (mcell_lt H6.out)).trans H6.out
  clear hst0 hbU hrU hxU howU hSU m0 m1 m2 m3 m4 m5 m6 HST HPL HWV HM c1
  go_upto_region 5 with (go_at_call 84; (with_reducible refine HPC.out.mono ?_); rintro e w5 ⟨⟨ev, rfl⟩, hbx5⟩; have HBX5 : Hid (BoxS w (placeN V a) (.slice p8 V.args.length c8) S O w5) := hbx5; have z4 := (hbx5.1.cell (mcell_lt H4.out)).trans H4.out; clear hbx5)
  clear z6 HPC
  go_upto_region 6 with (go_at_call 85; (with_reducible refine (HCL.out _).mono ?_); rintro e w6 ⟨rfl, hb6⟩; have HBX6 : Hid (BoxS w (placeN V a) (.slice p8 V.args.length c8) S O w6) := HBX5.out.below hb6; obtain ⟨⟨q0, q1, q2, q3, q4, q5, q6⟩, r0, r1, r2, r3, r4, r5, r6⟩ := sevenA HBX6.out.2.2.2.1; clear hb6)
  have hk := HBX6.out.key ky
  obtain ⟨U6, hU6⟩ : ∃ U, w6.setCell ⟨O, 4, none⟩ (.string ky) = U := ⟨_, rfl⟩
  rw [hU6] at hk ⊢
  clear q0 q1 q2 q3 q4 q5 q6 r0 r1 r2 r3 r4 r5 r6 hU6 z4
  have HBK : Hid (BoxS w (keyN (placeN V a) ky) (.slice p8 V.args.length c8) S O U6) := hk
  obtain ⟨⟨q0, q1, q2, q3, q4, q5, q6⟩, -⟩ := sevenA hk.2.2.2.1
  obtain ⟨⟨s0, s1, s2, s3, s4, s5, s6⟩, r0, r1, r2, r3, r4, r5, r6⟩ := sevenA hk.2.1
  clear hk
  go_wp2
  refine bodyPost_ret (by simp [results, Tryz.results45, go_sem, s0, s1, s2, s3, s4, s5, s6, r0, r1, r2, r3, r4, r5, r6]; try rfl) rfl ?_
  obtain ⟨⟨S', hd1, hd2⟩, hd3⟩ := HBK.out.done (.int .i64 (keyN (placeN V a) ky).kind) (.string (keyN (placeN V a) ky).name) (.int .u32 (keyN (placeN V a) ky).num) (.int .i64 (keyN (placeN V a) ky).int_) (.string (keyN (placeN V a) ky).key) (.slice p8 V.args.length c8) (.int .i64 (keyN (placeN V a) ky).at_)
  exact ⟨_, S', rfl, hd1, hd2, hd3⟩
end Go.Proofs.YtmiidhgbdecdkaaGreat
