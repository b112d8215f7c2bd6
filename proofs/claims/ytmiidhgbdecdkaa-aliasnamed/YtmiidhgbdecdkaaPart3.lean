import Derived.Test.YtmiidhgbdecdkaaPart1
import Derived.Test.YtmiidhgbdecdkaaPart2
import Derived.Deep.AppendLies
import Derived.Laws.AppendOwn
import Derived.Deep.Onto
namespace Go.Proofs.Ytmiidhgbdecdkaa
open Go.RowKit
set_option linter.unusedVariables false
set_option linter.unusedSimpArgs false
def LR (w : World) (C : Nat) (v : Value) (l : List Nd) : Prop :=
 (∀ t ∈ l, t.args = []) ∧ ∃ R : List (Nd × Value), R.map (fun r => r.1) = l ∧ (∀ r ∈ R, ∃ p c, r.2 = .slice p 0 c) ∧ w.ownsRow C 26 7 v l.length (cellsN R)
theorem LR.nil (w : World) (C : Nat) : LR w C (.slice none 0 0) [] := ⟨fun t h => absurd h (by simp), [], rfl, fun r h => absurd h (by simp), World.ownsRow_nil w C _ 7⟩
theorem LR.keep {w w' : World} {C : Nat} {v : Value} {l : List Nd} (h : LR w C v l) (hb : ∀ g, v.ownBlock = some g → w'.heap[g]? = w.heap[g]?) : LR w' C v l := by
 obtain ⟨h1, R, h2, h3, h4, h5⟩ := h
 refine ⟨h1, R, h2, h3, h4, ?_⟩
 rcases h5 with h5 | ⟨g, cap, cur, hv, hB, hg, hr⟩
 ·exact .inl h5
 ·exact .inr ⟨g, cap, cur, hv, hB, (hb g (by rw [hv]; rfl)).trans hg, hr⟩
theorem LR.lt {w : World} {C : Nat} {v : Value} {l : List Nd} (h : LR w C v l) : ∀ k, v.ownBlock = some k → C ≤ k ∧ k < w.heap.size := by
 obtain ⟨h1, R, h2, h3, h4⟩ := h
 exact h4.lt
theorem LR.below {w w' : World} {C : Nat} {v : Value} {l : List Nd} (h : LR w C v l) (k : Below w.heap.size w w') : LR w' C v l := h.keep fun g hg => k.block g (h.lt g hg).2
theorem LR.mono {w : World} {C C' : Nat} {v : Value} {l : List Nd} (h : LR w C v l) (k : C' ≤ C) : LR w C' v l := by
 obtain ⟨h1, R, h2, h3, h4⟩ := h
 exact ⟨h1, R, h2, h3, h4.mono k⟩
theorem LR.node {w : World} {C : Nat} {v : Value} {l : List Nd} (h : LR w C v l) {i : Nat} (hi : i < l.length) : ∃ g cap p c, v = .slice (some ⟨g, 0, none⟩) l.length cap ∧ l.length ≤ cap ∧ ∀ k, k < 7 → w.cell? ⟨g, i * 7 + k, none⟩ = (nodeCells l[i] (.slice p 0 c))[k]? := by
 obtain ⟨h1, R, h2, h3, hl, h5⟩ := h
 have hRl : R.length = l.length := by rw [← h2]; simp
 have hi' : i < R.length := by omega
 have he : l[i] = R[i].1 := by
  have := List.getElem_map (fun r : Nd × Value => r.1) (l := R) (i := i) (h := by simpa using hi')
  rw [← this]
  simp [h2]
 obtain ⟨p, c, hp⟩ := h3 R[i] (List.getElem_mem hi')
 rcases h5 with ⟨h5, h6⟩ | ⟨g, cap, cur, hv, hB, hg, hc1, hc2, hsz, htk⟩
 ·omega
 ·refine ⟨g, cap, p, c, hv, hc1, fun k hk => ?_⟩
  rw [he, ← hp, ← cellsN_at R i k hi' hk, ← htk, List.getElem?_take_of_lt (by omega)]
  simp [World.cell?, hg]
theorem LR.kids {w : World} {C : Nat} {v : Value} {l : List Nd} (h : LR w C v l) : Kids w anyH v l := by
 by_cases h0 : l = []
 ·subst h0
  obtain ⟨h1, R, h2, h3, hl, h5⟩ := h
  rcases h5 with ⟨h5, h6⟩ | ⟨g, cap, cur, hv, hr⟩
  ·exact ⟨none, 0, h5, trivial, .inl rfl⟩
  ·exact ⟨_, cap, hv, trivial, .inl rfl⟩
 ·have hp : 0 < l.length := List.length_pos_iff.2 h0
  obtain ⟨g, cap, -, -, hv, -, -⟩ := h.node hp
  refine ⟨_, cap, hv, trivial, .inr ⟨g, 0, rfl, KA_of fun i hi => ?_⟩⟩
  obtain ⟨g', cap', p, c, hv', -, hc⟩ := h.node hi
  rw [hv] at hv'
  simp only [Value.slice.injEq, Option.some.injEq, Addr.mk.injEq] at hv'
  obtain ⟨⟨rfl, -⟩, -, rfl⟩ := hv'
  rw [Nat.zero_add]
  refine ⟨hc 0 (by decide), hc 1 (by decide), hc 2 (by decide), hc 3 (by decide), hc 4 (by decide), hc 6 (by decide), _, hc 5 (by decide), ?_⟩
  rw [h.1 _ (List.getElem_mem hi)]
  exact ⟨p, c, rfl, trivial, .inl rfl⟩
theorem LR.len {w : World} {C : Nat} {v : Value} {l : List Nd} (h : LR w C v l) : ∃ p c, v = .slice p l.length c := by
 obtain ⟨p, c, hv, -⟩ := h.kids
 exact ⟨p, c, hv⟩
theorem LR.app {w : World} {C : Nat} {v : Value} {l : List Nd} (h : LR w C v l) {t : Nd} (ht : t.args = []) {p : Option Addr} {c B : Nat} (hB : w.heap[B]? = some (.cells #[.int .i64 t.kind, .string t.name, .int .u32 t.num, .int .i64 t.int_, .string t.key, .slice p 0 c, .int .i64 t.at_] 26)) (hlen : l.length ≤ 1000) (hC : C ≤ w.heap.size) (ty : TypeId) :
  ∃ g cap w', (Builtin.append_ #[24, 24] ty #[v, .slice (some ⟨B, 0, none⟩) 1 1]).run Try.prog w = .ok (.slice (some ⟨g, 0, none⟩) (l.length + 1) cap) w' ∧ LR w' C (.slice (some ⟨g, 0, none⟩) (l.length + 1) cap) (l ++ [t]) ∧ w.grownBy w' v.ownBlock ∧ (v.ownBlock = some g ∨ g = w.heap.size) := by
 obtain ⟨i0, hi0, hz0, hz1, hz2⟩ := info_parts info_Node
 obtain ⟨h1, R, h2, h3, h4⟩ := h
 obtain ⟨g, cap, w', hr, hown, hg, hat, hlt⟩ := run_append_lies (P := Try.prog) w 24 ty C 26 i0 _ 7 88 Try.underlying24 hi0 hz0 hz1 hz2 rfl (by decide) v l.length (cellsN R) h4 ⟨B, 0, none⟩ 1 1 (nodeCells t (.slice p 0 c)) rfl
  (World.news_of_block (cs := #[.int .i64 t.kind, .string t.name, .int .u32 t.num, .int .i64 t.int_, .string t.key, .slice p 0 c, .int .i64 t.at_]) (t := 26) (fr := (0, 0)) hB) (by intro u hu; simp [nodeCells] at hu; rcases hu with rfl | rfl | rfl | rfl | rfl | rfl | rfl <;> rfl) (by decide) (by unfold maxLen; omega) (by omega) hC w.heap.size rfl
 refine ⟨g, cap, w', hr, ⟨fun x hx => ?_, R ++ [(t, .slice p 0 c)], by rw [List.map_append, h2]; rfl, fun r hr => ?_, ?_⟩, hg, hat⟩
 ·rcases List.mem_append.1 hx with hx | hx
  ·exact h1 x hx
  ·simp at hx; subst hx; exact ht
 ·rcases List.mem_append.1 hr with hr | hr
  ·exact h3 r hr
  ·simp at hr; subst hr; exact ⟨p, c, rfl⟩
 ·rw [List.length_append, cellsN_snoc]
  exact hown
theorem cellsN_drop : ∀ R : List (Nd × Value), (cellsN R).drop 7 = cellsN (R.drop 1)
 | [] => rfl
 | r :: R => by
  have e : cellsN (r :: R) = nodeCells r.1 r.2 ++ cellsN R := by simp [cellsN]
  rw [e, List.drop_append_of_le_length (by simp [nodeCells])]
  rfl
theorem LR.tail {w : World} {C g cap : Nat} {l : List Nd} (h : LR w C (.slice (some ⟨g, 0, none⟩) l.length cap) l) (h0 : 0 < l.length) (hlen : l.length ≤ 1000) (o c : Nat) (ho : l.length = 1 ∨ o = 7) (ty : TypeId) :
  ∃ v' w', (Builtin.append_ #[24, 24] ty #[.slice none 0 0, .slice (some ⟨g, o, none⟩) (l.length - 1) c]).run Try.prog w = .ok v' w' ∧ LR w' w.heap.size v' (l.drop 1) ∧ Below w.heap.size w w' := by
 obtain ⟨i0, hi0, hz0, hz1, hz2⟩ := info_parts info_Node
 obtain ⟨h1, R, h2, h3, hl, h5⟩ := h
 have hRl : R.length = l.length := by rw [← h2]; simp
 rcases h5 with ⟨h5, -⟩ | ⟨g', cap', cur, hv, hB, hg, hc1, hc2, hsz, htk⟩
 ·cases h5
 simp only [Value.slice.injEq, Option.some.injEq, Addr.mk.injEq] at hv
 obtain ⟨⟨rfl, -⟩, -, rfl⟩ := hv
 obtain ⟨v', w', hr, hown, hgr, -⟩ := run_append_own (P := Try.prog) w w.heap.size 24 ty 26 i0 _ 7 88 Try.underlying24 hi0 hz0 hz1 hz2 rfl (by decide) (.slice none 0 0) 0 [] (World.ownsRow_nil w _ _ 7) ⟨g, o, none⟩ (l.length - 1) c (cellsN (R.drop 1)) (by rw [cellsN_len, List.length_drop, hRl]) (fun j u hu => by
   have hj : j < (cellsN (R.drop 1)).length := (List.getElem?_eq_some_iff.1 hu).1
   rw [cellsN_len, List.length_drop, hRl] at hj
   obtain rfl : o = 7 := ho.resolve_left fun e => by omega
   rw [← cellsN_drop, List.getElem?_drop, ← htk, List.getElem?_take_of_lt (by omega)] at hu
   rw [show (⟨g, 7, none⟩ : Addr).add j = ⟨g, 7 + j, none⟩ by unfold Addr.add; split <;> simp_all]
   simpa [World.cell?, hg] using hu) (by
   intro u hu
   simp only [cellsN, List.mem_flatMap] at hu
   obtain ⟨r, hr, hu⟩ := hu
   obtain ⟨p, c, hp⟩ := h3 r (List.mem_of_mem_drop hr)
   rw [hp] at hu
   simp [nodeCells] at hu
   rcases hu with rfl | rfl | rfl | rfl | rfl | rfl | rfl <;> rfl) (by unfold maxLen; omega) (by omega) (Nat.le_refl _)
 refine ⟨v', w', hr, ⟨fun x hx => h1 x (List.mem_of_mem_drop hx), R.drop 1, by rw [← h2, List.map_drop], fun r hr => h3 r (List.mem_of_mem_drop hr), ?_⟩, ⟨hgr.os, hgr.tape, hgr.output, hgr.size, fun k hk => hgr.block k hk (by show some k ≠ none; simp)⟩⟩
 rw [List.length_drop]
 simpa using hown
theorem wpList_appE {P : Program} {w w' : World} {ops : Array Oper} {rest : List Oper} {o : Oper} {a : Act} {Q : Exit → Act → World → Prop} (hgd : o.guard = none) (s x : Operand) (t : TypeId)
  (ho : o.op = .call { callee := .builtin .append, args := #[s, x], argTypes := #[t, t] }) (v v2 v' : Value) (hs : a.eval s = v) (hx : a.eval x = v2) (hr : (Builtin.append_ #[t, t] o.type #[v, v2]).run P w = .ok v' w')
  (h : wpList P ops Q rest (a.put o.dst v') w') : wpList P ops Q (o :: rest) a w :=
 wpList_plain hgd fun _ hK => by
  unfold Oper.wp execOp
  simp only [ho, resolve, invoke, builtin, Sem.run_bind, Sem.run_pure, Result.andThen_ok, List.map_toArray, List.map_cons, List.map_nil, hs, hx, hr]
  exact hK _ _ h
theorem and_one (x : Int) : bits .and .i64 x 1 = x % 2 := by
 show IntKind.i64.wrap ((BitVec.ofInt 64 x &&& BitVec.ofInt 64 1).toNat : Int) = _
 rw [BitVec.toNat_and, show (BitVec.ofInt 64 1).toNat = 1 from rfl, Nat.and_one_is_mod, BitVec.toNat_ofInt]
 have e : (((x % ((2 ^ 64 : Nat) : Int)).toNat % 2 : Nat) : Int) = x % 2 := by omega
 rw [e]
 have h : x % 2 = 0 ∨ x % 2 = 1 := by omega
 rcases h with h | h <;> rw [h] <;> decide
theorem step_place {W2 wr wx : World} {C O : Nat} {pv nv : Value} {l m : List Nd} {t : Nd} {p : Option Addr} {c : Nat} (hC : C ≤ W2.heap.size) (hb : Below C W2 wr) (hCw : C ≤ wr.heap.size) (hx : Below wr.heap.size wr wx) (hO : wr.heap.size ≤ O)
  (hX : wx.heap[O]? = some (.cells #[.int .i64 t.kind, .string t.name, .int .u32 t.num, .int .i64 t.int_, .string t.key, .slice p 0 c, .int .i64 t.at_] 26)) (ht : t.args = []) (hl : LR wr C pv l) (hm : LR wr C nv m) (hd : ∀ b, pv.ownBlock = some b → nv.ownBlock ≠ some b) (hlen : l.length ≤ 1000) (ty : TypeId) :
  ∃ g cap w', (Builtin.append_ #[24, 24] ty #[pv, .slice (some ⟨wx.heap.size, 0, none⟩) 1 1]).run Try.prog (wx.alloc (.cells #[.int .i64 t.kind, .string t.name, .int .u32 t.num, .int .i64 t.int_, .string t.key, .slice p 0 c, .int .i64 t.at_] 26)) = .ok (.slice (some ⟨g, 0, none⟩) (l.length + 1) cap) w' ∧
   LR w' C (.slice (some ⟨g, 0, none⟩) (l.length + 1) cap) (l ++ [t]) ∧ LR w' C nv m ∧ nv.ownBlock ≠ some g ∧ g ≠ O ∧ nv.ownBlock ≠ some O ∧ C ≤ O ∧ Below C W2 w' ∧ w'.heap[O]? = some (.cells #[.int .i64 t.kind, .string t.name, .int .u32 t.num, .int .i64 t.int_, .string t.key, .slice p 0 c, .int .i64 t.at_] 26) := by
 have hxs := hx.size
 have hOx := hlt hX
 have h1 := (hl.below hx).below (bel_alloc wx (.cells #[.int .i64 t.kind, .string t.name, .int .u32 t.num, .int .i64 t.int_, .string t.key, .slice p 0 c, .int .i64 t.at_] 26))
 obtain ⟨g, cap, w', hr, hL, hg, hat⟩ := h1.app ht (box_heapA wx _) hlen (by simp; omega) ty
 have hsz : (wx.alloc (.cells #[.int .i64 t.kind, .string t.name, .int .u32 t.num, .int .i64 t.int_, .string t.key, .slice p 0 c, .int .i64 t.at_] 26)).heap.size = wx.heap.size + 1 := by simp
 have hpl := hl.lt
 have hml := hm.lt
 have hb1 : Below C W2 (wx.alloc (.cells #[.int .i64 t.kind, .string t.name, .int .u32 t.num, .int .i64 t.int_, .string t.key, .slice p 0 c, .int .i64 t.at_] 26)) := by
  have k := bel hx (bel_alloc wx (.cells #[.int .i64 t.kind, .string t.name, .int .u32 t.num, .int .i64 t.int_, .string t.key, .slice p 0 c, .int .i64 t.at_] 26))
  exact ⟨k.os.trans hb.os, k.tape.trans hb.tape, k.output.trans hb.output, Nat.le_trans hb.size k.size, fun j hj => (k.block j (by omega)).trans (hb.block j hj)⟩
 refine ⟨g, cap, w', hr, hL, ?_, ?_, ?_, ?_, by omega, Below.grown hb1 hg (by omega) fun k hk => (hpl k hk).1, ?_⟩
 ·refine ((hm.below hx).below (bel_alloc wx (.cells #[.int .i64 t.kind, .string t.name, .int .u32 t.num, .int .i64 t.int_, .string t.key, .slice p 0 c, .int .i64 t.at_] 26))).keep fun b hbb => hg.block b (by have := (hml b hbb).2; omega) fun e => hd b e.symm hbb
 ·intro e
  rcases hat with h | h
  ·exact hd g h e
  ·have := (hml g e).2; omega
 ·intro e
  rcases hat with h | h
  ·have := (hpl g h).2; omega
  ·omega
 ·intro e
  have := (hml O e).2; omega
 ·rw [hg.block O (by omega) (fun e => by have := (hpl O e.symm).2; omega)]
  exact heap_old _ _ hX
theorem step_named {W2 w1 : World} {C O g cap : Nat} {nv : Value} {l m : List Nd} {t : Nd} {p : Option Addr} {c : Nat} {n : Nat} (key : ByteArray) (hCw : C ≤ w1.heap.size) (hb : Below C W2 w1)
  (hX : w1.heap[O]? = some (.cells #[.int .i64 t.kind, .string t.name, .int .u32 t.num, .int .i64 t.int_, .string t.key, .slice p 0 c, .int .i64 t.at_] 26)) (ht : t.args = []) (hl : LR w1 C (.slice (some ⟨g, 0, none⟩) n cap) l) (hm : LR w1 C nv m) (hd : nv.ownBlock ≠ some g) (hgO : g ≠ O) (hnO : nv.ownBlock ≠ some O) (hCO : C ≤ O) (hlen : m.length ≤ 1000) (ty : TypeId) :
  ∃ g2 cap2 w', (Builtin.append_ #[24, 24] ty #[nv, .slice (some ⟨w1.heap.size, 0, none⟩) 1 1]).run Try.prog ((w1.setCell ⟨O, 4, none⟩ (.string key)).alloc (.cells #[.int .i64 t.kind, .string t.name, .int .u32 t.num, .int .i64 t.int_, .string key, .slice p 0 c, .int .i64 t.at_] 26)) = .ok (.slice (some ⟨g2, 0, none⟩) (m.length + 1) cap2) w' ∧
   LR w' C (.slice (some ⟨g2, 0, none⟩) (m.length + 1) cap2) (m ++ [⟨t.kind, t.name, t.num, t.int_, key, t.args, t.at_⟩]) ∧ LR w' C (.slice (some ⟨g, 0, none⟩) n cap) l ∧ g ≠ g2 ∧ Below C W2 w' := by
 have hoff := (Off.refl O w1).set 4 (.string key)
 obtain ⟨V, hV⟩ : ∃ V, w1.setCell ⟨O, 4, none⟩ (.string key) = V := ⟨_, rfl⟩
 rw [hV] at hoff ⊢
 have hVs : V.heap.size = w1.heap.size := hoff.2.2.2.1
 have hmV : LR V C nv m := hm.keep fun b hbb => hoff.2.2.2.2 b fun e => hnO (by rw [hbb, e])
 have hlV : LR V C (.slice (some ⟨g, 0, none⟩) n cap) l := hl.keep fun b hbb => hoff.2.2.2.2 b fun e => hgO (by have : g = b := Option.some.inj hbb; omega)
 have hbV : Below C W2 V := hoff.below hb hCO
 obtain ⟨g2, cap2, w', hr, hL, hg, hat⟩ := (hmV.below (bel_alloc V (.cells #[.int .i64 t.kind, .string t.name, .int .u32 t.num, .int .i64 t.int_, .string key, .slice p 0 c, .int .i64 t.at_] 26))).app (t := ⟨t.kind, t.name, t.num, t.int_, key, t.args, t.at_⟩) ht (box_heapA V _) hlen (by simp; omega) ty
 have hml := hmV.lt
 have hll := hlV.lt
 have hgl := hll g rfl
 rw [← hVs]
 refine ⟨g2, cap2, w', hr, hL, ?_, ?_, ?_⟩
 ·refine (hlV.below (bel_alloc V (.cells #[.int .i64 t.kind, .string t.name, .int .u32 t.num, .int .i64 t.int_, .string key, .slice p 0 c, .int .i64 t.at_] 26))).keep fun b hbb => hg.block b (by have := (hll b hbb).2; simp; omega) fun e => ?_
  have : g = b := Option.some.inj hbb
  exact hd (by rw [← e, this])
 ·rcases hat with h | h
  ·exact fun e => hd (by rw [h, e])
  ·simp at h; omega
 ·refine Below.grown ?_ hg (by simp; omega) fun k hk => (hml k hk).1
  have k := bel_alloc V (.cells #[.int .i64 t.kind, .string t.name, .int .u32 t.num, .int .i64 t.int_, .string key, .slice p 0 c, .int .i64 t.at_] 26)
  exact ⟨k.os.trans hbV.os, k.tape.trans hbV.tape, k.output.trans hbV.output, Nat.le_trans hbV.size k.size, fun j hj => (k.block j (by omega)).trans (hbV.block j hj)⟩
theorem step_turn {wr : World} {C g cap : Nat} {l : List Nd} (hC : C ≤ wr.heap.size) (h : LR wr C (.slice (some ⟨g, 0, none⟩) l.length cap) l) (h0 : 0 < l.length) (hlen : l.length ≤ 1000) (o c : Nat) (ho : l.length = 1 ∨ o = 7) (ty ty2 : TypeId) :
  ∃ p n1 c1 w1, (Builtin.append_ #[24, 24] ty #[.slice none 0 0, .slice (some ⟨g, o, none⟩) (l.length - 1) c]).run Try.prog wr = .ok (.slice p n1 c1) w1 ∧ Below wr.heap.size wr w1 ∧ ∃ q d, (∀ k, k < 7 → w1.cell? ⟨g, k, none⟩ = (nodeCells l[0] (.slice q 0 d))[k]?) ∧
   ∃ g2 cap2 w2, (Builtin.append_ #[24, 24] ty2 #[.slice p n1 c1, .slice (some ⟨w1.heap.size, 0, none⟩) 1 1]).run Try.prog (w1.alloc (.cells #[.int .i64 l[0].kind, .string l[0].name, .int .u32 l[0].num, .int .i64 l[0].int_, .string l[0].key, .slice q 0 d, .int .i64 l[0].at_] 26)) = .ok (.slice (some ⟨g2, 0, none⟩) l.length cap2) w2 ∧ LR w2 C (.slice (some ⟨g2, 0, none⟩) l.length cap2) (l.drop 1 ++ l.take 1) ∧ Below wr.heap.size wr w2 := by
 obtain ⟨v', w1, hr, hL, hb⟩ := h.tail h0 hlen o c ho ty
 obtain ⟨p, c1, hv⟩ := hL.len
 subst hv
 have h1 := h.below hb
 obtain ⟨g', cap', q, d, hv, -, hc⟩ := h1.node h0
 simp only [Value.slice.injEq, Option.some.injEq, Addr.mk.injEq] at hv
 obtain ⟨⟨rfl, -⟩, -, rfl⟩ := hv
 have ht : l[0].args = [] := h.1 _ (List.getElem_mem h0)
 have hbs := hb.size
 obtain ⟨g2, cap2, w2, hr2, hL2, hg2, hat⟩ := (hL.below (bel_alloc w1 (.cells #[.int .i64 l[0].kind, .string l[0].name, .int .u32 l[0].num, .int .i64 l[0].int_, .string l[0].key, .slice q 0 d, .int .i64 l[0].at_] 26))).app ht (box_heapA w1 _) (by rw [List.length_drop]; omega) (by simp; omega) ty2
 have hdl : (l.drop 1).length + 1 = l.length := by rw [List.length_drop]; omega
 rw [hdl] at hr2 hL2
 have htk : l.take 1 = [l[0]] := by
  have := List.take_succ_eq_append_getElem (l := l) (i := 0) h0
  simpa using this
 refine ⟨p, _, c1, w1, hr, hb, q, d, fun k hk => by have := hc k hk; rw [Nat.zero_mul, Nat.zero_add] at this; exact this, g2, cap2, w2, hr2, ?_, ?_⟩
 ·rw [htk]; exact hL2.mono hC
 ·exact Below.grown (bel hb (bel_alloc w1 _)) hg2 (by simp; omega) fun k hk => (hL.lt k hk).1
end Go.Proofs.Ytmiidhgbdecdkaa
namespace Go.Proofs.Ytmiidhgbdecdkaa
set_option linter.unusedVariables false
set_option linter.unusedSimpArgs false
def plA (r : Rw) (g : Nat) : List Nd := (List.range r.args.length).map fun i => if i = 0 then ⟨2, ⟨#[]⟩, 1056964608, 0, ⟨#[]⟩, [], 0⟩ else if g.testBit i && (ix r.vals i).kind == 2 then ⟨2, ⟨#[]⟩, 1073741824, 0, ⟨#[]⟩, [], 0⟩ else ix r.vals i
def lastG (n g : Nat) : Nat := (List.range n).foldl (fun m i => if i ≠ 0 && g.testBit i then i else m) 0
def nmA (r : Rw) (g : Nat) : List Nd := ((plA r g).zip r.args).zipIdx.filterMap fun x => if x.2 = 0 || g.testBit x.2 then some (keyN x.1.1 x.1.2) else none
def rotA : Nat → List Nd → List Nd
 | 0, l => l
 | n + 1, l => rotA n (l.drop 1 ++ l.take 1)
end Go.Proofs.Ytmiidhgbdecdkaa
namespace Go.Proofs.Ytmiidhgbdecdkaa
set_option linter.unusedVariables false
set_option linter.unusedSimpArgs false
theorem last_succ (n g : Nat) : lastG (n + 1) g = if n ≠ 0 && g.testBit n then n else lastG n g := by
 unfold lastG
 rw [List.range_succ, List.foldl_append]
 rfl
theorem last_one (g : Nat) : lastG 1 g = 0 := by rw [last_succ, if_neg (by simp)]; rfl
theorem last_lt : ∀ (n g : Nat), lastG n g ≤ n - 1
 | 0, g => Nat.le_refl _
 | n + 1, g => by
  rw [last_succ]
  split
  ·omega
  ·have := last_lt n g; omega
theorem last_ge : ∀ (n g i : Nat), i < n → i ≠ 0 → g.testBit i = true → i ≤ lastG n g
 | 0, g, i, h, _, _ => absurd h (Nat.not_lt_zero _)
 | n + 1, g, i, h, h0, hb => by
  rw [last_succ]
  by_cases e : i = n
  ·subst e
   rw [if_pos (by simp [h0, hb])]
   exact Nat.le_refl _
  ·have := last_ge n g i (by omega) h0 hb
   have h2 := last_lt n g
   split
   ·omega
   ·exact this
def plX (r : Rw) (g i : Nat) : Nd := if i = 0 then ⟨2, ⟨#[]⟩, 1056964608, 0, ⟨#[]⟩, [], 0⟩ else if g.testBit i && (ix r.vals i).kind == 2 then ⟨2, ⟨#[]⟩, 1073741824, 0, ⟨#[]⟩, [], 0⟩ else ix r.vals i
theorem pl_get (r : Rw) (g i : Nat) (h : i < (plA r g).length) : (plA r g)[i] = plX r g i := by
 have e : (plA r g)[i]? = some (plX r g i) := by
  unfold plA plX
  rw [List.getElem?_map, List.getElem?_range (by simpa [plA] using h)]
  rfl
 rw [List.getElem?_eq_getElem h] at e
 exact Option.some.inj e
theorem pl_length (r : Rw) (g : Nat) : (plA r g).length = r.args.length := by unfold plA; rw [List.length_map, List.length_range]
theorem pl_succ (r : Rw) (g i : Nat) (h : i < r.args.length) : (plA r g).take (i + 1) = (plA r g).take i ++ [plX r g i] := by
 have h' : i < (plA r g).length := by rw [pl_length]; exact h
 rw [List.take_succ_eq_append_getElem h', pl_get]
def nmF (g : Nat) (x : (Nd × ByteArray) × Nat) : Option Nd := if x.2 = 0 || g.testBit x.2 then some (keyN x.1.1 x.1.2) else none
def nmT (r : Rw) (g i : Nat) : List Nd := ((((plA r g).zip r.args).zipIdx).take i).filterMap (nmF g)
theorem nmT_zero (r : Rw) (g : Nat) : nmT r g 0 = [] := rfl
theorem nmT_succ (r : Rw) (g i : Nat) (h : i < r.args.length) : nmT r g (i + 1) = nmT r g i ++ (if i = 0 || g.testBit i then [keyN (plX r g i) r.args[i]] else []) := by
 have h' : i < (plA r g).length := by rw [pl_length]; exact h
 have hz : i < (((plA r g).zip r.args).zipIdx).length := by rw [List.length_zipIdx, List.length_zip, pl_length]; omega
 unfold nmT
 rw [List.take_succ_eq_append_getElem hz, List.filterMap_append]
 congr 1
 rw [List.getElem_zipIdx, List.getElem_zip, pl_get]
 unfold nmF
 simp only [List.filterMap_cons, List.filterMap_nil, Nat.zero_add]
 by_cases c : (i = 0 || g.testBit i) = true
 ·rw [if_pos c]
  rw [if_pos c]
 ·rw [if_neg c]
  rw [if_neg c]
theorem nmT_all (r : Rw) (g : Nat) : nmT r g r.args.length = nmA r g := by
 unfold nmT nmA
 rw [List.take_of_length_le (by rw [List.length_zipIdx, List.length_zip, pl_length]; omega)]
 rfl
theorem nmT_last (r : Rw) (g : Nat) : ∀ k, lastG r.args.length g + 1 + k ≤ r.args.length → nmT r g (lastG r.args.length g + 1 + k) = nmT r g (lastG r.args.length g + 1)
 | 0, _ => rfl
 | k + 1, h => by
  have hk : lastG r.args.length g + 1 + k < r.args.length := by omega
  have hb : g.testBit (lastG r.args.length g + 1 + k) = false := by
   by_cases c : g.testBit (lastG r.args.length g + 1 + k) = true
   ·have := last_ge _ g _ hk (by omega) c; omega
   ·simpa using c
  rw [show lastG r.args.length g + 1 + (k + 1) = lastG r.args.length g + 1 + k + 1 by omega, nmT_succ r g _ hk, if_neg (by rw [hb]; simp), List.append_nil, nmT_last r g k (by omega)]
theorem nmT_end (r : Rw) (g : Nat) (h : 0 < r.args.length) : nmT r g (lastG r.args.length g + 1) = nmA r g := by
 have hl := last_lt r.args.length g
 rw [← nmT_all, ← nmT_last r g (r.args.length - (lastG r.args.length g + 1)) (by omega)]
 congr 1
 omega
theorem nmT_len (r : Rw) (g : Nat) : ∀ i, i ≤ r.args.length → (nmT r g i).length ≤ i
 | 0, _ => Nat.le_refl _
 | i + 1, h => by
  rw [nmT_succ r g i (by omega), List.length_append]
  have := nmT_len r g i (by omega)
  split
  ·simp; omega
  ·simp; omega
theorem nmT_pos (r : Rw) (g i : Nat) (h : 0 < r.args.length) : 0 < (nmT r g (i + 1)).length := by
 have h1 : nmT r g 1 = [keyN (plX r g 0) r.args[0]] := by rw [nmT_succ r g 0 h, nmT_zero, if_pos (by simp)]; rfl
 have h2 : (nmT r g (i + 1)) = nmT r g 1 ++ ((((((plA r g).zip r.args).zipIdx).take (i + 1)).drop 1).filterMap (nmF g)) := by
  unfold nmT
  rw [← List.filterMap_append]
  congr 1
  have := (List.take_append_drop 1 ((((plA r g).zip r.args).zipIdx).take (i + 1))).symm
  rw [List.take_take, show min 1 (i + 1) = 1 by omega] at this
  exact this
 rw [h2, h1]
 simp
theorem rot_succ : ∀ (n : Nat) (l : List Nd), rotA (n + 1) l = (rotA n l).drop 1 ++ (rotA n l).take 1
 | 0, l => rfl
 | n + 1, l => by
  show rotA (n + 1) (l.drop 1 ++ l.take 1) = _
  rw [rot_succ n (l.drop 1 ++ l.take 1)]
  rfl
theorem rota_len : ∀ (n : Nat) (l : List Nd), (rotA n l).length = l.length
 | 0, l => rfl
 | n + 1, l => by
  show (rotA n (l.drop 1 ++ l.take 1)).length = _
  rw [rota_len n, List.length_append, List.length_drop, List.length_take]
  omega
def gvn (G : Int) (n : Nat) : Nat := (G % (2 ^ n : Nat)).toNat
theorem gvn_lt (G : Int) (n : Nat) : gvn G n < 2 ^ n := by
 unfold gvn
 have hp : (0 : Int) < ((2 ^ n : Nat) : Int) := by have := Nat.two_pow_pos n; omega
 have := Int.emod_lt_of_pos G hp
 have := Int.emod_nonneg G (by omega : ((2 ^ n : Nat) : Int) ≠ 0)
 omega
theorem gvn_bit (G : Int) {n i : Nat} (h : i < n) : (gvn G n).testBit i = decide (G / (2 ^ i : Nat) % 2 = 1) := by
 rw [Nat.testBit_eq_decide_div_mod_eq]
 have hp : (0 : Int) < ((2 ^ n : Nat) : Int) := by have := Nat.two_pow_pos n; omega
 have hn := Int.emod_nonneg G (by omega : ((2 ^ n : Nat) : Int) ≠ 0)
 have e1 : ((gvn G n : Nat) : Int) = G % ((2 ^ n : Nat) : Int) := by unfold gvn; omega
 have e2 : ((gvn G n / 2 ^ i % 2 : Nat) : Int) = G / ((2 ^ i : Nat) : Int) % 2 := by
  rw [Int.natCast_emod, Int.natCast_ediv, e1]
  have e3 : ((2 ^ n : Nat) : Int) = ((2 ^ i : Nat) : Int) * (2 * ((2 ^ (n - i - 1) : Nat) : Int)) := by
   rw [show (2 : Int) = ((2 : Nat) : Int) from rfl, ← Int.natCast_mul, ← Int.natCast_mul, ← Nat.pow_succ', ← Nat.pow_add]
   congr 2
   omega
  have hi : (0 : Int) < ((2 ^ i : Nat) : Int) := by have := Nat.two_pow_pos i; omega
  have hd := Int.mul_ediv_add_emod G ((2 ^ n : Nat) : Int)
  obtain ⟨q, hq⟩ : ∃ q, G / ((2 ^ n : Nat) : Int) = q := ⟨_, rfl⟩
  obtain ⟨m, hm⟩ : ∃ m, G % ((2 ^ n : Nat) : Int) = m := ⟨_, rfl⟩
  obtain ⟨z, hz⟩ : ∃ z, ((2 ^ (n - i - 1) : Nat) : Int) = z := ⟨_, rfl⟩
  rw [hq, hm] at hd
  rw [hm]
  rw [e3, hz] at hd
  have hG : G = m + ((2 ^ i : Nat) : Int) * (2 * (z * q)) := by
   rw [← hd, Int.mul_assoc, Int.mul_assoc]; omega
  rw [hG, Int.add_mul_ediv_left _ _ (by omega)]
  omega
 have e4 : (gvn G n / 2 ^ i % 2 = 1) ↔ (G / ((2 ^ i : Nat) : Int) % 2 = 1) := by rw [← e2]; omega
 simp only [e4]
end Go.Proofs.Ytmiidhgbdecdkaa
