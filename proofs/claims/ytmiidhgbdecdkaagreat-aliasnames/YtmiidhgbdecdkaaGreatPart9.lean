import Derived.Test.YtmiidhgbdecdkaaGreatPart8
namespace Go.Proofs.YtmiidhgbdecdkaaGreat
open Go.RowKit
set_option linter.unusedVariables false
set_option linter.unusedSimpArgs false
theorem kids_none (w : World) (S : Blk) : Kids w (inH S) (.slice none 0 0) [] := ⟨none, 0, rfl, .inl ⟨rfl, rfl, rfl⟩, .inl rfl⟩
theorem kids_at {w : World} {S : Blk} {R : List (Nd × Value)} {cs : Array Value} {G : Nat} (hg : w.heap[G]? = some (.cells cs 29)) (hcs : cs.toList = cellsN R) (hk : ∀ r ∈ R, Kids w (inH S) r.2 r.1.args) (hS : S G) (h0 : 0 < R.length) : Kids w (inH S) (.slice (some ⟨G, 0, none⟩) R.length R.length) (R.map fun r => r.1) := by
 refine ⟨_, _, by rw [List.length_map], .inr ⟨_, rfl, .inr hS, by rw [List.length_map]; exact Nat.le_refl _⟩, .inr ⟨_, 0, rfl, KA_of fun i hi => ?_⟩⟩
 have hi' : i < R.length := by simpa using hi
 have key : ∀ k, k < 7 → w.cell? ⟨G, 0 + i * 7 + k, none⟩ = (nodeCells R[i].1 R[i].2)[k]? := fun k hk => by
  rw [← cellsN_at R i k hi' hk, ← hcs, Nat.zero_add, cell_heap hg, Array.getElem?_toList]
 rw [List.getElem_map]
 exact ⟨key 0 (by decide), key 1 (by decide), key 2 (by decide), key 3 (by decide), key 4 (by decide), key 6 (by decide), R[i].2, key 5 (by decide), hk _ (List.getElem_mem hi')⟩
theorem strs_mk {w : World} {G : Nat} {l : List ByteArray} {cs : Array Value} (h : w.heap[G]? = some (.cells cs 9)) (hcs : cs.toList = l.map Value.string := by rfl) : StrsA w (some ⟨G, 0, none⟩) l := fun i hi => by
 refine ⟨G, 0, rfl, ?_⟩
 rw [cell_heap h, Nat.zero_add, ← Array.getElem?_toList, hcs, List.getElem?_map, List.getElem?_eq_getElem hi]
 rfl
theorem cell_to {U x : World} {E : Nat} (h : ∀ j, j < U.heap.size → j ≠ E → x.heap[j]? = U.heap[j]?) {a : Addr} {v : Value} (hne : a.block ≠ E) (hc : U.cell? a = some v) : x.cell? a = some v := (World.cell?_of_block (w := U) (h _ (mcell_lt hc) hne)).trans hc
theorem PM.offs {w : World} {b n : Nat} {nd : ByteArray → Option Nd} {S : Blk} (h : PM w b n nd S) {k : ByteArray} (hk : k.size ≤ maxLen) {t : Nd} (ht : nd k = some t) : ∃ p c, ∀ x, (∀ j, (j = b ∨ S j) → x.heap[j]? = w.heap[j]?) → (Instr.lookup 89 (.map (some b)) (.string k) false).run Tryz.prog x = .ok (nv t (.slice p t.args.length c)) x ∧ Kids x (inH S) (.slice p t.args.length c) t.args := by
 obtain ⟨f, h1, h2⟩ := h
 have := h2 k
 rw [ht] at this
 obtain ⟨p, c, e1, e2⟩ := this
 refine ⟨p, c, fun x hx => ⟨?_, e2.inKeep fun j hj => hx j (.inr hj)⟩⟩
 rw [(h1.block (hx b (.inl rfl))).look1 Tryz.underlying89 (zero_Node x) hk, e1]
 rfl
def rnmA (r : Nd) : ByteArray := if r.kind = 2 then ⟨#[115, 99, 97, 108, 101]⟩ else if r.kind = 3 then ⟨#[115, 99, 97, 108, 101]⟩ else ⟨#[99, 104, 97, 105, 110]⟩
def rlA (a : Int) (r : Nd) : List Nd := if r.kind = 2 then [⟨2, ⟨#[]⟩, fneg r.num, 0, ⟨#[]⟩, [], r.at_⟩] else if r.kind = 3 then [⟨2, ⟨#[]⟩, fneg (ffrom r.int_), 0, ⟨#[]⟩, [], r.at_⟩] else [madeN a ⟨#[115, 99, 97, 108, 101, 95, 98, 121, 95, 115, 99, 104, 101, 100, 117, 108, 101]⟩ [r], madeN a ⟨#[115, 99, 97, 108, 101]⟩ [⟨2, ⟨#[]⟩, 3212836864, 0, ⟨#[]⟩, [], a⟩]]
theorem rate_made (a : Int) (r : Nd) : rateA a r = madeN a (rnmA r) (rlA a r) := by
 unfold rateA rnmA rlA
 by_cases h2 : r.kind = 2
 ·simp [h2]
 ·by_cases h3 : r.kind = 3
  ·simp [h3]
  ·simp [h2, h3, placeN, numN, placeL_nil]
set_option maxRecDepth 100000 in
set_option maxHeartbeats 4000000 in
theorem decayed_any (b n : Nat) (a : Int) (nd : ByteArray → Option Nd) (S : Blk) (x_mask : Nd) (x_weight_decay : Nd) (w : World) (h_mask : nd ⟨#[109, 97, 115, 107]⟩ = some x_mask) (h_weight_decay : nd ⟨#[119, 101, 105, 103, 104, 116, 95, 100, 101, 99, 97, 121]⟩ = some x_weight_decay) (hS : ∀ j, S j → j < w.heap.size) (hp : PM w b n nd S) :
  Calls Tryz.prog 70 #[.agg #[.map (some b), .int .i64 a]] w fun e w' => ∃ p c, e = .returned (.agg #[.int .i64 1, .string ⟨#[109, 97, 115, 107, 101, 100]⟩, .int .u32 0, .int .i64 0, .string ⟨#[]⟩, .slice p 2 c, .int .i64 a]) ∧ Kids w' (inH (fun j => S j ∨ w.heap.size + 1 < j)) (.slice p 2 c) [x_mask, madeN a ⟨#[97, 100, 100, 95, 100, 101, 99, 97, 121, 101, 100, 95, 119, 101, 105, 103, 104, 116, 115]⟩ [x_weight_decay]] ∧ Below w.heap.size w w' := by
 have HK_x_mask : Hid (nd ⟨#[109, 97, 115, 107]⟩ = some x_mask) := h_mask
 have HK_x_weight_decay : Hid (nd ⟨#[119, 101, 105, 103, 104, 116, 95, 100, 101, 99, 97, 121]⟩ = some x_weight_decay) := h_weight_decay
 obtain ⟨W, hW, hT⟩ := TwoB.start w b a
 have HTW : Hid (TwoB w b a W) := hT
 have HSZ : Hid (w.heap.size + 2 ≤ W.heap.size) := hlt hT.2.2
 have HPM : Hid (PM W b n nd S) := hp.below hT.1
 have HSB : Hid (∀ j, (j = b ∨ S j) → j < W.heap.size ∧ j ≠ w.heap.size + 1) := fun j hj => by
  have h1 := HSZ.out
  rcases hj with rfl | hj
  ·obtain ⟨f, h, _⟩ := hp; have := h.lt; omega
  ·have := hS j hj; omega
 obtain ⟨⟨g0, g1⟩, -⟩ := twoC hT.2.1
 have HBz : Hid (Below W.heap.size W W) := Below.refl _ _
 clear hT
 obtain ⟨pl3, cl3, hl3⟩ := HPM.out.offs (k := ⟨#[109, 97, 115, 107]⟩) (by decide) HK_x_mask.out
 have HL3 : Hid (∀ x, (∀ j, j < W.heap.size → j ≠ w.heap.size + 1 → x.heap[j]? = W.heap[j]?) → (Instr.lookup 89 (.map (some b)) (.string ⟨#[109, 97, 115, 107]⟩) false).run Tryz.prog x = .ok (.agg #[.int .i64 x_mask.kind, .string x_mask.name, .int .u32 x_mask.num, .int .i64 x_mask.int_, .string x_mask.key, .slice pl3 x_mask.args.length cl3, .int .i64 x_mask.at_]) x ∧ Kids x (inH S) (.slice pl3 x_mask.args.length cl3) x_mask.args) := fun x hx => hl3 x fun j hj => hx j (HSB.out j hj).1 (HSB.out j hj).2
 clear hl3
 have HOF6 : Hid (∀ (q : Option Addr) (c : Nat) (x : World), Below W.heap.size W x → StrsA x q [⟨#[119, 101, 105, 103, 104, 116, 95, 100, 101, 99, 97, 121]⟩] → Calls Tryz.prog 69 #[.agg #[.map (some b), .int .i64 a], .string ⟨#[97, 100, 100, 95, 100, 101, 99, 97, 121, 101, 100, 95, 119, 101, 105, 103, 104, 116, 115]⟩, .slice q 1 c] x fun e w' => ∃ p c, e = .returned (.agg #[.int .i64 1, .string ⟨#[97, 100, 100, 95, 100, 101, 99, 97, 121, 101, 100, 95, 119, 101, 105, 103, 104, 116, 115]⟩, .int .u32 0, .int .i64 0, .string ⟨#[]⟩, .slice p 1 c, .int .i64 a]) ∧ Kids w' (inH (fun j => S j ∨ w.heap.size + 1 < j)) (.slice p 1 c) [x_weight_decay] ∧ Below x.heap.size x w') := fun q c x hx hq => (of_any b n a nd S ⟨#[97, 100, 100, 95, 100, 101, 99, 97, 121, 101, 100, 95, 119, 101, 105, 103, 104, 116, 115]⟩ [⟨#[119, 101, 105, 103, 104, 116, 95, 100, 101, 99, 97, 121]⟩] [x_weight_decay] q c x (by decide) (by decide) (by simp [HK_x_weight_decay.out]) (fun j hj => by have := (HSB.out j (.inr hj)).1; have := hx.size; omega) (HPM.out.below hx) hq).mono fun e w' ⟨p, c, h1, h2, h3⟩ => ⟨p, c, h1, h2.weak (inH.sub fun j h => h.imp id fun h => by have := hx.size; have := HSZ.out; omega), h3⟩
 have HCA8 : Hid (∀ (q : Option Addr) (m c : Nat) (x : World), Calls Tryz.prog 73 #[.agg #[.map (some b), .int .i64 a], .string ⟨#[109, 97, 115, 107, 101, 100]⟩, .slice q m c] x fun e w' => e = .returned (.agg #[.int .i64 1, .string ⟨#[109, 97, 115, 107, 101, 100]⟩, .int .u32 0, .int .i64 0, .string ⟨#[]⟩, .slice q m c, .int .i64 a]) ∧ Below x.heap.size x w') := fun q m c x => pcall_any b a ⟨#[109, 97, 115, 107, 101, 100]⟩ q m c x
 clear h_mask h_weight_decay hp hS
 go_enter Tryz.func70, Tryz.ntmps70
 go_upto_region 1 with fail
 refine wp_region_held_drew (S := (fun x => ∀ j, j < W.heap.size → j ≠ w.heap.size + 1 → x.heap[j]? = W.heap[j]?)) (by kernel_rfl) ?_ (fun hHeld => ?_)
 ·((try dsimp only); first | exact HSE.out | exact fun j h1 _ => HBz.out.block j h1 | exact fun j _ _ => rfl)
 refine wpAnyH_take (i := 0) (v := ?_) (by simp only [List.getElem?_toArray, List.getElem?_cons_succ, List.getElem?_cons_zero]; rfl) (by kernel_rfl) (by kernel_rfl) (by kernel_rfl) (by exact fun _ _ _ h => h) (Or.inl ⟨by rfl, ?_⟩) (by assumption) ?_
 rotate_left 1
 ·(intro wS hSw; have hSb : ∀ j, j < W.heap.size → j ≠ w.heap.size + 1 → wS.heap[j]? = W.heap[j]? := hSw; clear hSw; have zp := (cell_to hSb (by simp) g0); have zq := (cell_to hSb (by simp) g1); have l3 := (HL3.out _ hSb).1; go_simp; try (with_reducible rfl))
 try simp only [Act.put, List.setIfInBounds_toArray, List.set_cons_zero, List.set_cons_succ]
 refine wpAnyH_take (i := 1) (v := ?_) (by simp only [List.getElem?_toArray, List.getElem?_cons_succ, List.getElem?_cons_zero]; rfl) (by kernel_rfl) (by kernel_rfl) (by kernel_rfl) (by exact fun _ _ _ h => h) (Or.inl ⟨by rfl, ?_⟩) (by assumption) ?_
 rotate_left 1
 ·(intro wS hSw; have hSb : ∀ j, j < W.heap.size → j ≠ w.heap.size + 1 → wS.heap[j]? = W.heap[j]? := hSw; clear hSw; have zp := (cell_to hSb (by simp) g0); have zq := (cell_to hSb (by simp) g1); have l3 := (HL3.out _ hSb).1; go_simp; try (with_reducible rfl))
 try simp only [Act.put, List.setIfInBounds_toArray, List.set_cons_zero, List.set_cons_succ]
 refine wpAnyH_take (i := 2) (v := ?_) (by simp only [List.getElem?_toArray, List.getElem?_cons_succ, List.getElem?_cons_zero]; rfl) (by kernel_rfl) (by kernel_rfl) (by kernel_rfl) (by exact fun _ _ _ h => h) (Or.inl ⟨by rfl, ?_⟩) (by assumption) ?_
 rotate_left 1
 ·(intro wS hSw; have hSb : ∀ j, j < W.heap.size → j ≠ w.heap.size + 1 → wS.heap[j]? = W.heap[j]? := hSw; clear hSw; have zp := (cell_to hSb (by simp) g0); have zq := (cell_to hSb (by simp) g1); have l3 := (HL3.out _ hSb).1; go_simp; try (with_reducible rfl))
 try simp only [Act.put, List.setIfInBounds_toArray, List.set_cons_zero, List.set_cons_succ]
 refine wpAnyH_take (i := 3) (v := ?_) (by simp only [List.getElem?_toArray, List.getElem?_cons_succ, List.getElem?_cons_zero]; rfl) (by kernel_rfl) (by kernel_rfl) (by kernel_rfl) (by exact fun _ _ _ h => h) (Or.inl ⟨by rfl, ?_⟩) (by assumption) ?_
 rotate_left 1
 ·(intro wS hSw; have hSb : ∀ j, j < W.heap.size → j ≠ w.heap.size + 1 → wS.heap[j]? = W.heap[j]? := hSw; clear hSw; have zp := (cell_to hSb (by simp) g0); have zq := (cell_to hSb (by simp) g1); have l3 := (HL3.out _ hSb).1; go_simp; try (with_reducible rfl))
 try simp only [Act.put, List.setIfInBounds_toArray, List.set_cons_zero, List.set_cons_succ]
 refine wpAnyH_take (i := 4) (v := ?_) (by simp only [List.getElem?_toArray, List.getElem?_cons_succ, List.getElem?_cons_zero]; rfl) (by kernel_rfl) (by kernel_rfl) (by kernel_rfl) (by exact fun _ _ _ h => h) (Or.inl ⟨by rfl, ?_⟩) (by assumption) ?_
 rotate_left 1
 ·(intro wS hSw; have hSb : ∀ j, j < W.heap.size → j ≠ w.heap.size + 1 → wS.heap[j]? = W.heap[j]? := hSw; clear hSw; have zp := (cell_to hSb (by simp) g0); have zq := (cell_to hSb (by simp) g1); have l3 := (HL3.out _ hSb).1; go_simp; try (with_reducible rfl))
 try simp only [Act.put, List.setIfInBounds_toArray, List.set_cons_zero, List.set_cons_succ]
 clear hHeld
 refine wpAnyH_ready (rs := [5]) (by kernel_rfl) (by simp) ?_
 refine AllReadyH.cons (i := 5) (by simp only [List.getElem?_toArray, List.getElem?_cons_succ, List.getElem?_cons_zero]; rfl) (fun K hK => ?_) AllReadyH.nil
 go_simp
 obtain ⟨G5, hG5⟩ : ∃ G, W.heap.size = G := ⟨_, rfl⟩
 obtain ⟨v5, hv5⟩ : ∃ V, (W.alloc (.cells #[.string ⟨#[119, 101, 105, 103, 104, 116, 95, 100, 101, 99, 97, 121]⟩] 9)).drew = V := ⟨_, rfl⟩
 have hb5 : Below W.heap.size W v5 := by rw [← hv5]; exact bel (bel_alloc _ _) (bel_d _)
 have HT5 : Hid (StrsA v5 (some ⟨G5, 0, none⟩) [⟨#[119, 101, 105, 103, 104, 116, 95, 100, 101, 99, 97, 121]⟩]) := strs_mk (by rw [← hv5, ← hG5]; exact box_heapA W _)
 have HBz : Hid (Below W.heap.size W v5) := bel HBz.out hb5
 rw [hv5, hG5]
 clear hv5 hG5 hb5
 refine hK.out _ _ ?_ (fun hHeld => ?_)
 ·((try dsimp only); first | exact HSE.out | exact fun j h1 _ => HBz.out.block j h1 | exact fun j _ _ => rfl)
 clear hK K
 try simp only [Act.put, List.setIfInBounds_toArray, List.set_cons_zero, List.set_cons_succ]
 clear hHeld
 refine wpAnyH_ready (rs := [6]) (by kernel_rfl) (by simp) ?_
 refine AllReadyH.cons (i := 6) (by simp only [List.getElem?_toArray, List.getElem?_cons_succ, List.getElem?_cons_zero]; rfl) (fun K hK => ?_) AllReadyH.nil
 go_simp
 (go_at_call 69; (with_reducible refine (HOF6.out _ _ _ HBz.out HT5.out).mono ?_); rintro e v6 ⟨p6, c6, rfl, hk6, hb6⟩; have HK6 : Hid (Kids v6 (inH (fun j => S j ∨ w.heap.size + 1 < j)) (.slice p6 1 c6) [x_weight_decay]) := hk6; clear hk6; have HT5 : Hid (StrsA v6 (some ⟨G5, 0, none⟩) [⟨#[119, 101, 105, 103, 104, 116, 95, 100, 101, 99, 97, 121]⟩]) := HT5.out.below hb6; have HBz : Hid (Below W.heap.size W v6) := bel HBz.out hb6; clear hb6)
 try (go_wp2_with fail)
 refine hK.out _ _ ?_ (fun hHeld => ?_)
 ·((try dsimp only); first | exact HSE.out | exact fun j h1 _ => HBz.out.block j h1 | exact fun j _ _ => rfl)
 clear hK K
 try simp only [Act.put, List.setIfInBounds_toArray, List.set_cons_zero, List.set_cons_succ]
 clear hHeld
 refine wpAnyH_ready (rs := [7]) (by kernel_rfl) (by simp) ?_
 refine AllReadyH.cons (i := 7) (by simp only [List.getElem?_toArray, List.getElem?_cons_succ, List.getElem?_cons_zero]; rfl) (fun K hK => ?_) AllReadyH.nil
 go_simp
 have hk7 := kids_row (w := v6) (S := (fun j => S j ∨ w.heap.size + 1 < j)) (R := [(x_mask, .slice pl3 x_mask.args.length cl3), (madeN a ⟨#[97, 100, 100, 95, 100, 101, 99, 97, 121, 101, 100, 95, 119, 101, 105, 103, 104, 116, 115]⟩ [x_weight_decay], .slice p6 1 c6)]) (cs := #[.int .i64 x_mask.kind, .string x_mask.name, .int .u32 x_mask.num, .int .i64 x_mask.int_, .string x_mask.key, .slice pl3 x_mask.args.length cl3, .int .i64 x_mask.at_, .int .i64 1, .string ⟨#[97, 100, 100, 95, 100, 101, 99, 97, 121, 101, 100, 95, 119, 101, 105, 103, 104, 116, 115]⟩, .int .u32 0, .int .i64 0, .string ⟨#[]⟩, .slice p6 1 c6, .int .i64 a]) rfl (List.forall_mem_cons.2 ⟨((HL3.out _ (fun j h1 _ => HBz.out.block j h1)).2.weak (inH.sub fun j h => .inl h)), List.forall_mem_cons.2 ⟨HK6.out, fun r h => by cases h⟩⟩) (.inr (by have := HBz.out.size; have := HSZ.out; omega)) (by simp)
 obtain ⟨G7, hG7⟩ : ∃ G, v6.heap.size = G := ⟨_, rfl⟩
 have hb7 : Below v6.heap.size v6 (v6.alloc (.cells #[.int .i64 x_mask.kind, .string x_mask.name, .int .u32 x_mask.num, .int .i64 x_mask.int_, .string x_mask.key, .slice pl3 x_mask.args.length cl3, .int .i64 x_mask.at_, .int .i64 1, .string ⟨#[97, 100, 100, 95, 100, 101, 99, 97, 121, 101, 100, 95, 119, 101, 105, 103, 104, 116, 115]⟩, .int .u32 0, .int .i64 0, .string ⟨#[]⟩, .slice p6 1 c6, .int .i64 a] 29)) := bel_alloc _ _
 obtain ⟨v7, hv7⟩ : ∃ V, v6.alloc (.cells #[.int .i64 x_mask.kind, .string x_mask.name, .int .u32 x_mask.num, .int .i64 x_mask.int_, .string x_mask.key, .slice pl3 x_mask.args.length cl3, .int .i64 x_mask.at_, .int .i64 1, .string ⟨#[97, 100, 100, 95, 100, 101, 99, 97, 121, 101, 100, 95, 119, 101, 105, 103, 104, 116, 115]⟩, .int .u32 0, .int .i64 0, .string ⟨#[]⟩, .slice p6 1 c6, .int .i64 a] 29) = V := ⟨_, rfl⟩
 rw [hG7] at hk7
 rw [hv7] at hb7
 have HK7 : Hid (Kids v7 (inH (fun j => S j ∨ w.heap.size + 1 < j)) (.slice (some ⟨G7, 0, none⟩) 2 2) [x_mask, madeN a ⟨#[97, 100, 100, 95, 100, 101, 99, 97, 121, 101, 100, 95, 119, 101, 105, 103, 104, 116, 115]⟩ [x_weight_decay]]) := by have := hk7; rw [hv7] at this; exact this
 have HT5 : Hid (StrsA v7 (some ⟨G5, 0, none⟩) [⟨#[119, 101, 105, 103, 104, 116, 95, 100, 101, 99, 97, 121]⟩]) := HT5.out.below hb7
 have HK6 : Hid (Kids v7 (inH (fun j => S j ∨ w.heap.size + 1 < j)) (.slice p6 1 c6) [x_weight_decay]) := HK6.out.below hb7
 have HBz : Hid (Below W.heap.size W v7) := bel HBz.out hb7
 rw [hv7, hG7]
 clear hk7 hv7 hG7 hb7
 refine hK.out _ _ ?_ (fun hHeld => ?_)
 ·((try dsimp only); first | exact HSE.out | exact fun j h1 _ => HBz.out.block j h1 | exact fun j _ _ => rfl)
 clear hK K
 try simp only [Act.put, List.setIfInBounds_toArray, List.set_cons_zero, List.set_cons_succ]
 clear hHeld
 refine wpAnyH_ready (rs := [8]) (by kernel_rfl) (by simp) ?_
 refine AllReadyH.cons (i := 8) (by simp only [List.getElem?_toArray, List.getElem?_cons_succ, List.getElem?_cons_zero]; rfl) (fun K hK => ?_) AllReadyH.nil
 go_simp
 (go_at_call 73; (with_reducible refine (HCA8.out _ _ _ _).mono ?_); rintro e v8 ⟨rfl, hb8⟩; have HT5 : Hid (StrsA v8 (some ⟨G5, 0, none⟩) [⟨#[119, 101, 105, 103, 104, 116, 95, 100, 101, 99, 97, 121]⟩]) := HT5.out.below hb8; have HK6 : Hid (Kids v8 (inH (fun j => S j ∨ w.heap.size + 1 < j)) (.slice p6 1 c6) [x_weight_decay]) := HK6.out.below hb8; have HK7 : Hid (Kids v8 (inH (fun j => S j ∨ w.heap.size + 1 < j)) (.slice (some ⟨G7, 0, none⟩) 2 2) [x_mask, madeN a ⟨#[97, 100, 100, 95, 100, 101, 99, 97, 121, 101, 100, 95, 119, 101, 105, 103, 104, 116, 115]⟩ [x_weight_decay]]) := HK7.out.below hb8; have HBz : Hid (Below W.heap.size W v8) := bel HBz.out hb8; clear hb8)
 try (go_wp2_with fail)
 refine hK.out _ _ ?_ (fun hHeld => ?_)
 ·((try dsimp only); first | exact HSE.out | exact fun j h1 _ => HBz.out.block j h1 | exact fun j _ _ => rfl)
 clear hK K
 try simp only [Act.put, List.setIfInBounds_toArray, List.set_cons_zero, List.set_cons_succ]
 clear hHeld
 refine wpAnyH_ready (rs := [9]) (by kernel_rfl) (by simp) ?_
 refine AllReadyH.cons (i := 9) (by simp only [List.getElem?_toArray, List.getElem?_cons_succ, List.getElem?_cons_zero]; rfl) (fun K hK => ?_) AllReadyH.nil
 obtain ⟨⟨s0, s1, s2, s3, s4, s5, s6⟩, r0, r1, r2, r3, r4, r5, r6⟩ := sevenA (HTW.out.below HBz.out).2.2
 go_simp
 have hoff := offS_seven v8 (w.heap.size + 1) (.int .i64 1) (.string ⟨#[109, 97, 115, 107, 101, 100]⟩) (.int .u32 0) (.int .i64 0) (.string ⟨#[]⟩) (.slice (some ⟨G7, 0, none⟩) 2 2) (.int .i64 a)
 have hosz := size_sevenS v8 (w.heap.size + 1) (.int .i64 1) (.string ⟨#[109, 97, 115, 107, 101, 100]⟩) (.int .u32 0) (.int .i64 0) (.string ⟨#[]⟩) (.slice (some ⟨G7, 0, none⟩) 2 2) (.int .i64 a)
 have hdone := (HTW.out.below HBz.out).done (.int .i64 1) (.string ⟨#[109, 97, 115, 107, 101, 100]⟩) (.int .u32 0) (.int .i64 0) (.string ⟨#[]⟩) (.slice (some ⟨G7, 0, none⟩) 2 2) (.int .i64 a)
 have hsv := put_sevenA (HTW.out.below HBz.out).2.2 (.int .i64 1) (.string ⟨#[109, 97, 115, 107, 101, 100]⟩) (.int .u32 0) (.int .i64 0) (.string ⟨#[]⟩) (.slice (some ⟨G7, 0, none⟩) 2 2) (.int .i64 a)
 have HSzz : Hid (∀ j, j < W.heap.size → j ≠ w.heap.size + 1 → ((((((((v8.setCell ⟨w.heap.size + 1, 0, none⟩ (.int .i64 1)).setCell ⟨w.heap.size + 1, 1, none⟩ (.string ⟨#[109, 97, 115, 107, 101, 100]⟩)).setCell ⟨w.heap.size + 1, 2, none⟩ (.int .u32 0)).setCell ⟨w.heap.size + 1, 3, none⟩ (.int .i64 0)).setCell ⟨w.heap.size + 1, 4, none⟩ (.string ⟨#[]⟩)).setCell ⟨w.heap.size + 1, 5, none⟩ (.slice (some ⟨G7, 0, none⟩) 2 2)).setCell ⟨w.heap.size + 1, 6, none⟩ (.int .i64 a))).heap[j]? = W.heap[j]?) := fun j h1 h2 => (hoff.sameSize hosz (by exact h2)).trans (HBz.out.block j h1)
 obtain ⟨vE, hvE⟩ : ∃ V, (((((((v8.setCell ⟨w.heap.size + 1, 0, none⟩ (.int .i64 1)).setCell ⟨w.heap.size + 1, 1, none⟩ (.string ⟨#[109, 97, 115, 107, 101, 100]⟩)).setCell ⟨w.heap.size + 1, 2, none⟩ (.int .u32 0)).setCell ⟨w.heap.size + 1, 3, none⟩ (.int .i64 0)).setCell ⟨w.heap.size + 1, 4, none⟩ (.string ⟨#[]⟩)).setCell ⟨w.heap.size + 1, 5, none⟩ (.slice (some ⟨G7, 0, none⟩) 2 2)).setCell ⟨w.heap.size + 1, 6, none⟩ (.int .i64 a)) = V := ⟨_, rfl⟩
 rw [hvE] at hdone hsv HSzz
 try rw [hvE]
 have HSE := HSzz
 have HEND : Hid (Below w.heap.size w vE ∧ Kids vE (inH (fun j => S j ∨ w.heap.size + 1 < j)) (.slice (some ⟨G7, 0, none⟩) 2 2) [x_mask, madeN a ⟨#[97, 100, 100, 95, 100, 101, 99, 97, 121, 101, 100, 95, 119, 101, 105, 103, 104, 116, 115]⟩ [x_weight_decay]] ∧ vE.heap[w.heap.size + 1]? = some (.cells #[.int .i64 1, .string ⟨#[109, 97, 115, 107, 101, 100]⟩, .int .u32 0, .int .i64 0, .string ⟨#[]⟩, .slice (some ⟨G7, 0, none⟩) 2 2, .int .i64 a] 29)) := ⟨hdone.1, hdone.2 _ _ _ (fun j h => by rcases h with h | h; (have := (HSB.out j (.inr h)).2; omega); omega) HK7.out, hsv⟩
 clear hoff hosz hdone hsv hvE s0 s1 s2 s3 s4 s5 s6 r0 r1 r2 r3 r4 r5 r6
 refine hK.out _ _ ?_ (fun hHeld => ?_)
 ·((try dsimp only); first | exact HSE.out | exact fun j h1 _ => HBz.out.block j h1 | exact fun j _ _ => rfl)
 clear hK K
 try simp only [Act.put, List.setIfInBounds_toArray, List.set_cons_zero, List.set_cons_succ]
 refine wpAnyH_done (by kernel_rfl) ?_ _
 go_wp2
 obtain ⟨⟨s0, s1, s2, s3, s4, s5, s6⟩, r0, r1, r2, r3, r4, r5, r6⟩ := sevenA HEND.out.2.2
 refine bodyPost_ret (by simp [results, Tryz.results70, go_sem, s0, s1, s2, s3, s4, s5, s6]; try rfl) rfl ?_
 exact ⟨_, _, rfl, HEND.out.2.1, HEND.out.1⟩
end Go.Proofs.YtmiidhgbdecdkaaGreat
namespace Go.Proofs.YtmiidhgbdecdkaaGreat
open Go.RowKit
set_option linter.unusedVariables false
set_option linter.unusedSimpArgs false
def NotN (w : World) (b : Nat) : Prop := ∀ cs, w.heap[b]? ≠ some (.cells cs 29)
theorem NotN.eq {w w' : World} {b : Nat} (h : NotN w b) (e : w'.heap[b]? = w.heap[b]?) : NotN w' b := fun cs => by rw [e]; exact h cs
theorem cell_nomap {w : World} {a : Addr} {v : Value} (h : w.cell? a = some v) : ∀ es ck, w.heap[a.block]? ≠ some (.map es ck) := fun es ck e => by
 simp [World.cell?, e] at h
def Kp (w w' : World) : Prop := ∀ b, b < w.heap.size → (∀ es ck, w.heap[b]? ≠ some (.map es ck)) → w'.heap[b]? = w.heap[b]?
theorem Kp.block {w w' : World} (h : Kp w w') {a : Addr} {v : Value} (hc : w.cell? a = some v) : w'.heap[a.block]? = w.heap[a.block]? := h _ (mcell_lt hc) (cell_nomap hc)
theorem Kp.cell {w w' : World} (h : Kp w w') {a : Addr} {v : Value} (hc : w.cell? a = some v) : w'.cell? a = some v := (World.cell?_of_block (w := w) (h.block hc)).trans hc
theorem Kp.of {w w' : World} (k : Below w.heap.size w w') : Kp w w' := fun b hb _ => k.block b hb
theorem Kp.trans {a b c : World} (h : Kp a b) (k : Kp b c) : Kp a c := fun x hx hm => by
 have e := h x hx hm
 have hb : x < b.heap.size := by
  have h1 : a.heap[x]? = some a.heap[x] := Array.getElem?_eq_getElem hx
  rw [h1] at e
  exact (Array.getElem?_eq_some_iff.1 e).1
 exact (k x hb (fun es ck => by rw [e]; exact hm es ck)).trans e
theorem Kp.map {w w' : World} {b n : Nat} {f : ByteArray → Option Value} (hm : MapF w b n f) (hg : w.grownBy w' (some b)) : Kp w w' := fun x hx hnm => by
 refine hg.block x hx fun e => ?_
 obtain ⟨es, ck, h0⟩ := hm.obj
 have : x = b := Option.some.inj e
 exact hnm es ck (by rw [this]; exact h0)
theorem StrsA.kp {w w' : World} {q : Option Addr} {l : List ByteArray} (h : StrsA w q l) (k : Kp w w') : StrsA w' q l := fun i hi => by
 obtain ⟨g, o, h1, h2⟩ := h i hi
 exact ⟨g, o, h1, k.cell h2⟩
def StrsN (w : World) (q : Option Addr) (l : List ByteArray) : Prop := ∀ i (h : i < l.length), ∃ g o, q = some ⟨g, o, none⟩ ∧ w.cell? ⟨g, o + i, none⟩ = some (.string l[i]) ∧ NotN w g
theorem StrsN.a {w : World} {q : Option Addr} {l : List ByteArray} (h : StrsN w q l) : StrsA w q l := fun i hi => by
 obtain ⟨g, o, h1, h2, -⟩ := h i hi
 exact ⟨g, o, h1, h2⟩
theorem StrsN.kp {w w' : World} {q : Option Addr} {l : List ByteArray} (h : StrsN w q l) (k : Kp w w') : StrsN w' q l := fun i hi => by
 obtain ⟨g, o, h1, h2, h3⟩ := h i hi
 exact ⟨g, o, h1, k.cell h2, h3.eq (k.block h2)⟩
theorem notN_of {w : World} {b : Nat} {cs : Array Value} {t : TypeId} (h : w.heap[b]? = some (.cells cs t)) (ht : t ≠ 29) : NotN w b := fun cs' e => by
 rw [h] at e
 simp only [Option.some.injEq, Obj.cells.injEq] at e
 exact ht e.2.1
theorem strn_mk {w : World} {G : Nat} {l : List ByteArray} {cs : Array Value} (h : w.heap[G]? = some (.cells cs 9)) (hcs : cs.toList = l.map Value.string) : StrsN w (some ⟨G, 0, none⟩) l := fun i hi => by
 obtain ⟨g, o, h1, h2⟩ := strs_mk h hcs i hi
 simp only [Option.some.injEq, Addr.mk.injEq] at h1
 obtain ⟨rfl, rfl, -⟩ := h1
 exact ⟨G, 0, rfl, h2, notN_of h (by decide)⟩
def argCells (x : ByteArray × Nd) : List Value := [.string x.1, .int .i64 x.2.kind, .string x.2.name, .int .u32 x.2.num, .int .i64 x.2.int_, .string x.2.key, .slice none 0 0, .int .i64 x.2.at_]
def cellsG (L : List (ByteArray × Nd)) : List Value := L.flatMap argCells
theorem cellsG_len (L : List (ByteArray × Nd)) : (cellsG L).length = L.length * 8 := by
 induction L with
 | nil => rfl
 | cons x L ih =>
  have e : cellsG (x :: L) = argCells x ++ cellsG L := by simp [cellsG]
  rw [e, List.length_append, ih]
  simp [argCells]; omega
theorem cellsG_one (L : List (ByteArray × Nd)) : ∀ u ∈ cellsG L, u.oneCell' = true := by
 intro u hu
 simp only [cellsG, List.mem_flatMap] at hu
 obtain ⟨x, -, hx⟩ := hu
 simp only [argCells, List.mem_cons, List.not_mem_nil, or_false] at hx
 rcases hx with rfl | rfl | rfl | rfl | rfl | rfl | rfl | rfl <;> rfl
def ArgsG (w : World) (q : Option Addr) (L : List (ByteArray × Nd)) : Prop := ∃ g, q = some ⟨g, 0, none⟩ ∧ ((∃ u, w.cell? ⟨g, 0, none⟩ = some u) ∧ NotN w g) ∧ ∀ j u, (cellsG L)[j]? = some u → w.cell? ⟨g, j, none⟩ = some u
theorem ArgsG.kp {w w' : World} {q : Option Addr} {L : List (ByteArray × Nd)} (h : ArgsG w q L) (k : Kp w w') : ArgsG w' q L := by
 obtain ⟨g, h1, ⟨⟨u0, hu0⟩, hn⟩, h2⟩ := h
 exact ⟨g, h1, ⟨⟨u0, k.cell hu0⟩, hn.eq (k.block hu0)⟩, fun j u hu => k.cell (h2 j u hu)⟩
theorem args_mk {w : World} {G : Nat} {L : List (ByteArray × Nd)} {cs : Array Value} (h : w.heap[G]? = some (.cells cs 117)) (hcs : cs.toList = cellsG L) (h0 : 0 < L.length) : ArgsG w (some ⟨G, 0, none⟩) L := by
 have key : ∀ j u, (cellsG L)[j]? = some u → w.cell? ⟨G, j, none⟩ = some u := fun j u hu => by
  rw [cell_heap h, ← Array.getElem?_toList, hcs]
  exact hu
 have hl : 0 < (cellsG L).length := by rw [cellsG_len]; omega
 refine ⟨G, rfl, ⟨⟨_, key 0 _ (List.getElem?_eq_getElem hl)⟩, notN_of h (by decide)⟩, fun j u hu => ?_⟩
 rw [cell_heap h, ← Array.getElem?_toList, hcs]
 exact hu
def decG : List Value → List (ByteArray × Nd)
 | .string nm :: .int .i64 k :: .string n2 :: .int .u32 x :: .int .i64 i :: .string y :: _ :: .int .i64 a :: r => (nm, ⟨k, n2, x, i, y, [], a⟩) :: decG r
 | _ => []
def decS : List Value → List ByteArray
 | .string nm :: r => nm :: decS r
 | _ => []
theorem new_arg (w : World) : ∃ W, w.alloc (.cells #[.string ⟨#[]⟩, .int .i64 0, .string ⟨#[]⟩, .int .u32 0, .int .i64 0, .string ⟨#[]⟩, .slice none 0 0, .int .i64 0] 117) = W ∧ W.heap[w.heap.size]? = some (.cells #[.string ⟨#[]⟩, .int .i64 0, .string ⟨#[]⟩, .int .u32 0, .int .i64 0, .string ⟨#[]⟩, .slice none 0 0, .int .i64 0] 117) ∧ Below w.heap.size w W :=
 ⟨_, rfl, box_heapA _ _, (Below.refl _ _).alloc (Nat.le_refl _) _⟩
theorem eightC {v : World} {R : Nat} {a0 a1 a2 a3 a4 a5 a6 a7 : Value} {t : TypeId} (h : v.heap[R]? = some (.cells #[a0, a1, a2, a3, a4, a5, a6, a7] t)) :
  (v.cell? ⟨R, 0, none⟩ = some a0 ∧ v.cell? ⟨R, 1, none⟩ = some a1 ∧ v.cell? ⟨R, 2, none⟩ = some a2 ∧ v.cell? ⟨R, 3, none⟩ = some a3 ∧ v.cell? ⟨R, 4, none⟩ = some a4 ∧ v.cell? ⟨R, 5, none⟩ = some a5 ∧ v.cell? ⟨R, 6, none⟩ = some a6 ∧ v.cell? ⟨R, 7, none⟩ = some a7)
  ∧ (v.frozen? ⟨R, 0, none⟩ = false ∧ v.frozen? ⟨R, 1, none⟩ = false ∧ v.frozen? ⟨R, 2, none⟩ = false ∧ v.frozen? ⟨R, 3, none⟩ = false ∧ v.frozen? ⟨R, 4, none⟩ = false ∧ v.frozen? ⟨R, 5, none⟩ = false ∧ v.frozen? ⟨R, 6, none⟩ = false ∧ v.frozen? ⟨R, 7, none⟩ = false) :=
 ⟨⟨(at_cellA h 0 rfl).1, (at_cellA h 1 rfl).1, (at_cellA h 2 rfl).1, (at_cellA h 3 rfl).1, (at_cellA h 4 rfl).1, (at_cellA h 5 rfl).1, (at_cellA h 6 rfl).1, (at_cellA h 7 rfl).1⟩,
  (at_cellA h 0 rfl).2, (at_cellA h 1 rfl).2, (at_cellA h 2 rfl).2, (at_cellA h 3 rfl).2, (at_cellA h 4 rfl).2, (at_cellA h 5 rfl).2, (at_cellA h 6 rfl).2, (at_cellA h 7 rfl).2⟩
theorem below_eight {w W : World} (h : Below w.heap.size w W) (a b c d e f g i : Value) : Below w.heap.size w ((((((((W.setCell ⟨w.heap.size, 0, none⟩ a).setCell ⟨w.heap.size, 1, none⟩ b).setCell ⟨w.heap.size, 2, none⟩ c).setCell ⟨w.heap.size, 3, none⟩ d).setCell ⟨w.heap.size, 4, none⟩ e).setCell ⟨w.heap.size, 5, none⟩ f).setCell ⟨w.heap.size, 6, none⟩ g).setCell ⟨w.heap.size, 7, none⟩ i) :=
 below_at (below_seven h a b c d e f g) (Nat.le_refl _) 7 i
set_option maxHeartbeats 1000000 in
theorem anumber_any (nm : ByteArray) (f : Int) (w : World) :
  Calls Tryz.prog 61 #[.string nm, .int .u32 f] w fun e w' => e = .returned (.agg #[.string nm, .int .i64 2, .string ⟨#[]⟩, .int .u32 f, .int .i64 0, .string ⟨#[]⟩, .slice none 0 0, .int .i64 0]) ∧ Below w.heap.size w w' := by
 obtain ⟨W, hW, hX, hB⟩ := new_arg w
 have HB : Hid (Below w.heap.size w W) := hB
 obtain ⟨⟨s0, s1, s2, s3, s4, s5, s6, s7⟩, r0, r1, r2, r3, r4, r5, r6, r7⟩ := eightC hX
 clear hX hB
 go_enter Tryz.func61, Tryz.ntmps61
 go_wp2
 refine bodyPost_ret (by simp [results, Tryz.results61, go_sem, s0, s1, s2, s3, s4, s5, s6, s7, r0, r1, r2, r3, r4, r5, r6, r7]; try rfl) rfl ?_
 exact ⟨rfl, below_eight HB.out _ _ _ _ _ _ _ _⟩
set_option maxHeartbeats 1000000 in
theorem anesterov_any (w : World) :
  Calls Tryz.prog 62 #[] w fun e w' => e = .returned (.agg #[.string ⟨#[110, 101, 115, 116, 101, 114, 111, 118]⟩, .int .i64 4, .string ⟨#[102, 97, 108, 115, 101]⟩, .int .u32 0, .int .i64 0, .string ⟨#[]⟩, .slice none 0 0, .int .i64 0]) ∧ Below w.heap.size w w' := by
 obtain ⟨W, hW, hX, hB⟩ := new_arg w
 have HB : Hid (Below w.heap.size w W) := hB
 obtain ⟨⟨s0, s1, s2, s3, s4, s5, s6, s7⟩, r0, r1, r2, r3, r4, r5, r6, r7⟩ := eightC hX
 clear hX hB
 go_enter Tryz.func62, Tryz.ntmps62
 go_wp2
 refine bodyPost_ret (by simp [results, Tryz.results62, go_sem, s0, s1, s2, s3, s4, s5, s6, s7, r0, r1, r2, r3, r4, r5, r6, r7]; try rfl) rfl ?_
 exact ⟨rfl, below_eight HB.out _ _ _ _ _ _ _ _⟩
set_option maxHeartbeats 1000000 in
theorem amask_any (w : World) :
  Calls Tryz.prog 66 #[] w fun e w' => e = .returned (.agg #[.string ⟨#[109, 97, 115, 107]⟩, .int .i64 1, .string ⟨#[97, 108, 108]⟩, .int .u32 0, .int .i64 0, .string ⟨#[]⟩, .slice none 0 0, .int .i64 0]) ∧ Below w.heap.size w w' := by
 obtain ⟨W, hW, hX, hB⟩ := new_arg w
 have HB : Hid (Below w.heap.size w W) := hB
 obtain ⟨⟨s0, s1, s2, s3, s4, s5, s6, s7⟩, r0, r1, r2, r3, r4, r5, r6, r7⟩ := eightC hX
 clear hX hB
 go_enter Tryz.func66, Tryz.ntmps66
 go_wp2
 refine bodyPost_ret (by simp [results, Tryz.results66, go_sem, s0, s1, s2, s3, s4, s5, s6, s7, r0, r1, r2, r3, r4, r5, r6, r7]; try rfl) rfl ?_
 exact ⟨rfl, below_eight HB.out _ _ _ _ _ _ _ _⟩
theorem info_argument : (Tryz.prog.info? 117).map (fun i => (i.zero, i.size, i.bytes)) = some (some (.agg #[.string ⟨#[]⟩, .int .i64 0, .string ⟨#[]⟩, .int .u32 0, .int .i64 0, .string ⟨#[]⟩, .slice none 0 0, .int .i64 0]), 8, 104) := by kernel_rfl
def rateArg : ByteArray × Nd := (⟨#[114, 97, 116, 101]⟩, noneN)
theorem owns_args {w : World} {C n g cap : Nat} {L : List (ByteArray × Nd)} (h0 : 0 < L.length) (h : w.ownsRow C 117 8 (.slice (some ⟨g, 0, none⟩) n cap) n (cellsG L)) : ArgsG w (some ⟨g, 0, none⟩) L := by
 obtain ⟨hl, ⟨hv, -⟩ | ⟨g', cap', cur, hv, hB, hg, hc1, hc2, hsz, htk⟩⟩ := h
 ·cases hv
 ·simp only [Value.slice.injEq, Option.some.injEq, Addr.mk.injEq] at hv
  obtain ⟨⟨rfl, -⟩, -⟩ := hv
  have key : ∀ j u, (cellsG L)[j]? = some u → w.cell? ⟨g, j, none⟩ = some u := fun j u hu => by
   rw [cell_heap hg, ← Array.getElem?_toList]
   rw [← htk] at hu
   have hj : j < n * 8 := by
    have := (List.getElem?_eq_some_iff.1 hu).1
    rw [List.length_take] at this
    omega
   rw [List.getElem?_take_of_lt hj] at hu
   exact hu
  have hl : 0 < (cellsG L).length := by rw [cellsG_len]; omega
  exact ⟨g, rfl, ⟨⟨_, key 0 _ (List.getElem?_eq_getElem hl)⟩, notN_of hg (by decide)⟩, key⟩
set_option maxRecDepth 100000 in
set_option maxHeartbeats 1000000 in
theorem takes_any (L : List (ByteArray × Nd)) (q : Option Addr) (c : Nat) (w : World) (h0 : 0 < L.length) (hl : L.length ≤ 1000) (h : ArgsG w q L) :
  Calls Tryz.prog 60 #[.slice q L.length c] w fun e w' => ∃ p c, e = .returned (.slice p (L.length + 1) c) ∧ ArgsG w' p (rateArg :: L) ∧ Below w.heap.size w w' := by
 obtain ⟨g, rfl, -, hg⟩ := h
 obtain ⟨i0, hi0, hz0, hz1, hz2⟩ := info_parts info_argument
 obtain ⟨n, hn⟩ : ∃ n, L.length = n := ⟨_, rfl⟩
 have HN : Hid (L.length = n) := hn
 have HG : Hid (∀ j u, (cellsG L)[j]? = some u → w.cell? ⟨g, j, none⟩ = some u) := hg
 rw [hn] at h0 hl ⊢
 have HO : Hid ((w.alloc (.cells #[.string ⟨#[114, 97, 116, 101]⟩, .int .i64 0, .string ⟨#[]⟩, .int .u32 0, .int .i64 0, .string ⟨#[]⟩, .slice none 0 0, .int .i64 0] 117)).ownsRow w.heap.size 117 8 (.slice (some ⟨w.heap.size, 0, none⟩) 1 1) 1 (argCells rateArg)) := ⟨rfl, .inr ⟨w.heap.size, 1, _, rfl, Nat.le_refl _, box_heapA w _, Nat.le_refl _, by unfold maxLen; decide, rfl, rfl⟩⟩
 have HNW : Hid (∀ j u, (cellsG L)[j]? = some u → (w.alloc (.cells #[.string ⟨#[114, 97, 116, 101]⟩, .int .i64 0, .string ⟨#[]⟩, .int .u32 0, .int .i64 0, .string ⟨#[]⟩, .slice none 0 0, .int .i64 0] 117)).cell? ((⟨g, 0, none⟩ : Addr).add j) = some u) := fun j u hu => by
  have h1 := hg j u hu
  have h2 := ((bel_alloc w (.cells #[.string ⟨#[114, 97, 116, 101]⟩, .int .i64 0, .string ⟨#[]⟩, .int .u32 0, .int .i64 0, .string ⟨#[]⟩, .slice none 0 0, .int .i64 0] 117)).cell (mcell_lt h1)).trans h1
  have h3 : (⟨g, 0, none⟩ : Addr).add j = ⟨g, j, none⟩ := by unfold Addr.add; split <;> simp_all
  rw [h3]
  exact h2
 clear hg hn
 go_enter Tryz.func60, Tryz.ntmps60
 go_wp2_with (at_builtin; go_loud (refine wpList_append_lies _ rfl _ _ 44 rfl w.heap.size 117 i0 _ 8 104 Tryz.underlying44 hi0 hz0 hz1 hz2 rfl (by decide) (.slice (some ⟨w.heap.size, 0, none⟩) 1 1) 1 (argCells rateArg) rfl HO.out ⟨g, 0, none⟩ n c (cellsG L) rfl (by rw [cellsG_len, HN.out]) HNW.out (cellsG_one L) h0 (by unfold maxLen; omega) (by omega) (by simp) (w.heap.size + 1) (by simp) ?_); intro gg cap w4 hown4 hg4 hat4 hlt4; have HF : Hid (ArgsG w4 (some ⟨gg, 0, none⟩) (rateArg :: L) ∧ Below w.heap.size w w4) := ⟨owns_args (by simp) (show w4.ownsRow w.heap.size 117 8 (.slice (some ⟨gg, 0, none⟩) (1 + n) cap) (1 + n) (cellsG (rateArg :: L)) from hown4), Below.grown (bel_alloc w _) hg4 (by simp) (fun x hx => by simp [Value.ownBlock] at hx; omega)⟩; clear hown4 hg4 hat4)
 refine bodyPost_ret (by simp [results, Tryz.results60, go_sem]; try rfl) rfl ?_
 exact ⟨_, _, by rw [Nat.add_comm], HF.out.1, HF.out.2⟩
set_option maxHeartbeats 1000000 in
theorem takes_none (w : World) :
  Calls Tryz.prog 60 #[.slice none 0 0] w fun e w' => ∃ p c, e = .returned (.slice p 1 c) ∧ ArgsG w' p [rateArg] ∧ Below w.heap.size w w' := by
 go_enter Tryz.func60, Tryz.ntmps60
 go_wp2
 refine bodyPost_ret (by simp [results, Tryz.results60, go_sem]; try rfl) rfl ?_
 exact ⟨_, _, rfl, args_mk (box_heapA w _) rfl (by simp), bel_alloc _ _⟩
inductive Bk
 | sc (nm : ByteArray) (ns : List ByteArray)
 | fn (k : Nat)
def FvOK (w : World) (fv : Value) : Bk → Prop
 | .sc nm ns => ∃ a1 a2 qq cc, fv = .func (.func 104) #[] #[.pointer (some a1), .pointer (some a2)] ∧ w.cell? a1 = some (.string nm) ∧ w.cell? a2 = some (.slice qq ns.length cc) ∧ StrsN w qq ns ∧ NotN w a1.block ∧ NotN w a2.block
 | .fn k => fv = .func (.func k) #[] #[]
theorem FvOK.kp {w w' : World} {fv : Value} {k : Bk} (h : FvOK w fv k) (hk : Kp w w') : FvOK w' fv k := by
 cases k with
 | fn k => exact h
 | sc nm ns =>
  obtain ⟨a1, a2, qq, cc, h1, h2, h3, h4, h5, h6⟩ := h
  exact ⟨a1, a2, qq, cc, h1, hk.cell h2, hk.cell h3, h4.kp hk, h5.eq (hk.block h2), h6.eq (hk.block h3)⟩
set_option maxHeartbeats 1000000 in
theorem scaled_any (nm : ByteArray) (ns : List ByteArray) (q : Option Addr) (c : Nat) (w : World) (h : StrsN w q ns) :
  Calls Tryz.prog 63 #[.string nm, .slice q ns.length c] w fun e w' => ∃ a1 a2, e = .returned (.func (.func 104) #[] #[.pointer (some a1), .pointer (some a2)]) ∧ FvOK w' (.func (.func 104) #[] #[.pointer (some a1), .pointer (some a2)]) (.sc nm ns) ∧ Below w.heap.size w w' := by
 obtain ⟨n, hn⟩ : ∃ n, ns.length = n := ⟨_, rfl⟩
 have HN : Hid (ns.length = n) := hn
 have HS : Hid (StrsN w q ns) := h
 rw [hn]
 clear hn h
 go_enter Tryz.func63, Tryz.ntmps63
 go_wp2
 refine bodyPost_ret (by simp [results, Tryz.results63, go_sem]; try rfl) rfl ?_
 have hb : Below w.heap.size w ((w.alloc (.cells #[.string nm] 9)).alloc (.cells #[.slice q n c] 22)) := bel (bel_alloc _ _) (bel_alloc _ _)
 refine ⟨_, _, rfl, ⟨_, _, q, c, rfl, ?_, ?_, HS.out.kp (Kp.of hb), notN_of (heap_old _ _ (box_heapA w _)) (by decide), notN_of (two_heap w _ _) (by decide)⟩, hb⟩
 ·exact (at_cellA (heap_old _ _ (box_heapA w _)) 0 rfl).1
 ·rw [HN.out]
  exact (at_cellA (two_heap w _ _) 0 rfl).1
end Go.Proofs.YtmiidhgbdecdkaaGreat
namespace Go.Proofs.YtmiidhgbdecdkaaGreat
open Go.RowKit
set_option linter.unusedVariables false
set_option linter.unusedSimpArgs false
abbrev Rent := ByteArray × List (ByteArray × Nd) × Bk
def RowE (w : World) (v : Value) (e : Rent) : Prop := ∃ q c fv, v = .agg #[.slice q e.2.1.length c, fv] ∧ ArgsG w q e.2.1 ∧ FvOK w fv e.2.2
theorem RowE.kp {w w' : World} {v : Value} {e : Rent} (h : RowE w v e) (k : Kp w w') : RowE w' v e := by
 obtain ⟨q, c, fv, h1, h2, h3⟩ := h
 exact ⟨q, c, fv, h1, h2.kp k, h3.kp k⟩
def TabF (w : World) (f : ByteArray → Option Value) (E : List Rent) : Prop :=
 (∀ nm v, f nm = some v → ∃ e ∈ E, e.1 = nm ∧ RowE w v e) ∧ ∀ e ∈ E, ∃ v, f e.1 = some v
theorem TabF.kp {w w' : World} {f : ByteArray → Option Value} {E : List Rent} (h : TabF w f E) (k : Kp w w') : TabF w' f E :=
 ⟨fun nm v hv => by obtain ⟨e, h1, h2, h3⟩ := h.1 nm v hv; exact ⟨e, h1, h2, h3.kp k⟩, h.2⟩
theorem TabF.put {w : World} {f : ByteArray → Option Value} {E : List Rent} (h : TabF w f E) {v : Value} {e : Rent} (he : RowE w v e) : TabF w (updF f e.1 v) (E ++ [e]) := by
 refine ⟨fun nm x hx => ?_, fun y hy => ?_⟩
 ·unfold updF at hx
  by_cases c : nm = e.1
  ·rw [if_pos c] at hx
   exact ⟨e, by simp, c.symm, by rw [← Option.some.inj hx]; exact he⟩
  ·rw [if_neg c] at hx
   obtain ⟨z, h1, h2, h3⟩ := h.1 nm x hx
   exact ⟨z, List.mem_append_left _ h1, h2, h3⟩
 ·unfold updF
  by_cases c : y.1 = e.1
  ·exact ⟨v, by rw [if_pos c]⟩
  ·rw [if_neg c]
   rcases List.mem_append.1 hy with hy | hy
   ·exact h.2 y hy
   ·simp at hy; subst hy; exact absurd rfl c
def Inv (w cur : World) (b : Nat) (E : List Rent) : Prop := Below w.heap.size w cur ∧ w.heap.size ≤ b ∧ ∃ n f, n ≤ 100 ∧ n ≤ E.length ∧ MapF cur b n f ∧ TabF cur f E
theorem Inv.below {w cur cur' : World} {b : Nat} {E : List Rent} (h : Inv w cur b E) (k : Below cur.heap.size cur cur') : Inv w cur' b E := by
 obtain ⟨h1, h2, n, f, h3, h4, h5, h6⟩ := h
 exact ⟨bel h1 k, h2, n, f, h3, h4, h5.below k, h6.kp (Kp.of k)⟩
theorem Inv.put {w cur : World} {b : Nat} {E : List Rent} (h : Inv w cur b E) (hE : E.length < 100) {e : Rent} {v : Value} (hk : e.1.size ≤ maxLen) (he : RowE cur v e) :
  ∃ w', (Instr.mapUpdate 43 (.map (some b)) (.string e.1) v).run Tryz.prog cur = .ok () w' ∧ Inv w w' b (E ++ [e]) := by
 obtain ⟨h1, h2, n, f, h3, h4, h5, h6⟩ := h
 obtain ⟨w', r1, r2, r3⟩ := h5.put (by unfold maxLen; omega) Tryz.underlying43 hk v
 refine ⟨w', r1, ?_, h2, n + 1, _, by omega, by simp; omega, r2, (h6.put he).kp (Kp.map h5 r3)⟩
 exact ⟨r3.os.trans h1.os, r3.tape.trans h1.tape, r3.output.trans h1.output, Nat.le_trans h1.size r3.size, fun j hj => (r3.block j (by have := h1.size; omega) (fun e => by have : j = b := Option.some.inj e; omega)).trans (h1.block j hj)⟩
theorem wpList_insert_row {w : World} {ops : Array Oper} {rest : List Oper} {o : Oper} {a : Act} {Q : Exit → Act → World → Prop} (cur : World)
  (hg : o.guard = none) (m x v : Operand) (hop : o.op = Op.insert 43 m x v) (b : Nat) (E : List Rent) (e : Rent) (val : Value)
  (hm : a.eval m = .map (some b)) (hx : a.eval x = .string e.1) (hv : a.eval v = val) (h : Inv w cur b E) (hE : E.length < 100) (hk : e.1.size ≤ maxLen) (he : RowE cur val e)
  (hK : ∀ w', Inv w w' b (E ++ [e]) → wpList Tryz.prog ops Q rest (a.put o.dst undef) w') : wpList Tryz.prog ops Q (o :: rest) a cur := by
 refine wpList_plain hg fun K' hK' => ?_
 obtain ⟨w', hrun, r1⟩ := h.put hE hk he
 unfold Oper.wp
 simp [execOp, hop, hm, hx, hv, hrun, Result.andThen]
 exact hK' _ _ (hK w' r1)
theorem inv_new (w : World) : Inv w (w.alloc (.map #[] 0)) w.heap.size [] :=
 ⟨bel_alloc _ _, Nat.le_refl _, 0, _, by omega, Nat.le_refl _, MapF.new w, (fun nm v h => by cases h), fun e h => by cases h⟩
theorem takes_block (cs : Array Value) (cur : World) (n : Nat) (hL : cs.toList = cellsG (decG cs.toList)) (hn : (decG cs.toList).length = n) (h0 : 0 < n) (hl : n ≤ 1000) :
  Calls Tryz.prog 60 #[.slice (some ⟨cur.heap.size, 0, none⟩) n n] (cur.alloc (.cells cs 117)) fun e w' => ∃ p c, e = .returned (.slice p (n + 1) c) ∧ ArgsG w' p (rateArg :: decG cs.toList) ∧ Below cur.heap.size cur w' := by
 subst hn
 exact (takes_any _ _ _ _ h0 hl (args_mk (box_heapA cur _) hL h0)).mono fun e w' ⟨p, c, h1, h2, h3⟩ => ⟨p, c, h1, h2, bel (bel_alloc _ _) h3⟩
theorem scaled_block (nm : ByteArray) (cs : Array Value) (cur : World) (n : Nat) (hL : cs.toList = (decS cs.toList).map Value.string) (hn : (decS cs.toList).length = n) :
  Calls Tryz.prog 63 #[.string nm, .slice (some ⟨cur.heap.size, 0, none⟩) n n] (cur.alloc (.cells cs 9)) fun e w' => ∃ a1 a2, e = .returned (.func (.func 104) #[] #[.pointer (some a1), .pointer (some a2)]) ∧ FvOK w' (.func (.func 104) #[] #[.pointer (some a1), .pointer (some a2)]) (.sc nm (decS cs.toList)) ∧ Below cur.heap.size cur w' := by
 subst hn
 exact (scaled_any nm _ _ _ _ (strn_mk (box_heapA cur _) hL)).mono fun e w' ⟨a1, a2, h1, h2, h3⟩ => ⟨a1, a2, h1, h2, bel (bel_alloc _ _) h3⟩
theorem hidM {p : Prop} (h : p) : Hid p := h
theorem RowE.mk {w : World} {q : Option Addr} {c n : Nat} {fv : Value} {nm : ByteArray} {L : List (ByteArray × Nd)} {k : Bk} (h1 : ArgsG w q L) (h2 : FvOK w fv k) (hn : L.length = n) : RowE w (.agg #[.slice q n c, fv]) (nm, L, k) := by subst hn; exact ⟨q, c, fv, rfl, h1, h2⟩
set_option maxRecDepth 100000 in
theorem upon_insert {w cur : World} {o : Oper} {a : Act} {K : Act → World → Prop} {Q : Exit → Act → World → Prop} {b : Nat} {E : List Rent} {nm : ByteArray} {L : List (ByteArray × Nd)} {k : Bk} {q : Option Addr} {n c : Nat} {fv : Value}
  (h : Inv w cur b E) (hE : E.length < 100) (hk : nm.size ≤ maxLen) (h1 : ArgsG cur q L) (h2 : FvOK cur fv k) (hn : L.length = n) (hK : ∀ w', Inv w w' b (E ++ [(nm, L, k)]) → K (a.put o.dst undef) w') :
  Oper.upon Tryz.prog o a K Q (((Instr.mapUpdate 43 (.map (some b)) (.string nm) (.agg #[.slice q n c, fv])).run Tryz.prog cur).andThen fun _ w' => .ok .skip w') := by
 have hr : RowE cur (.agg #[.slice q n c, fv]) (nm, L, k) := RowE.mk h1 h2 hn
 generalize hv : Value.agg #[.slice q n c, fv] = v at hr ⊢
 have hp := h.put hE (e := (nm, L, k)) (v := v) hk hr
 refine Exists.elim hp fun w' hh => ?_
 have hrun := hh.1
 have r1 := hh.2
 have e : ((Instr.mapUpdate 43 (.map (some b)) (.string nm) v).run Tryz.prog cur).andThen (fun _ w' => Result.ok Next.skip w') = .ok .skip w' := by
  show Result.andThen _ _ = _
  simp only [hrun, Result.andThen]
 rw [e]
 exact hK w' r1
def plainE : List Rent := [
 (⟨#[115, 103, 100]⟩, [rateArg, (⟨#[109, 111, 109, 101, 110, 116, 117, 109]⟩, numN 0), (⟨#[110, 101, 115, 116, 101, 114, 111, 118]⟩, flagN ⟨#[102, 97, 108, 115, 101]⟩)], .sc ⟨#[116, 114, 97, 99, 101]⟩ [⟨#[109, 111, 109, 101, 110, 116, 117, 109]⟩, ⟨#[110, 101, 115, 116, 101, 114, 111, 118]⟩]),
 (⟨#[97, 100, 97, 109]⟩, [rateArg, (⟨#[98, 49]⟩, numN 1063675494), (⟨#[98, 50]⟩, numN 1065336439), (⟨#[101, 112, 115]⟩, numN 841731191), (⟨#[101, 112, 115, 95, 114, 111, 111, 116]⟩, numN 0)], .sc ⟨#[115, 99, 97, 108, 101, 95, 98, 121, 95, 97, 100, 97, 109]⟩ [⟨#[98, 49]⟩, ⟨#[98, 50]⟩, ⟨#[101, 112, 115]⟩, ⟨#[101, 112, 115, 95, 114, 111, 111, 116]⟩]),
 (⟨#[97, 109, 115, 103, 114, 97, 100]⟩, [rateArg, (⟨#[98, 49]⟩, numN 1063675494), (⟨#[98, 50]⟩, numN 1065336439), (⟨#[101, 112, 115]⟩, numN 841731191), (⟨#[101, 112, 115, 95, 114, 111, 111, 116]⟩, numN 0)], .sc ⟨#[115, 99, 97, 108, 101, 95, 98, 121, 95, 97, 109, 115, 103, 114, 97, 100]⟩ [⟨#[98, 49]⟩, ⟨#[98, 50]⟩, ⟨#[101, 112, 115]⟩, ⟨#[101, 112, 115, 95, 114, 111, 111, 116]⟩]),
 (⟨#[97, 100, 97, 98, 101, 108, 105, 101, 102]⟩, [rateArg, (⟨#[98, 49]⟩, numN 1063675494), (⟨#[98, 50]⟩, numN 1065336439), (⟨#[101, 112, 115]⟩, numN 619091349), (⟨#[101, 112, 115, 95, 114, 111, 111, 116]⟩, numN 619091349)], .sc ⟨#[115, 99, 97, 108, 101, 95, 98, 121, 95, 98, 101, 108, 105, 101, 102]⟩ [⟨#[98, 49]⟩, ⟨#[98, 50]⟩, ⟨#[101, 112, 115]⟩, ⟨#[101, 112, 115, 95, 114, 111, 111, 116]⟩]),
 (⟨#[121, 111, 103, 105]⟩, [rateArg, (⟨#[98, 49]⟩, numN 1063675494), (⟨#[98, 50]⟩, numN 1065336439), (⟨#[101, 112, 115]⟩, numN 981668463), (⟨#[105, 110, 105, 116, 105, 97, 108]⟩, numN 897988541)], .sc ⟨#[115, 99, 97, 108, 101, 95, 98, 121, 95, 121, 111, 103, 105]⟩ [⟨#[98, 49]⟩, ⟨#[98, 50]⟩, ⟨#[101, 112, 115]⟩, ⟨#[105, 110, 105, 116, 105, 97, 108]⟩]),
 (⟨#[97, 100, 97, 100, 101, 108, 116, 97]⟩, [rateArg, (⟨#[114, 104, 111]⟩, numN 1063675494), (⟨#[101, 112, 115]⟩, numN 897988541)], .sc ⟨#[115, 99, 97, 108, 101, 95, 98, 121, 95, 97, 100, 97, 100, 101, 108, 116, 97]⟩ [⟨#[114, 104, 111]⟩, ⟨#[101, 112, 115]⟩]),
 (⟨#[97, 100, 97, 109, 97, 120]⟩, [rateArg, (⟨#[98, 49]⟩, numN 1063675494), (⟨#[98, 50]⟩, numN 1065336439), (⟨#[101, 112, 115]⟩, numN 841731191)], .sc ⟨#[115, 99, 97, 108, 101, 95, 98, 121, 95, 97, 100, 97, 109, 97, 120]⟩ [⟨#[98, 49]⟩, ⟨#[98, 50]⟩, ⟨#[101, 112, 115]⟩]),
 (⟨#[110, 111, 118, 111, 103, 114, 97, 100]⟩, [rateArg, (⟨#[98, 49]⟩, numN 1063675494), (⟨#[98, 50]⟩, numN 1048576000), (⟨#[101, 112, 115]⟩, numN 897988541), (⟨#[101, 112, 115, 95, 114, 111, 111, 116]⟩, numN 0), (⟨#[119, 101, 105, 103, 104, 116, 95, 100, 101, 99, 97, 121]⟩, numN 0)], .sc ⟨#[115, 99, 97, 108, 101, 95, 98, 121, 95, 110, 111, 118, 111, 103, 114, 97, 100]⟩ [⟨#[98, 49]⟩, ⟨#[98, 50]⟩, ⟨#[101, 112, 115]⟩, ⟨#[101, 112, 115, 95, 114, 111, 111, 116]⟩, ⟨#[119, 101, 105, 103, 104, 116, 95, 100, 101, 99, 97, 121]⟩]),
 (⟨#[111, 112, 116, 105, 109, 105, 115, 116, 105, 99]⟩, [rateArg, (⟨#[97, 108, 112, 104, 97]⟩, numN 1065353216), (⟨#[98, 101, 116, 97]⟩, numN 1065353216)], .sc ⟨#[115, 99, 97, 108, 101, 95, 98, 121, 95, 111, 112, 116, 105, 109, 105, 115, 116, 105, 99, 95, 103, 114, 97, 100, 105, 101, 110, 116]⟩ [⟨#[97, 108, 112, 104, 97]⟩, ⟨#[98, 101, 116, 97]⟩]),
 (⟨#[97, 100, 97, 103, 114, 97, 100]⟩, [rateArg, (⟨#[105, 110, 105, 116, 105, 97, 108]⟩, numN 1036831949), (⟨#[101, 112, 115]⟩, numN 869711765)], .sc ⟨#[115, 99, 97, 108, 101, 95, 98, 121, 95, 114, 115, 115]⟩ [⟨#[105, 110, 105, 116, 105, 97, 108]⟩, ⟨#[101, 112, 115]⟩])]
def otherE : List Rent := [
 (⟨#[115, 99, 97, 108, 101, 95, 98, 121, 95, 108, 101, 97, 114, 110, 105, 110, 103, 95, 114, 97, 116, 101]⟩, [rateArg], .fn 64),
 (⟨#[97, 100, 97, 109, 119]⟩, [rateArg, (⟨#[98, 49]⟩, numN 1063675494), (⟨#[98, 50]⟩, numN 1065336439), (⟨#[101, 112, 115]⟩, numN 841731191), (⟨#[101, 112, 115, 95, 114, 111, 111, 116]⟩, numN 0), (⟨#[119, 101, 105, 103, 104, 116, 95, 100, 101, 99, 97, 121]⟩, numN 953267991), (⟨#[109, 97, 115, 107]⟩, callA ⟨#[97, 108, 108]⟩ [])], .fn 67),
 (⟨#[97, 103, 99]⟩, [rateArg, (⟨#[99, 108, 105, 112, 112, 105, 110, 103]⟩, numN 1036831949), (⟨#[101, 112, 115]⟩, numN 981668463), (⟨#[109, 111, 109, 101, 110, 116, 117, 109]⟩, numN 0), (⟨#[110, 101, 115, 116, 101, 114, 111, 118]⟩, flagN ⟨#[102, 97, 108, 115, 101]⟩)], .fn 71),
 (⟨#[114, 109, 115, 112, 114, 111, 112]⟩, [rateArg, (⟨#[100, 101, 99, 97, 121]⟩, numN 1063675494), (⟨#[101, 112, 115]⟩, numN 841731191), (⟨#[105, 110, 105, 116, 105, 97, 108]⟩, numN 0), (⟨#[109, 111, 109, 101, 110, 116, 117, 109]⟩, numN 0)], .fn 72),
 (⟨#[108, 105, 111, 110]⟩, [rateArg, (⟨#[98, 49]⟩, numN 1063675494), (⟨#[98, 50]⟩, numN 1065185444), (⟨#[119, 101, 105, 103, 104, 116, 95, 100, 101, 99, 97, 121]⟩, numN 981668463), (⟨#[109, 97, 115, 107]⟩, callA ⟨#[97, 108, 108]⟩ [])], .fn 75),
 (⟨#[108, 97, 109, 98]⟩, [rateArg, (⟨#[98, 49]⟩, numN 1063675494), (⟨#[98, 50]⟩, numN 1065336439), (⟨#[101, 112, 115]⟩, numN 897988541), (⟨#[101, 112, 115, 95, 114, 111, 111, 116]⟩, numN 0), (⟨#[119, 101, 105, 103, 104, 116, 95, 100, 101, 99, 97, 121]⟩, numN 0), (⟨#[109, 97, 115, 107]⟩, callA ⟨#[97, 108, 108]⟩ [])], .fn 76),
 (⟨#[108, 97, 114, 115]⟩, [rateArg, (⟨#[119, 101, 105, 103, 104, 116, 95, 100, 101, 99, 97, 121]⟩, numN 0), (⟨#[116, 114, 117, 115, 116, 95, 99, 111, 101, 102, 102, 105, 99, 105, 101, 110, 116]⟩, numN 981668463), (⟨#[101, 112, 115]⟩, numN 0), (⟨#[109, 111, 109, 101, 110, 116, 117, 109]⟩, numN 1063675494), (⟨#[110, 101, 115, 116, 101, 114, 111, 118]⟩, flagN ⟨#[102, 97, 108, 115, 101]⟩)], .fn 78)]
end Go.Proofs.YtmiidhgbdecdkaaGreat
namespace Go.Proofs.YtmiidhgbdecdkaaGreat
open Go.RowKit
set_option linter.unusedVariables false
set_option linter.unusedSimpArgs false
set_option maxRecDepth 100000 in
set_option maxHeartbeats 8000000 in
theorem other_rows (w : World) :
  Calls Tryz.prog 34 #[] w fun e w' => ∃ b, e = .returned (.map (some b)) ∧ Inv w w' b otherE := by
 have hmm := @run_makeMap Tryz.prog
 have HI : Hid (Inv w (w.alloc (.map #[] 0)) w.heap.size []) := inv_new w
 go_enter Tryz.func34, Tryz.ntmps34
 go_wp2_with (first
  | (go_at_call 61; (with_reducible refine (anumber_any _ _ _).mono ?_); rintro e v1 ⟨rfl, hb1⟩; have HJ := HI.out.below hb1; clear HI; have HI := hidM HJ; clear HJ hb1)
  | (go_at_call 62; (with_reducible refine (anesterov_any _).mono ?_); rintro e v1 ⟨rfl, hb1⟩; have HJ := HI.out.below hb1; clear HI; have HI := hidM HJ; clear HJ hb1)
  | (go_at_call 66; (with_reducible refine (amask_any _).mono ?_); rintro e v1 ⟨rfl, hb1⟩; have HJ := HI.out.below hb1; clear HI; have HI := hidM HJ; clear HJ hb1)
  | (go_at_call 60; (with_reducible refine (takes_none _).mono ?_); rintro e v1 ⟨pT, cT, rfl, hA, hb1⟩; have HJ := HI.out.below hb1; clear HI; have HI := hidM HJ; have HTA := hidM hA; clear HJ hb1 hA)
  | (go_at_call 60; refine (takes_block _ _ _ (by rfl) (by rfl) (by decide) (by decide)).mono ?_; rintro e v1 ⟨pT, cT, rfl, hA, hb1⟩; have HJ := HI.out.below hb1; clear HI; have HI := hidM HJ; have HTA := hidM hA; clear HJ hb1 hA)
  | (go_at_call 63; refine (scaled_block _ _ _ _ (by rfl) (by rfl)).mono ?_; rintro e v1 ⟨a1, a2, rfl, hF, hb1⟩; have HJ := HI.out.below hb1; clear HI; have HI := hidM HJ; have HTB := HTA.out.kp (Kp.of hb1); clear HTA; have HTA := hidM HTB; have HFV := hidM hF; clear HTB HJ hb1 hF)
  | (refine wpList_insert_row _ rfl _ _ _ rfl _ _ (_, _, _) _ rfl rfl rfl HI.out (by simp) (by decide) (RowE.mk HTA.out (show FvOK _ _ (.fn _) from rfl) (by rfl)) ?_; intro v1 hI1; clear HI; have HI := hidM hI1; clear hI1 HTA))
 refine bodyPost_ret (by simp [results, Tryz.results34, go_sem]; try rfl) rfl ?_
 exact ⟨_, rfl, HI.out⟩
end Go.Proofs.YtmiidhgbdecdkaaGreat
namespace Go.Proofs.YtmiidhgbdecdkaaGreat
open Go.RowKit
set_option linter.unusedVariables false
set_option linter.unusedSimpArgs false
set_option maxRecDepth 100000 in
set_option maxHeartbeats 8000000 in
theorem plain_rows (w : World) :
  Calls Tryz.prog 32 #[] w fun e w' => ∃ b, e = .returned (.map (some b)) ∧ Inv w w' b plainE := by
 have hmm := @run_makeMap Tryz.prog
 have HI : Hid (Inv w (w.alloc (.map #[] 0)) w.heap.size []) := inv_new w
 go_enter Tryz.func32, Tryz.ntmps32
 go_wp2_with (first
  | (go_at_call 61; (with_reducible refine (anumber_any _ _ _).mono ?_); rintro e v1 ⟨rfl, hb1⟩; have HJ := HI.out.below hb1; clear HI; have HI := hidM HJ; clear HJ hb1)
  | (go_at_call 62; (with_reducible refine (anesterov_any _).mono ?_); rintro e v1 ⟨rfl, hb1⟩; have HJ := HI.out.below hb1; clear HI; have HI := hidM HJ; clear HJ hb1)
  | (go_at_call 66; (with_reducible refine (amask_any _).mono ?_); rintro e v1 ⟨rfl, hb1⟩; have HJ := HI.out.below hb1; clear HI; have HI := hidM HJ; clear HJ hb1)
  | (go_at_call 60; (with_reducible refine (takes_none _).mono ?_); rintro e v1 ⟨pT, cT, rfl, hA, hb1⟩; have HJ := HI.out.below hb1; clear HI; have HI := hidM HJ; have HTA := hidM hA; clear HJ hb1 hA)
  | (go_at_call 60; refine (takes_block _ _ _ (by rfl) (by rfl) (by decide) (by decide)).mono ?_; rintro e v1 ⟨pT, cT, rfl, hA, hb1⟩; have HJ := HI.out.below hb1; clear HI; have HI := hidM HJ; have HTA := hidM hA; clear HJ hb1 hA)
  | (go_at_call 63; refine (scaled_block _ _ _ _ (by rfl) (by rfl)).mono ?_; rintro e v1 ⟨a1, a2, rfl, hF, hb1⟩; have HJ := HI.out.below hb1; clear HI; have HI := hidM HJ; have HTB := HTA.out.kp (Kp.of hb1); clear HTA; have HTA := hidM HTB; have HFV := hidM hF; clear HTB HJ hb1 hF)
  | (refine upon_insert HI.out (by simp) (by decide) HTA.out HFV.out (by rfl) ?_; intro v1 hI1; clear HI; have HI := hidM hI1; clear hI1 HFV HTA))
 refine bodyPost_ret (by simp [results, Tryz.results32, go_sem]; try rfl) rfl ?_
 exact ⟨_, rfl, HI.out⟩
end Go.Proofs.YtmiidhgbdecdkaaGreat
