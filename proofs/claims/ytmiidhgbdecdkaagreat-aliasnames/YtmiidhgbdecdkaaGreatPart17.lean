import Derived.Test.YtmiidhgbdecdkaaGreatPart13
namespace Go.Proofs.YtmiidhgbdecdkaaGreat
open Go.RowKit
set_option linter.unusedVariables false
set_option linter.unusedSimpArgs false
set_option maxRecDepth 100000 in
set_option maxHeartbeats 4000000 in
theorem bec_adamw (b n : Nat) (a : Int) (nd : ByteArray → Option Nd) (S : Blk) (x_rate : Nd) (x_b1 : Nd) (x_b2 : Nd) (x_eps : Nd) (x_eps_root : Nd) (x_weight_decay : Nd) (x_mask : Nd) (w : World) (h_rate : nd ⟨#[114, 97, 116, 101]⟩ = some x_rate) (h_b1 : nd ⟨#[98, 49]⟩ = some x_b1) (h_b2 : nd ⟨#[98, 50]⟩ = some x_b2) (h_eps : nd ⟨#[101, 112, 115]⟩ = some x_eps) (h_eps_root : nd ⟨#[101, 112, 115, 95, 114, 111, 111, 116]⟩ = some x_eps_root) (h_weight_decay : nd ⟨#[119, 101, 105, 103, 104, 116, 95, 100, 101, 99, 97, 121]⟩ = some x_weight_decay) (h_mask : nd ⟨#[109, 97, 115, 107]⟩ = some x_mask) (hok : okR x_rate) (hS : ∀ j, S j → j < w.heap.size) (hp : PM w b n nd S) :
  Calls Tryz.prog 67 #[.agg #[.map (some b), .int .i64 a]] w fun e w' => ∃ p c, e = .returned (.agg #[.int .i64 1, .string ⟨#[99, 104, 97, 105, 110]⟩, .int .u32 0, .int .i64 0, .string ⟨#[]⟩, .slice p 3 c, .int .i64 a]) ∧ Kids w' (inH (fun j => S j ∨ w.heap.size + 1 < j)) (.slice p 3 c) [madeN a ⟨#[115, 99, 97, 108, 101, 95, 98, 121, 95, 97, 100, 97, 109]⟩ [x_b1, x_b2, x_eps, x_eps_root], madeN a ⟨#[109, 97, 115, 107, 101, 100]⟩ [x_mask, madeN a ⟨#[97, 100, 100, 95, 100, 101, 99, 97, 121, 101, 100, 95, 119, 101, 105, 103, 104, 116, 115]⟩ [x_weight_decay]], rateA a x_rate] ∧ Below w.heap.size w w' := by
 have HK_x_rate : Hid (nd ⟨#[114, 97, 116, 101]⟩ = some x_rate) := h_rate
 have HK_x_b1 : Hid (nd ⟨#[98, 49]⟩ = some x_b1) := h_b1
 have HK_x_b2 : Hid (nd ⟨#[98, 50]⟩ = some x_b2) := h_b2
 have HK_x_eps : Hid (nd ⟨#[101, 112, 115]⟩ = some x_eps) := h_eps
 have HK_x_eps_root : Hid (nd ⟨#[101, 112, 115, 95, 114, 111, 111, 116]⟩ = some x_eps_root) := h_eps_root
 have HK_x_weight_decay : Hid (nd ⟨#[119, 101, 105, 103, 104, 116, 95, 100, 101, 99, 97, 121]⟩ = some x_weight_decay) := h_weight_decay
 have HK_x_mask : Hid (nd ⟨#[109, 97, 115, 107]⟩ = some x_mask) := h_mask
 obtain ⟨rnm, hrn⟩ : ∃ x, rnmA x_rate = x := ⟨_, rfl⟩
 obtain ⟨rl, hrl⟩ : ∃ x, rlA a x_rate = x := ⟨_, rfl⟩
 rw [rate_made, hrn, hrl]
 obtain ⟨W, hW, hT⟩ := TwoB.start w b a
 have HTW : Hid (TwoB w b a W) := hT
 have HSZ : Hid (w.heap.size + 2 ≤ W.heap.size) := hlt hT.2.2
 have HPM : Hid (PM W b n nd S) := hp.below hT.1
 have HSB : Hid (∀ j, (j = b ∨ S j) → j < W.heap.size ∧ j ≠ w.heap.size + 1) := fun j hj => by
  have h1 := HSZ.out
  rcases hj with rfl | hj
  ·obtain ⟨f, h, _⟩ := hp; have := h.lt; omega
  ·have := hS j hj; omega
 obtain ⟨⟨g0, g1⟩, -⟩ := twoC hT.2.1
 have HBz : Hid (Below W.heap.size W W) := Below.refl _ _
 clear hT
 have HRT : Hid (∀ x, Below W.heap.size W x → Calls Tryz.prog 65 #[.agg #[.map (some b), .int .i64 a]] x fun e w' => ∃ p c, e = .returned (.agg #[.int .i64 1, .string rnm, .int .u32 0, .int .i64 0, .string ⟨#[]⟩, .slice p rl.length c, .int .i64 a]) ∧ Kids w' (inH (fun j => S j ∨ w.heap.size + 1 < j)) (.slice p rl.length c) rl ∧ Below x.heap.size x w') := fun x hx => by
  have := rated_any b n a nd S x_rate x HK_x_rate.out hok (fun j hj => by have := (HSB.out j (.inr hj)).1; have := hx.size; omega) (HPM.out.below hx)
  rw [hrn, hrl] at this
  exact this.mono fun e w' ⟨p, c, h1, h2, h3⟩ => ⟨p, c, h1, h2.weak (inH.sub fun j h => h.imp id fun h => by have := hx.size; have := HSZ.out; omega), h3⟩
 have HDC : Hid (∀ x, Below W.heap.size W x → Calls Tryz.prog 70 #[.agg #[.map (some b), .int .i64 a]] x fun e w' => ∃ p c, e = .returned (.agg #[.int .i64 1, .string ⟨#[109, 97, 115, 107, 101, 100]⟩, .int .u32 0, .int .i64 0, .string ⟨#[]⟩, .slice p 2 c, .int .i64 a]) ∧ Kids w' (inH (fun j => S j ∨ w.heap.size + 1 < j)) (.slice p 2 c) [x_mask, madeN a ⟨#[97, 100, 100, 95, 100, 101, 99, 97, 121, 101, 100, 95, 119, 101, 105, 103, 104, 116, 115]⟩ [x_weight_decay]] ∧ Below x.heap.size x w') := fun x hx => (decayed_any b n a nd S x_mask x_weight_decay x HK_x_mask.out HK_x_weight_decay.out (fun j hj => by have := (HSB.out j (.inr hj)).1; have := hx.size; omega) (HPM.out.below hx)).mono fun e w' ⟨p, c, h1, h2, h3⟩ => ⟨p, c, h1, h2.weak (inH.sub fun j h => h.imp id fun h => by have := hx.size; have := HSZ.out; omega), h3⟩
 have HOF3 : Hid (∀ (q : Option Addr) (c : Nat) (x : World), Below W.heap.size W x → StrsA x q [⟨#[98, 49]⟩, ⟨#[98, 50]⟩, ⟨#[101, 112, 115]⟩, ⟨#[101, 112, 115, 95, 114, 111, 111, 116]⟩] → Calls Tryz.prog 69 #[.agg #[.map (some b), .int .i64 a], .string ⟨#[115, 99, 97, 108, 101, 95, 98, 121, 95, 97, 100, 97, 109]⟩, .slice q 4 c] x fun e w' => ∃ p c, e = .returned (.agg #[.int .i64 1, .string ⟨#[115, 99, 97, 108, 101, 95, 98, 121, 95, 97, 100, 97, 109]⟩, .int .u32 0, .int .i64 0, .string ⟨#[]⟩, .slice p 4 c, .int .i64 a]) ∧ Kids w' (inH (fun j => S j ∨ w.heap.size + 1 < j)) (.slice p 4 c) [x_b1, x_b2, x_eps, x_eps_root] ∧ Below x.heap.size x w') := fun q c x hx hq => (of_any b n a nd S ⟨#[115, 99, 97, 108, 101, 95, 98, 121, 95, 97, 100, 97, 109]⟩ [⟨#[98, 49]⟩, ⟨#[98, 50]⟩, ⟨#[101, 112, 115]⟩, ⟨#[101, 112, 115, 95, 114, 111, 111, 116]⟩] [x_b1, x_b2, x_eps, x_eps_root] q c x (by decide) (by decide) (by simp [HK_x_b1.out, HK_x_b2.out, HK_x_eps.out, HK_x_eps_root.out]) (fun j hj => by have := (HSB.out j (.inr hj)).1; have := hx.size; omega) (HPM.out.below hx) hq).mono fun e w' ⟨p, c, h1, h2, h3⟩ => ⟨p, c, h1, h2.weak (inH.sub fun j h => h.imp id fun h => by have := hx.size; have := HSZ.out; omega), h3⟩
 have HCA9 : Hid (∀ (q : Option Addr) (m c : Nat) (x : World), Calls Tryz.prog 68 #[.agg #[.map (some b), .int .i64 a], .slice q m c] x fun e w' => e = .returned (.agg #[.int .i64 1, .string ⟨#[99, 104, 97, 105, 110]⟩, .int .u32 0, .int .i64 0, .string ⟨#[]⟩, .slice q m c, .int .i64 a]) ∧ Below x.heap.size x w') := fun q m c x => pchain_any b a q m c x
 clear h_rate h_b1 h_b2 h_eps h_eps_root h_weight_decay h_mask hp hS hok hrn hrl
 go_enter Tryz.func67, Tryz.ntmps67
 go_upto_region 1 with fail
 refine wp_region_held_drew (S := (fun x => ∀ j, j < W.heap.size → j ≠ w.heap.size + 1 → x.heap[j]? = W.heap[j]?)) (by kernel_rfl) ?_ (fun hHeld => ?_)
 ·((try dsimp only); first | exact HSE.out | exact fun j h1 _ => HBz.out.block j h1 | exact fun j _ _ => rfl)
 refine wpAnyH_take (i := 0) (v := ?_) (by simp only [List.getElem?_toArray, List.getElem?_cons_succ, List.getElem?_cons_zero]; rfl) (by kernel_rfl) (by kernel_rfl) (by kernel_rfl) (by exact fun _ _ _ h => h) (Or.inl ⟨by rfl, ?_⟩) (by assumption) ?_
 rotate_left 1
 ·(intro wS hSw; have hSb : ∀ j, j < W.heap.size → j ≠ w.heap.size + 1 → wS.heap[j]? = W.heap[j]? := hSw; clear hSw; have zp := (cell_to hSb (by simp) g0); have zq := (cell_to hSb (by simp) g1); go_simp; try (with_reducible rfl))
 try simp only [Act.put, List.setIfInBounds_toArray, List.set_cons_zero, List.set_cons_succ]
 refine wpAnyH_take (i := 1) (v := ?_) (by simp only [List.getElem?_toArray, List.getElem?_cons_succ, List.getElem?_cons_zero]; rfl) (by kernel_rfl) (by kernel_rfl) (by kernel_rfl) (by exact fun _ _ _ h => h) (Or.inl ⟨by rfl, ?_⟩) (by assumption) ?_
 rotate_left 1
 ·(intro wS hSw; have hSb : ∀ j, j < W.heap.size → j ≠ w.heap.size + 1 → wS.heap[j]? = W.heap[j]? := hSw; clear hSw; have zp := (cell_to hSb (by simp) g0); have zq := (cell_to hSb (by simp) g1); go_simp; try (with_reducible rfl))
 try simp only [Act.put, List.setIfInBounds_toArray, List.set_cons_zero, List.set_cons_succ]
 refine wpAnyH_take (i := 4) (v := ?_) (by simp only [List.getElem?_toArray, List.getElem?_cons_succ, List.getElem?_cons_zero]; rfl) (by kernel_rfl) (by kernel_rfl) (by kernel_rfl) (by exact fun _ _ _ h => h) (Or.inl ⟨by rfl, ?_⟩) (by assumption) ?_
 rotate_left 1
 ·(intro wS hSw; have hSb : ∀ j, j < W.heap.size → j ≠ w.heap.size + 1 → wS.heap[j]? = W.heap[j]? := hSw; clear hSw; have zp := (cell_to hSb (by simp) g0); have zq := (cell_to hSb (by simp) g1); go_simp; try (with_reducible rfl))
 try simp only [Act.put, List.setIfInBounds_toArray, List.set_cons_zero, List.set_cons_succ]
 refine wpAnyH_take (i := 6) (v := ?_) (by simp only [List.getElem?_toArray, List.getElem?_cons_succ, List.getElem?_cons_zero]; rfl) (by kernel_rfl) (by kernel_rfl) (by kernel_rfl) (by exact fun _ _ _ h => h) (Or.inl ⟨by rfl, ?_⟩) (by assumption) ?_
 rotate_left 1
 ·(intro wS hSw; have hSb : ∀ j, j < W.heap.size → j ≠ w.heap.size + 1 → wS.heap[j]? = W.heap[j]? := hSw; clear hSw; have zp := (cell_to hSb (by simp) g0); have zq := (cell_to hSb (by simp) g1); go_simp; try (with_reducible rfl))
 try simp only [Act.put, List.setIfInBounds_toArray, List.set_cons_zero, List.set_cons_succ]
 clear hHeld
 refine wpAnyH_ready (rs := [2]) (by kernel_rfl) (by simp) ?_
 refine AllReadyH.cons (i := 2) (by simp only [List.getElem?_toArray, List.getElem?_cons_succ, List.getElem?_cons_zero]; rfl) (fun K hK => ?_) AllReadyH.nil
 go_simp
 obtain ⟨G2, hG2⟩ : ∃ G, W.heap.size = G := ⟨_, rfl⟩
 obtain ⟨v2, hv2⟩ : ∃ V, (W.alloc (.cells #[.string ⟨#[98, 49]⟩, .string ⟨#[98, 50]⟩, .string ⟨#[101, 112, 115]⟩, .string ⟨#[101, 112, 115, 95, 114, 111, 111, 116]⟩] 9)).drew = V := ⟨_, rfl⟩
 have hb2 : Below W.heap.size W v2 := by rw [← hv2]; exact bel (bel_alloc _ _) (bel_d _)
 have HT2 : Hid (StrsA v2 (some ⟨G2, 0, none⟩) [⟨#[98, 49]⟩, ⟨#[98, 50]⟩, ⟨#[101, 112, 115]⟩, ⟨#[101, 112, 115, 95, 114, 111, 111, 116]⟩]) := strs_mk (by rw [← hv2, ← hG2]; exact box_heapA W _)
 have HBz : Hid (Below W.heap.size W v2) := bel HBz.out hb2
 rw [hv2, hG2]
 clear hv2 hG2 hb2
 refine hK.out _ _ ?_ (fun hHeld => ?_)
 ·((try dsimp only); first | exact HSE.out | exact fun j h1 _ => HBz.out.block j h1 | exact fun j _ _ => rfl)
 clear hK K
 try simp only [Act.put, List.setIfInBounds_toArray, List.set_cons_zero, List.set_cons_succ]
 clear hHeld
 refine wpAnyH_ready (rs := [3]) (by kernel_rfl) (by simp) ?_
 refine AllReadyH.cons (i := 3) (by simp only [List.getElem?_toArray, List.getElem?_cons_succ, List.getElem?_cons_zero]; rfl) (fun K hK => ?_) AllReadyH.nil
 go_simp
 (go_at_call 69; (with_reducible refine (HOF3.out _ _ _ HBz.out HT2.out).mono ?_); rintro e v3 ⟨p3, c3, rfl, hk3, hb3⟩; have HK3 : Hid (Kids v3 (inH (fun j => S j ∨ w.heap.size + 1 < j)) (.slice p3 4 c3) [x_b1, x_b2, x_eps, x_eps_root]) := hk3; clear hk3; have HT2 : Hid (StrsA v3 (some ⟨G2, 0, none⟩) [⟨#[98, 49]⟩, ⟨#[98, 50]⟩, ⟨#[101, 112, 115]⟩, ⟨#[101, 112, 115, 95, 114, 111, 111, 116]⟩]) := HT2.out.below hb3; have HBz : Hid (Below W.heap.size W v3) := bel HBz.out hb3; clear hb3)
 try (go_wp2_with fail)
 refine hK.out _ _ ?_ (fun hHeld => ?_)
 ·((try dsimp only); first | exact HSE.out | exact fun j h1 _ => HBz.out.block j h1 | exact fun j _ _ => rfl)
 clear hK K
 try simp only [Act.put, List.setIfInBounds_toArray, List.set_cons_zero, List.set_cons_succ]
 clear hHeld
 refine wpAnyH_ready (rs := [5]) (by kernel_rfl) (by simp) ?_
 refine AllReadyH.cons (i := 5) (by simp only [List.getElem?_toArray, List.getElem?_cons_succ, List.getElem?_cons_zero]; rfl) (fun K hK => ?_) AllReadyH.nil
 go_simp
 (go_at_call 70; (with_reducible refine (HDC.out _ HBz.out).mono ?_); rintro e v5 ⟨p5, c5, rfl, hk5, hb5⟩; have HK5 : Hid (Kids v5 (inH (fun j => S j ∨ w.heap.size + 1 < j)) (.slice p5 2 c5) [x_mask, madeN a ⟨#[97, 100, 100, 95, 100, 101, 99, 97, 121, 101, 100, 95, 119, 101, 105, 103, 104, 116, 115]⟩ [x_weight_decay]]) := hk5; clear hk5; have HT2 : Hid (StrsA v5 (some ⟨G2, 0, none⟩) [⟨#[98, 49]⟩, ⟨#[98, 50]⟩, ⟨#[101, 112, 115]⟩, ⟨#[101, 112, 115, 95, 114, 111, 111, 116]⟩]) := HT2.out.below hb5; have HK3 : Hid (Kids v5 (inH (fun j => S j ∨ w.heap.size + 1 < j)) (.slice p3 4 c3) [x_b1, x_b2, x_eps, x_eps_root]) := HK3.out.below hb5; have HBz : Hid (Below W.heap.size W v5) := bel HBz.out hb5; clear hb5)
 try (go_wp2_with fail)
 refine hK.out _ _ ?_ (fun hHeld => ?_)
 ·((try dsimp only); first | exact HSE.out | exact fun j h1 _ => HBz.out.block j h1 | exact fun j _ _ => rfl)
 clear hK K
 try simp only [Act.put, List.setIfInBounds_toArray, List.set_cons_zero, List.set_cons_succ]
 clear hHeld
 refine wpAnyH_ready (rs := [7]) (by kernel_rfl) (by simp) ?_
 refine AllReadyH.cons (i := 7) (by simp only [List.getElem?_toArray, List.getElem?_cons_succ, List.getElem?_cons_zero]; rfl) (fun K hK => ?_) AllReadyH.nil
 go_simp
 (go_at_call 65; (with_reducible refine (HRT.out _ HBz.out).mono ?_); rintro e v7 ⟨p7, c7, rfl, hk7, hb7⟩; have HK7 : Hid (Kids v7 (inH (fun j => S j ∨ w.heap.size + 1 < j)) (.slice p7 rl.length c7) rl) := hk7; clear hk7; have HT2 : Hid (StrsA v7 (some ⟨G2, 0, none⟩) [⟨#[98, 49]⟩, ⟨#[98, 50]⟩, ⟨#[101, 112, 115]⟩, ⟨#[101, 112, 115, 95, 114, 111, 111, 116]⟩]) := HT2.out.below hb7; have HK3 : Hid (Kids v7 (inH (fun j => S j ∨ w.heap.size + 1 < j)) (.slice p3 4 c3) [x_b1, x_b2, x_eps, x_eps_root]) := HK3.out.below hb7; have HK5 : Hid (Kids v7 (inH (fun j => S j ∨ w.heap.size + 1 < j)) (.slice p5 2 c5) [x_mask, madeN a ⟨#[97, 100, 100, 95, 100, 101, 99, 97, 121, 101, 100, 95, 119, 101, 105, 103, 104, 116, 115]⟩ [x_weight_decay]]) := HK5.out.below hb7; have HBz : Hid (Below W.heap.size W v7) := bel HBz.out hb7; clear hb7)
 try (go_wp2_with fail)
 refine hK.out _ _ ?_ (fun hHeld => ?_)
 ·((try dsimp only); first | exact HSE.out | exact fun j h1 _ => HBz.out.block j h1 | exact fun j _ _ => rfl)
 clear hK K
 try simp only [Act.put, List.setIfInBounds_toArray, List.set_cons_zero, List.set_cons_succ]
 clear hHeld
 refine wpAnyH_ready (rs := [8]) (by kernel_rfl) (by simp) ?_
 refine AllReadyH.cons (i := 8) (by simp only [List.getElem?_toArray, List.getElem?_cons_succ, List.getElem?_cons_zero]; rfl) (fun K hK => ?_) AllReadyH.nil
 go_simp
 have hk8 := kids_row (w := v7) (S := (fun j => S j ∨ w.heap.size + 1 < j)) (R := [(madeN a ⟨#[115, 99, 97, 108, 101, 95, 98, 121, 95, 97, 100, 97, 109]⟩ [x_b1, x_b2, x_eps, x_eps_root], .slice p3 4 c3), (madeN a ⟨#[109, 97, 115, 107, 101, 100]⟩ [x_mask, madeN a ⟨#[97, 100, 100, 95, 100, 101, 99, 97, 121, 101, 100, 95, 119, 101, 105, 103, 104, 116, 115]⟩ [x_weight_decay]], .slice p5 2 c5), (madeN a rnm rl, .slice p7 rl.length c7)]) (cs := #[.int .i64 1, .string ⟨#[115, 99, 97, 108, 101, 95, 98, 121, 95, 97, 100, 97, 109]⟩, .int .u32 0, .int .i64 0, .string ⟨#[]⟩, .slice p3 4 c3, .int .i64 a, .int .i64 1, .string ⟨#[109, 97, 115, 107, 101, 100]⟩, .int .u32 0, .int .i64 0, .string ⟨#[]⟩, .slice p5 2 c5, .int .i64 a, .int .i64 1, .string rnm, .int .u32 0, .int .i64 0, .string ⟨#[]⟩, .slice p7 rl.length c7, .int .i64 a]) rfl (List.forall_mem_cons.2 ⟨HK3.out, List.forall_mem_cons.2 ⟨HK5.out, List.forall_mem_cons.2 ⟨HK7.out, fun r h => by cases h⟩⟩⟩) (.inr (by have := HBz.out.size; have := HSZ.out; omega)) (by simp)
 obtain ⟨G8, hG8⟩ : ∃ G, v7.heap.size = G := ⟨_, rfl⟩
 have hb8 : Below v7.heap.size v7 (v7.alloc (.cells #[.int .i64 1, .string ⟨#[115, 99, 97, 108, 101, 95, 98, 121, 95, 97, 100, 97, 109]⟩, .int .u32 0, .int .i64 0, .string ⟨#[]⟩, .slice p3 4 c3, .int .i64 a, .int .i64 1, .string ⟨#[109, 97, 115, 107, 101, 100]⟩, .int .u32 0, .int .i64 0, .string ⟨#[]⟩, .slice p5 2 c5, .int .i64 a, .int .i64 1, .string rnm, .int .u32 0, .int .i64 0, .string ⟨#[]⟩, .slice p7 rl.length c7, .int .i64 a] 29)) := bel_alloc _ _
 obtain ⟨v8, hv8⟩ : ∃ V, v7.alloc (.cells #[.int .i64 1, .string ⟨#[115, 99, 97, 108, 101, 95, 98, 121, 95, 97, 100, 97, 109]⟩, .int .u32 0, .int .i64 0, .string ⟨#[]⟩, .slice p3 4 c3, .int .i64 a, .int .i64 1, .string ⟨#[109, 97, 115, 107, 101, 100]⟩, .int .u32 0, .int .i64 0, .string ⟨#[]⟩, .slice p5 2 c5, .int .i64 a, .int .i64 1, .string rnm, .int .u32 0, .int .i64 0, .string ⟨#[]⟩, .slice p7 rl.length c7, .int .i64 a] 29) = V := ⟨_, rfl⟩
 rw [hG8] at hk8
 rw [hv8] at hb8
 have HK8 : Hid (Kids v8 (inH (fun j => S j ∨ w.heap.size + 1 < j)) (.slice (some ⟨G8, 0, none⟩) 3 3) [madeN a ⟨#[115, 99, 97, 108, 101, 95, 98, 121, 95, 97, 100, 97, 109]⟩ [x_b1, x_b2, x_eps, x_eps_root], madeN a ⟨#[109, 97, 115, 107, 101, 100]⟩ [x_mask, madeN a ⟨#[97, 100, 100, 95, 100, 101, 99, 97, 121, 101, 100, 95, 119, 101, 105, 103, 104, 116, 115]⟩ [x_weight_decay]], madeN a rnm rl]) := by have := hk8; rw [hv8] at this; exact this
 have HT2 : Hid (StrsA v8 (some ⟨G2, 0, none⟩) [⟨#[98, 49]⟩, ⟨#[98, 50]⟩, ⟨#[101, 112, 115]⟩, ⟨#[101, 112, 115, 95, 114, 111, 111, 116]⟩]) := HT2.out.below hb8
 have HK3 : Hid (Kids v8 (inH (fun j => S j ∨ w.heap.size + 1 < j)) (.slice p3 4 c3) [x_b1, x_b2, x_eps, x_eps_root]) := HK3.out.below hb8
 have HK5 : Hid (Kids v8 (inH (fun j => S j ∨ w.heap.size + 1 < j)) (.slice p5 2 c5) [x_mask, madeN a ⟨#[97, 100, 100, 95, 100, 101, 99, 97, 121, 101, 100, 95, 119, 101, 105, 103, 104, 116, 115]⟩ [x_weight_decay]]) := HK5.out.below hb8
 have HK7 : Hid (Kids v8 (inH (fun j => S j ∨ w.heap.size + 1 < j)) (.slice p7 rl.length c7) rl) := HK7.out.below hb8
 have HBz : Hid (Below W.heap.size W v8) := bel HBz.out hb8
 rw [hv8, hG8]
 clear hk8 hv8 hG8 hb8
 refine hK.out _ _ ?_ (fun hHeld => ?_)
 ·((try dsimp only); first | exact HSE.out | exact fun j h1 _ => HBz.out.block j h1 | exact fun j _ _ => rfl)
 clear hK K
 try simp only [Act.put, List.setIfInBounds_toArray, List.set_cons_zero, List.set_cons_succ]
 clear hHeld
 refine wpAnyH_ready (rs := [9]) (by kernel_rfl) (by simp) ?_
 refine AllReadyH.cons (i := 9) (by simp only [List.getElem?_toArray, List.getElem?_cons_succ, List.getElem?_cons_zero]; rfl) (fun K hK => ?_) AllReadyH.nil
 go_simp
 (go_at_call 68; (with_reducible refine (HCA9.out _ _ _ _).mono ?_); rintro e v9 ⟨rfl, hb9⟩; have HT2 : Hid (StrsA v9 (some ⟨G2, 0, none⟩) [⟨#[98, 49]⟩, ⟨#[98, 50]⟩, ⟨#[101, 112, 115]⟩, ⟨#[101, 112, 115, 95, 114, 111, 111, 116]⟩]) := HT2.out.below hb9; have HK3 : Hid (Kids v9 (inH (fun j => S j ∨ w.heap.size + 1 < j)) (.slice p3 4 c3) [x_b1, x_b2, x_eps, x_eps_root]) := HK3.out.below hb9; have HK5 : Hid (Kids v9 (inH (fun j => S j ∨ w.heap.size + 1 < j)) (.slice p5 2 c5) [x_mask, madeN a ⟨#[97, 100, 100, 95, 100, 101, 99, 97, 121, 101, 100, 95, 119, 101, 105, 103, 104, 116, 115]⟩ [x_weight_decay]]) := HK5.out.below hb9; have HK7 : Hid (Kids v9 (inH (fun j => S j ∨ w.heap.size + 1 < j)) (.slice p7 rl.length c7) rl) := HK7.out.below hb9; have HK8 : Hid (Kids v9 (inH (fun j => S j ∨ w.heap.size + 1 < j)) (.slice (some ⟨G8, 0, none⟩) 3 3) [madeN a ⟨#[115, 99, 97, 108, 101, 95, 98, 121, 95, 97, 100, 97, 109]⟩ [x_b1, x_b2, x_eps, x_eps_root], madeN a ⟨#[109, 97, 115, 107, 101, 100]⟩ [x_mask, madeN a ⟨#[97, 100, 100, 95, 100, 101, 99, 97, 121, 101, 100, 95, 119, 101, 105, 103, 104, 116, 115]⟩ [x_weight_decay]], madeN a rnm rl]) := HK8.out.below hb9; have HBz : Hid (Below W.heap.size W v9) := bel HBz.out hb9; clear hb9)
 try (go_wp2_with fail)
 refine hK.out _ _ ?_ (fun hHeld => ?_)
 ·((try dsimp only); first | exact HSE.out | exact fun j h1 _ => HBz.out.block j h1 | exact fun j _ _ => rfl)
 clear hK K
 try simp only [Act.put, List.setIfInBounds_toArray, List.set_cons_zero, List.set_cons_succ]
 clear hHeld
 refine wpAnyH_ready (rs := [10]) (by kernel_rfl) (by simp) ?_
 refine AllReadyH.cons (i := 10) (by simp only [List.getElem?_toArray, List.getElem?_cons_succ, List.getElem?_cons_zero]; rfl) (fun K hK => ?_) AllReadyH.nil
 obtain ⟨⟨s0, s1, s2, s3, s4, s5, s6⟩, r0, r1, r2, r3, r4, r5, r6⟩ := sevenA (HTW.out.below HBz.out).2.2
 go_simp
 have hoff := offS_seven v9 (w.heap.size + 1) (.int .i64 1) (.string ⟨#[99, 104, 97, 105, 110]⟩) (.int .u32 0) (.int .i64 0) (.string ⟨#[]⟩) (.slice (some ⟨G8, 0, none⟩) 3 3) (.int .i64 a)
 have hosz := size_sevenS v9 (w.heap.size + 1) (.int .i64 1) (.string ⟨#[99, 104, 97, 105, 110]⟩) (.int .u32 0) (.int .i64 0) (.string ⟨#[]⟩) (.slice (some ⟨G8, 0, none⟩) 3 3) (.int .i64 a)
 have hdone := (HTW.out.below HBz.out).done (.int .i64 1) (.string ⟨#[99, 104, 97, 105, 110]⟩) (.int .u32 0) (.int .i64 0) (.string ⟨#[]⟩) (.slice (some ⟨G8, 0, none⟩) 3 3) (.int .i64 a)
 have hsv := put_sevenA (HTW.out.below HBz.out).2.2 (.int .i64 1) (.string ⟨#[99, 104, 97, 105, 110]⟩) (.int .u32 0) (.int .i64 0) (.string ⟨#[]⟩) (.slice (some ⟨G8, 0, none⟩) 3 3) (.int .i64 a)
 have HSzz : Hid (∀ j, j < W.heap.size → j ≠ w.heap.size + 1 → ((((((((v9.setCell ⟨w.heap.size + 1, 0, none⟩ (.int .i64 1)).setCell ⟨w.heap.size + 1, 1, none⟩ (.string ⟨#[99, 104, 97, 105, 110]⟩)).setCell ⟨w.heap.size + 1, 2, none⟩ (.int .u32 0)).setCell ⟨w.heap.size + 1, 3, none⟩ (.int .i64 0)).setCell ⟨w.heap.size + 1, 4, none⟩ (.string ⟨#[]⟩)).setCell ⟨w.heap.size + 1, 5, none⟩ (.slice (some ⟨G8, 0, none⟩) 3 3)).setCell ⟨w.heap.size + 1, 6, none⟩ (.int .i64 a))).heap[j]? = W.heap[j]?) := fun j h1 h2 => (hoff.sameSize hosz (by exact h2)).trans (HBz.out.block j h1)
 obtain ⟨vE, hvE⟩ : ∃ V, (((((((v9.setCell ⟨w.heap.size + 1, 0, none⟩ (.int .i64 1)).setCell ⟨w.heap.size + 1, 1, none⟩ (.string ⟨#[99, 104, 97, 105, 110]⟩)).setCell ⟨w.heap.size + 1, 2, none⟩ (.int .u32 0)).setCell ⟨w.heap.size + 1, 3, none⟩ (.int .i64 0)).setCell ⟨w.heap.size + 1, 4, none⟩ (.string ⟨#[]⟩)).setCell ⟨w.heap.size + 1, 5, none⟩ (.slice (some ⟨G8, 0, none⟩) 3 3)).setCell ⟨w.heap.size + 1, 6, none⟩ (.int .i64 a)) = V := ⟨_, rfl⟩
 rw [hvE] at hdone hsv HSzz
 try rw [hvE]
 have HSE := HSzz
 have HEND : Hid (Below w.heap.size w vE ∧ Kids vE (inH (fun j => S j ∨ w.heap.size + 1 < j)) (.slice (some ⟨G8, 0, none⟩) 3 3) [madeN a ⟨#[115, 99, 97, 108, 101, 95, 98, 121, 95, 97, 100, 97, 109]⟩ [x_b1, x_b2, x_eps, x_eps_root], madeN a ⟨#[109, 97, 115, 107, 101, 100]⟩ [x_mask, madeN a ⟨#[97, 100, 100, 95, 100, 101, 99, 97, 121, 101, 100, 95, 119, 101, 105, 103, 104, 116, 115]⟩ [x_weight_decay]], madeN a rnm rl] ∧ vE.heap[w.heap.size + 1]? = some (.cells #[.int .i64 1, .string ⟨#[99, 104, 97, 105, 110]⟩, .int .u32 0, .int .i64 0, .string ⟨#[]⟩, .slice (some ⟨G8, 0, none⟩) 3 3, .int .i64 a] 29)) := ⟨hdone.1, hdone.2 _ _ _ (fun j h => by rcases h with h | h; (have := (HSB.out j (.inr h)).2; omega); omega) HK8.out, hsv⟩
 clear hoff hosz hdone hsv hvE s0 s1 s2 s3 s4 s5 s6 r0 r1 r2 r3 r4 r5 r6
 refine hK.out _ _ ?_ (fun hHeld => ?_)
 ·((try dsimp only); first | exact HSE.out | exact fun j h1 _ => HBz.out.block j h1 | exact fun j _ _ => rfl)
 clear hK K
 try simp only [Act.put, List.setIfInBounds_toArray, List.set_cons_zero, List.set_cons_succ]
 refine wpAnyH_done (by kernel_rfl) ?_ _
 go_wp2
 obtain ⟨⟨s0, s1, s2, s3, s4, s5, s6⟩, r0, r1, r2, r3, r4, r5, r6⟩ := sevenA HEND.out.2.2
 refine bodyPost_ret (by simp [results, Tryz.results67, go_sem, s0, s1, s2, s3, s4, s5, s6]; try rfl) rfl ?_
 exact ⟨_, _, rfl, HEND.out.2.1, HEND.out.1⟩
set_option maxRecDepth 100000 in
set_option maxHeartbeats 4000000 in
theorem bec_agc (b n : Nat) (a : Int) (nd : ByteArray → Option Nd) (S : Blk) (x_rate : Nd) (x_clipping : Nd) (x_eps : Nd) (x_momentum : Nd) (x_nesterov : Nd) (w : World) (h_rate : nd ⟨#[114, 97, 116, 101]⟩ = some x_rate) (h_clipping : nd ⟨#[99, 108, 105, 112, 112, 105, 110, 103]⟩ = some x_clipping) (h_eps : nd ⟨#[101, 112, 115]⟩ = some x_eps) (h_momentum : nd ⟨#[109, 111, 109, 101, 110, 116, 117, 109]⟩ = some x_momentum) (h_nesterov : nd ⟨#[110, 101, 115, 116, 101, 114, 111, 118]⟩ = some x_nesterov) (hok : okR x_rate) (hS : ∀ j, S j → j < w.heap.size) (hp : PM w b n nd S) :
  Calls Tryz.prog 71 #[.agg #[.map (some b), .int .i64 a]] w fun e w' => ∃ p c, e = .returned (.agg #[.int .i64 1, .string ⟨#[99, 104, 97, 105, 110]⟩, .int .u32 0, .int .i64 0, .string ⟨#[]⟩, .slice p 3 c, .int .i64 a]) ∧ Kids w' (inH (fun j => S j ∨ w.heap.size + 1 < j)) (.slice p 3 c) [madeN a ⟨#[97, 100, 97, 112, 116, 105, 118, 101, 95, 103, 114, 97, 100, 95, 99, 108, 105, 112]⟩ [x_clipping, x_eps], madeN a ⟨#[116, 114, 97, 99, 101]⟩ [x_momentum, x_nesterov], rateA a x_rate] ∧ Below w.heap.size w w' := by
 have HK_x_rate : Hid (nd ⟨#[114, 97, 116, 101]⟩ = some x_rate) := h_rate
 have HK_x_clipping : Hid (nd ⟨#[99, 108, 105, 112, 112, 105, 110, 103]⟩ = some x_clipping) := h_clipping
 have HK_x_eps : Hid (nd ⟨#[101, 112, 115]⟩ = some x_eps) := h_eps
 have HK_x_momentum : Hid (nd ⟨#[109, 111, 109, 101, 110, 116, 117, 109]⟩ = some x_momentum) := h_momentum
 have HK_x_nesterov : Hid (nd ⟨#[110, 101, 115, 116, 101, 114, 111, 118]⟩ = some x_nesterov) := h_nesterov
 obtain ⟨rnm, hrn⟩ : ∃ x, rnmA x_rate = x := ⟨_, rfl⟩
 obtain ⟨rl, hrl⟩ : ∃ x, rlA a x_rate = x := ⟨_, rfl⟩
 rw [rate_made, hrn, hrl]
 obtain ⟨W, hW, hT⟩ := TwoB.start w b a
 have HTW : Hid (TwoB w b a W) := hT
 have HSZ : Hid (w.heap.size + 2 ≤ W.heap.size) := hlt hT.2.2
 have HPM : Hid (PM W b n nd S) := hp.below hT.1
 have HSB : Hid (∀ j, (j = b ∨ S j) → j < W.heap.size ∧ j ≠ w.heap.size + 1) := fun j hj => by
  have h1 := HSZ.out
  rcases hj with rfl | hj
  ·obtain ⟨f, h, _⟩ := hp; have := h.lt; omega
  ·have := hS j hj; omega
 obtain ⟨⟨g0, g1⟩, -⟩ := twoC hT.2.1
 have HBz : Hid (Below W.heap.size W W) := Below.refl _ _
 clear hT
 have HRT : Hid (∀ x, Below W.heap.size W x → Calls Tryz.prog 65 #[.agg #[.map (some b), .int .i64 a]] x fun e w' => ∃ p c, e = .returned (.agg #[.int .i64 1, .string rnm, .int .u32 0, .int .i64 0, .string ⟨#[]⟩, .slice p rl.length c, .int .i64 a]) ∧ Kids w' (inH (fun j => S j ∨ w.heap.size + 1 < j)) (.slice p rl.length c) rl ∧ Below x.heap.size x w') := fun x hx => by
  have := rated_any b n a nd S x_rate x HK_x_rate.out hok (fun j hj => by have := (HSB.out j (.inr hj)).1; have := hx.size; omega) (HPM.out.below hx)
  rw [hrn, hrl] at this
  exact this.mono fun e w' ⟨p, c, h1, h2, h3⟩ => ⟨p, c, h1, h2.weak (inH.sub fun j h => h.imp id fun h => by have := hx.size; have := HSZ.out; omega), h3⟩
 have HOF3 : Hid (∀ (q : Option Addr) (c : Nat) (x : World), Below W.heap.size W x → StrsA x q [⟨#[99, 108, 105, 112, 112, 105, 110, 103]⟩, ⟨#[101, 112, 115]⟩] → Calls Tryz.prog 69 #[.agg #[.map (some b), .int .i64 a], .string ⟨#[97, 100, 97, 112, 116, 105, 118, 101, 95, 103, 114, 97, 100, 95, 99, 108, 105, 112]⟩, .slice q 2 c] x fun e w' => ∃ p c, e = .returned (.agg #[.int .i64 1, .string ⟨#[97, 100, 97, 112, 116, 105, 118, 101, 95, 103, 114, 97, 100, 95, 99, 108, 105, 112]⟩, .int .u32 0, .int .i64 0, .string ⟨#[]⟩, .slice p 2 c, .int .i64 a]) ∧ Kids w' (inH (fun j => S j ∨ w.heap.size + 1 < j)) (.slice p 2 c) [x_clipping, x_eps] ∧ Below x.heap.size x w') := fun q c x hx hq => (of_any b n a nd S ⟨#[97, 100, 97, 112, 116, 105, 118, 101, 95, 103, 114, 97, 100, 95, 99, 108, 105, 112]⟩ [⟨#[99, 108, 105, 112, 112, 105, 110, 103]⟩, ⟨#[101, 112, 115]⟩] [x_clipping, x_eps] q c x (by decide) (by decide) (by simp [HK_x_clipping.out, HK_x_eps.out]) (fun j hj => by have := (HSB.out j (.inr hj)).1; have := hx.size; omega) (HPM.out.below hx) hq).mono fun e w' ⟨p, c, h1, h2, h3⟩ => ⟨p, c, h1, h2.weak (inH.sub fun j h => h.imp id fun h => by have := hx.size; have := HSZ.out; omega), h3⟩
 have HOF6 : Hid (∀ (q : Option Addr) (c : Nat) (x : World), Below W.heap.size W x → StrsA x q [⟨#[109, 111, 109, 101, 110, 116, 117, 109]⟩, ⟨#[110, 101, 115, 116, 101, 114, 111, 118]⟩] → Calls Tryz.prog 69 #[.agg #[.map (some b), .int .i64 a], .string ⟨#[116, 114, 97, 99, 101]⟩, .slice q 2 c] x fun e w' => ∃ p c, e = .returned (.agg #[.int .i64 1, .string ⟨#[116, 114, 97, 99, 101]⟩, .int .u32 0, .int .i64 0, .string ⟨#[]⟩, .slice p 2 c, .int .i64 a]) ∧ Kids w' (inH (fun j => S j ∨ w.heap.size + 1 < j)) (.slice p 2 c) [x_momentum, x_nesterov] ∧ Below x.heap.size x w') := fun q c x hx hq => (of_any b n a nd S ⟨#[116, 114, 97, 99, 101]⟩ [⟨#[109, 111, 109, 101, 110, 116, 117, 109]⟩, ⟨#[110, 101, 115, 116, 101, 114, 111, 118]⟩] [x_momentum, x_nesterov] q c x (by decide) (by decide) (by simp [HK_x_momentum.out, HK_x_nesterov.out]) (fun j hj => by have := (HSB.out j (.inr hj)).1; have := hx.size; omega) (HPM.out.below hx) hq).mono fun e w' ⟨p, c, h1, h2, h3⟩ => ⟨p, c, h1, h2.weak (inH.sub fun j h => h.imp id fun h => by have := hx.size; have := HSZ.out; omega), h3⟩
 have HCA10 : Hid (∀ (q : Option Addr) (m c : Nat) (x : World), Calls Tryz.prog 68 #[.agg #[.map (some b), .int .i64 a], .slice q m c] x fun e w' => e = .returned (.agg #[.int .i64 1, .string ⟨#[99, 104, 97, 105, 110]⟩, .int .u32 0, .int .i64 0, .string ⟨#[]⟩, .slice q m c, .int .i64 a]) ∧ Below x.heap.size x w') := fun q m c x => pchain_any b a q m c x
 clear h_rate h_clipping h_eps h_momentum h_nesterov hp hS hok hrn hrl
 go_enter Tryz.func71, Tryz.ntmps71
 go_upto_region 1 with fail
 refine wp_region_held_drew (S := (fun x => ∀ j, j < W.heap.size → j ≠ w.heap.size + 1 → x.heap[j]? = W.heap[j]?)) (by kernel_rfl) ?_ (fun hHeld => ?_)
 ·((try dsimp only); first | exact HSE.out | exact fun j h1 _ => HBz.out.block j h1 | exact fun j _ _ => rfl)
 refine wpAnyH_take (i := 0) (v := ?_) (by simp only [List.getElem?_toArray, List.getElem?_cons_succ, List.getElem?_cons_zero]; rfl) (by kernel_rfl) (by kernel_rfl) (by kernel_rfl) (by exact fun _ _ _ h => h) (Or.inl ⟨by rfl, ?_⟩) (by assumption) ?_
 rotate_left 1
 ·(intro wS hSw; have hSb : ∀ j, j < W.heap.size → j ≠ w.heap.size + 1 → wS.heap[j]? = W.heap[j]? := hSw; clear hSw; have zp := (cell_to hSb (by simp) g0); have zq := (cell_to hSb (by simp) g1); go_simp; try (with_reducible rfl))
 try simp only [Act.put, List.setIfInBounds_toArray, List.set_cons_zero, List.set_cons_succ]
 refine wpAnyH_take (i := 1) (v := ?_) (by simp only [List.getElem?_toArray, List.getElem?_cons_succ, List.getElem?_cons_zero]; rfl) (by kernel_rfl) (by kernel_rfl) (by kernel_rfl) (by exact fun _ _ _ h => h) (Or.inl ⟨by rfl, ?_⟩) (by assumption) ?_
 rotate_left 1
 ·(intro wS hSw; have hSb : ∀ j, j < W.heap.size → j ≠ w.heap.size + 1 → wS.heap[j]? = W.heap[j]? := hSw; clear hSw; have zp := (cell_to hSb (by simp) g0); have zq := (cell_to hSb (by simp) g1); go_simp; try (with_reducible rfl))
 try simp only [Act.put, List.setIfInBounds_toArray, List.set_cons_zero, List.set_cons_succ]
 refine wpAnyH_take (i := 4) (v := ?_) (by simp only [List.getElem?_toArray, List.getElem?_cons_succ, List.getElem?_cons_zero]; rfl) (by kernel_rfl) (by kernel_rfl) (by kernel_rfl) (by exact fun _ _ _ h => h) (Or.inl ⟨by rfl, ?_⟩) (by assumption) ?_
 rotate_left 1
 ·(intro wS hSw; have hSb : ∀ j, j < W.heap.size → j ≠ w.heap.size + 1 → wS.heap[j]? = W.heap[j]? := hSw; clear hSw; have zp := (cell_to hSb (by simp) g0); have zq := (cell_to hSb (by simp) g1); go_simp; try (with_reducible rfl))
 try simp only [Act.put, List.setIfInBounds_toArray, List.set_cons_zero, List.set_cons_succ]
 refine wpAnyH_take (i := 7) (v := ?_) (by simp only [List.getElem?_toArray, List.getElem?_cons_succ, List.getElem?_cons_zero]; rfl) (by kernel_rfl) (by kernel_rfl) (by kernel_rfl) (by exact fun _ _ _ h => h) (Or.inl ⟨by rfl, ?_⟩) (by assumption) ?_
 rotate_left 1
 ·(intro wS hSw; have hSb : ∀ j, j < W.heap.size → j ≠ w.heap.size + 1 → wS.heap[j]? = W.heap[j]? := hSw; clear hSw; have zp := (cell_to hSb (by simp) g0); have zq := (cell_to hSb (by simp) g1); go_simp; try (with_reducible rfl))
 try simp only [Act.put, List.setIfInBounds_toArray, List.set_cons_zero, List.set_cons_succ]
 clear hHeld
 refine wpAnyH_ready (rs := [2, 5]) (by kernel_rfl) (by simp) ?_
 refine AllReadyH.cons (i := 2) (by simp only [List.getElem?_toArray, List.getElem?_cons_succ, List.getElem?_cons_zero]; rfl) (fun K hK => ?_) ?_
 ·go_simp
  obtain ⟨G2, hG2⟩ : ∃ G, W.heap.size = G := ⟨_, rfl⟩
  obtain ⟨v2, hv2⟩ : ∃ V, (W.alloc (.cells #[.string ⟨#[99, 108, 105, 112, 112, 105, 110, 103]⟩, .string ⟨#[101, 112, 115]⟩] 9)).drew = V := ⟨_, rfl⟩
  have hb2 : Below W.heap.size W v2 := by rw [← hv2]; exact bel (bel_alloc _ _) (bel_d _)
  have HT2 : Hid (StrsA v2 (some ⟨G2, 0, none⟩) [⟨#[99, 108, 105, 112, 112, 105, 110, 103]⟩, ⟨#[101, 112, 115]⟩]) := strs_mk (by rw [← hv2, ← hG2]; exact box_heapA W _)
  have HBz : Hid (Below W.heap.size W v2) := bel HBz.out hb2
  rw [hv2, hG2]
  clear hv2 hG2 hb2
  refine hK.out _ _ ?_ (fun hHeld => ?_)
  ·((try dsimp only); first | exact HSE.out | exact fun j h1 _ => HBz.out.block j h1 | exact fun j _ _ => rfl)
  clear hK K
  try simp only [Act.put, List.setIfInBounds_toArray, List.set_cons_zero, List.set_cons_succ]
  clear hHeld
  refine wpAnyH_ready (rs := [3, 5]) (by kernel_rfl) (by simp) ?_
  refine AllReadyH.cons (i := 3) (by simp only [List.getElem?_toArray, List.getElem?_cons_succ, List.getElem?_cons_zero]; rfl) (fun K hK => ?_) ?_
  ·go_simp
   (go_at_call 69; (with_reducible refine (HOF3.out _ _ _ HBz.out HT2.out).mono ?_); rintro e v3 ⟨p3, c3, rfl, hk3, hb3⟩; have HK3 : Hid (Kids v3 (inH (fun j => S j ∨ w.heap.size + 1 < j)) (.slice p3 2 c3) [x_clipping, x_eps]) := hk3; clear hk3; have HT2 : Hid (StrsA v3 (some ⟨G2, 0, none⟩) [⟨#[99, 108, 105, 112, 112, 105, 110, 103]⟩, ⟨#[101, 112, 115]⟩]) := HT2.out.below hb3; have HBz : Hid (Below W.heap.size W v3) := bel HBz.out hb3; clear hb3)
   try (go_wp2_with fail)
   refine hK.out _ _ ?_ (fun hHeld => ?_)
   ·((try dsimp only); first | exact HSE.out | exact fun j h1 _ => HBz.out.block j h1 | exact fun j _ _ => rfl)
   clear hK K
   try simp only [Act.put, List.setIfInBounds_toArray, List.set_cons_zero, List.set_cons_succ]
   clear hHeld
   refine wpAnyH_ready (rs := [5]) (by kernel_rfl) (by simp) ?_
   refine AllReadyH.cons (i := 5) (by simp only [List.getElem?_toArray, List.getElem?_cons_succ, List.getElem?_cons_zero]; rfl) (fun K hK => ?_) AllReadyH.nil
   go_simp
   obtain ⟨G5, hG5⟩ : ∃ G, v3.heap.size = G := ⟨_, rfl⟩
   obtain ⟨v5, hv5⟩ : ∃ V, v3.alloc (.cells #[.string ⟨#[109, 111, 109, 101, 110, 116, 117, 109]⟩, .string ⟨#[110, 101, 115, 116, 101, 114, 111, 118]⟩] 9) = V := ⟨_, rfl⟩
   have hb5 : Below v3.heap.size v3 v5 := by rw [← hv5]; exact bel_alloc _ _
   have HT5 : Hid (StrsA v5 (some ⟨G5, 0, none⟩) [⟨#[109, 111, 109, 101, 110, 116, 117, 109]⟩, ⟨#[110, 101, 115, 116, 101, 114, 111, 118]⟩]) := strs_mk (by rw [← hv5, ← hG5]; exact box_heapA v3 _)
   have HT2 : Hid (StrsA v5 (some ⟨G2, 0, none⟩) [⟨#[99, 108, 105, 112, 112, 105, 110, 103]⟩, ⟨#[101, 112, 115]⟩]) := HT2.out.below hb5
   have HK3 : Hid (Kids v5 (inH (fun j => S j ∨ w.heap.size + 1 < j)) (.slice p3 2 c3) [x_clipping, x_eps]) := HK3.out.below hb5
   have HBz : Hid (Below W.heap.size W v5) := bel HBz.out hb5
   rw [hv5, hG5]
   clear hv5 hG5 hb5
   refine hK.out _ _ ?_ (fun hHeld => ?_)
   ·((try dsimp only); first | exact HSE.out | exact fun j h1 _ => HBz.out.block j h1 | exact fun j _ _ => rfl)
   clear hK K
   try simp only [Act.put, List.setIfInBounds_toArray, List.set_cons_zero, List.set_cons_succ]
   clear hHeld
   refine wpAnyH_ready (rs := [6]) (by kernel_rfl) (by simp) ?_
   refine AllReadyH.cons (i := 6) (by simp only [List.getElem?_toArray, List.getElem?_cons_succ, List.getElem?_cons_zero]; rfl) (fun K hK => ?_) AllReadyH.nil
   go_simp
   (go_at_call 69; (with_reducible refine (HOF6.out _ _ _ HBz.out HT5.out).mono ?_); rintro e v6 ⟨p6, c6, rfl, hk6, hb6⟩; have HK6 : Hid (Kids v6 (inH (fun j => S j ∨ w.heap.size + 1 < j)) (.slice p6 2 c6) [x_momentum, x_nesterov]) := hk6; clear hk6; have HT2 : Hid (StrsA v6 (some ⟨G2, 0, none⟩) [⟨#[99, 108, 105, 112, 112, 105, 110, 103]⟩, ⟨#[101, 112, 115]⟩]) := HT2.out.below hb6; have HK3 : Hid (Kids v6 (inH (fun j => S j ∨ w.heap.size + 1 < j)) (.slice p3 2 c3) [x_clipping, x_eps]) := HK3.out.below hb6; have HT5 : Hid (StrsA v6 (some ⟨G5, 0, none⟩) [⟨#[109, 111, 109, 101, 110, 116, 117, 109]⟩, ⟨#[110, 101, 115, 116, 101, 114, 111, 118]⟩]) := HT5.out.below hb6; have HBz : Hid (Below W.heap.size W v6) := bel HBz.out hb6; clear hb6)
   try (go_wp2_with fail)
   refine hK.out _ _ ?_ (fun hHeld => ?_)
   ·((try dsimp only); first | exact HSE.out | exact fun j h1 _ => HBz.out.block j h1 | exact fun j _ _ => rfl)
   clear hK K
   try simp only [Act.put, List.setIfInBounds_toArray, List.set_cons_zero, List.set_cons_succ]
   clear hHeld
   refine wpAnyH_ready (rs := [8]) (by kernel_rfl) (by simp) ?_
   refine AllReadyH.cons (i := 8) (by simp only [List.getElem?_toArray, List.getElem?_cons_succ, List.getElem?_cons_zero]; rfl) (fun K hK => ?_) AllReadyH.nil
   go_simp
   (go_at_call 65; (with_reducible refine (HRT.out _ HBz.out).mono ?_); rintro e v8 ⟨p8, c8, rfl, hk8, hb8⟩; have HK8 : Hid (Kids v8 (inH (fun j => S j ∨ w.heap.size + 1 < j)) (.slice p8 rl.length c8) rl) := hk8; clear hk8; have HT2 : Hid (StrsA v8 (some ⟨G2, 0, none⟩) [⟨#[99, 108, 105, 112, 112, 105, 110, 103]⟩, ⟨#[101, 112, 115]⟩]) := HT2.out.below hb8; have HK3 : Hid (Kids v8 (inH (fun j => S j ∨ w.heap.size + 1 < j)) (.slice p3 2 c3) [x_clipping, x_eps]) := HK3.out.below hb8; have HT5 : Hid (StrsA v8 (some ⟨G5, 0, none⟩) [⟨#[109, 111, 109, 101, 110, 116, 117, 109]⟩, ⟨#[110, 101, 115, 116, 101, 114, 111, 118]⟩]) := HT5.out.below hb8; have HK6 : Hid (Kids v8 (inH (fun j => S j ∨ w.heap.size + 1 < j)) (.slice p6 2 c6) [x_momentum, x_nesterov]) := HK6.out.below hb8; have HBz : Hid (Below W.heap.size W v8) := bel HBz.out hb8; clear hb8)
   try (go_wp2_with fail)
   refine hK.out _ _ ?_ (fun hHeld => ?_)
   ·((try dsimp only); first | exact HSE.out | exact fun j h1 _ => HBz.out.block j h1 | exact fun j _ _ => rfl)
   clear hK K
   try simp only [Act.put, List.setIfInBounds_toArray, List.set_cons_zero, List.set_cons_succ]
   clear hHeld
   refine wpAnyH_ready (rs := [9]) (by kernel_rfl) (by simp) ?_
   refine AllReadyH.cons (i := 9) (by simp only [List.getElem?_toArray, List.getElem?_cons_succ, List.getElem?_cons_zero]; rfl) (fun K hK => ?_) AllReadyH.nil
   go_simp
   have hk9 := kids_row (w := v8) (S := (fun j => S j ∨ w.heap.size + 1 < j)) (R := [(madeN a ⟨#[97, 100, 97, 112, 116, 105, 118, 101, 95, 103, 114, 97, 100, 95, 99, 108, 105, 112]⟩ [x_clipping, x_eps], .slice p3 2 c3), (madeN a ⟨#[116, 114, 97, 99, 101]⟩ [x_momentum, x_nesterov], .slice p6 2 c6), (madeN a rnm rl, .slice p8 rl.length c8)]) (cs := #[.int .i64 1, .string ⟨#[97, 100, 97, 112, 116, 105, 118, 101, 95, 103, 114, 97, 100, 95, 99, 108, 105, 112]⟩, .int .u32 0, .int .i64 0, .string ⟨#[]⟩, .slice p3 2 c3, .int .i64 a, .int .i64 1, .string ⟨#[116, 114, 97, 99, 101]⟩, .int .u32 0, .int .i64 0, .string ⟨#[]⟩, .slice p6 2 c6, .int .i64 a, .int .i64 1, .string rnm, .int .u32 0, .int .i64 0, .string ⟨#[]⟩, .slice p8 rl.length c8, .int .i64 a]) rfl (List.forall_mem_cons.2 ⟨HK3.out, List.forall_mem_cons.2 ⟨HK6.out, List.forall_mem_cons.2 ⟨HK8.out, fun r h => by cases h⟩⟩⟩) (.inr (by have := HBz.out.size; have := HSZ.out; omega)) (by simp)
   obtain ⟨G9, hG9⟩ : ∃ G, v8.heap.size = G := ⟨_, rfl⟩
   have hb9 : Below v8.heap.size v8 (v8.alloc (.cells #[.int .i64 1, .string ⟨#[97, 100, 97, 112, 116, 105, 118, 101, 95, 103, 114, 97, 100, 95, 99, 108, 105, 112]⟩, .int .u32 0, .int .i64 0, .string ⟨#[]⟩, .slice p3 2 c3, .int .i64 a, .int .i64 1, .string ⟨#[116, 114, 97, 99, 101]⟩, .int .u32 0, .int .i64 0, .string ⟨#[]⟩, .slice p6 2 c6, .int .i64 a, .int .i64 1, .string rnm, .int .u32 0, .int .i64 0, .string ⟨#[]⟩, .slice p8 rl.length c8, .int .i64 a] 29)) := bel_alloc _ _
   obtain ⟨v9, hv9⟩ : ∃ V, v8.alloc (.cells #[.int .i64 1, .string ⟨#[97, 100, 97, 112, 116, 105, 118, 101, 95, 103, 114, 97, 100, 95, 99, 108, 105, 112]⟩, .int .u32 0, .int .i64 0, .string ⟨#[]⟩, .slice p3 2 c3, .int .i64 a, .int .i64 1, .string ⟨#[116, 114, 97, 99, 101]⟩, .int .u32 0, .int .i64 0, .string ⟨#[]⟩, .slice p6 2 c6, .int .i64 a, .int .i64 1, .string rnm, .int .u32 0, .int .i64 0, .string ⟨#[]⟩, .slice p8 rl.length c8, .int .i64 a] 29) = V := ⟨_, rfl⟩
   rw [hG9] at hk9
   rw [hv9] at hb9
   have HK9 : Hid (Kids v9 (inH (fun j => S j ∨ w.heap.size + 1 < j)) (.slice (some ⟨G9, 0, none⟩) 3 3) [madeN a ⟨#[97, 100, 97, 112, 116, 105, 118, 101, 95, 103, 114, 97, 100, 95, 99, 108, 105, 112]⟩ [x_clipping, x_eps], madeN a ⟨#[116, 114, 97, 99, 101]⟩ [x_momentum, x_nesterov], madeN a rnm rl]) := by have := hk9; rw [hv9] at this; exact this
   have HT2 : Hid (StrsA v9 (some ⟨G2, 0, none⟩) [⟨#[99, 108, 105, 112, 112, 105, 110, 103]⟩, ⟨#[101, 112, 115]⟩]) := HT2.out.below hb9
   have HK3 : Hid (Kids v9 (inH (fun j => S j ∨ w.heap.size + 1 < j)) (.slice p3 2 c3) [x_clipping, x_eps]) := HK3.out.below hb9
   have HT5 : Hid (StrsA v9 (some ⟨G5, 0, none⟩) [⟨#[109, 111, 109, 101, 110, 116, 117, 109]⟩, ⟨#[110, 101, 115, 116, 101, 114, 111, 118]⟩]) := HT5.out.below hb9
   have HK6 : Hid (Kids v9 (inH (fun j => S j ∨ w.heap.size + 1 < j)) (.slice p6 2 c6) [x_momentum, x_nesterov]) := HK6.out.below hb9
   have HK8 : Hid (Kids v9 (inH (fun j => S j ∨ w.heap.size + 1 < j)) (.slice p8 rl.length c8) rl) := HK8.out.below hb9
   have HBz : Hid (Below W.heap.size W v9) := bel HBz.out hb9
   rw [hv9, hG9]
   clear hk9 hv9 hG9 hb9
   refine hK.out _ _ ?_ (fun hHeld => ?_)
   ·((try dsimp only); first | exact HSE.out | exact fun j h1 _ => HBz.out.block j h1 | exact fun j _ _ => rfl)
   clear hK K
   try simp only [Act.put, List.setIfInBounds_toArray, List.set_cons_zero, List.set_cons_succ]
   clear hHeld
   refine wpAnyH_ready (rs := [10]) (by kernel_rfl) (by simp) ?_
   refine AllReadyH.cons (i := 10) (by simp only [List.getElem?_toArray, List.getElem?_cons_succ, List.getElem?_cons_zero]; rfl) (fun K hK => ?_) AllReadyH.nil
   go_simp
   (go_at_call 68; (with_reducible refine (HCA10.out _ _ _ _).mono ?_); rintro e v10 ⟨rfl, hb10⟩; have HT2 : Hid (StrsA v10 (some ⟨G2, 0, none⟩) [⟨#[99, 108, 105, 112, 112, 105, 110, 103]⟩, ⟨#[101, 112, 115]⟩]) := HT2.out.below hb10; have HK3 : Hid (Kids v10 (inH (fun j => S j ∨ w.heap.size + 1 < j)) (.slice p3 2 c3) [x_clipping, x_eps]) := HK3.out.below hb10; have HT5 : Hid (StrsA v10 (some ⟨G5, 0, none⟩) [⟨#[109, 111, 109, 101, 110, 116, 117, 109]⟩, ⟨#[110, 101, 115, 116, 101, 114, 111, 118]⟩]) := HT5.out.below hb10; have HK6 : Hid (Kids v10 (inH (fun j => S j ∨ w.heap.size + 1 < j)) (.slice p6 2 c6) [x_momentum, x_nesterov]) := HK6.out.below hb10; have HK8 : Hid (Kids v10 (inH (fun j => S j ∨ w.heap.size + 1 < j)) (.slice p8 rl.length c8) rl) := HK8.out.below hb10; have HK9 : Hid (Kids v10 (inH (fun j => S j ∨ w.heap.size + 1 < j)) (.slice (some ⟨G9, 0, none⟩) 3 3) [madeN a ⟨#[97, 100, 97, 112, 116, 105, 118, 101, 95, 103, 114, 97, 100, 95, 99, 108, 105, 112]⟩ [x_clipping, x_eps], madeN a ⟨#[116, 114, 97, 99, 101]⟩ [x_momentum, x_nesterov], madeN a rnm rl]) := HK9.out.below hb10; have HBz : Hid (Below W.heap.size W v10) := bel HBz.out hb10; clear hb10)
   try (go_wp2_with fail)
   refine hK.out _ _ ?_ (fun hHeld => ?_)
   ·((try dsimp only); first | exact HSE.out | exact fun j h1 _ => HBz.out.block j h1 | exact fun j _ _ => rfl)
   clear hK K
   try simp only [Act.put, List.setIfInBounds_toArray, List.set_cons_zero, List.set_cons_succ]
   clear hHeld
   refine wpAnyH_ready (rs := [11]) (by kernel_rfl) (by simp) ?_
   refine AllReadyH.cons (i := 11) (by simp only [List.getElem?_toArray, List.getElem?_cons_succ, List.getElem?_cons_zero]; rfl) (fun K hK => ?_) AllReadyH.nil
   obtain ⟨⟨s0, s1, s2, s3, s4, s5, s6⟩, r0, r1, r2, r3, r4, r5, r6⟩ := sevenA (HTW.out.below HBz.out).2.2
   go_simp
   have hoff := offS_seven v10 (w.heap.size + 1) (.int .i64 1) (.string ⟨#[99, 104, 97, 105, 110]⟩) (.int .u32 0) (.int .i64 0) (.string ⟨#[]⟩) (.slice (some ⟨G9, 0, none⟩) 3 3) (.int .i64 a)
   have hosz := size_sevenS v10 (w.heap.size + 1) (.int .i64 1) (.string ⟨#[99, 104, 97, 105, 110]⟩) (.int .u32 0) (.int .i64 0) (.string ⟨#[]⟩) (.slice (some ⟨G9, 0, none⟩) 3 3) (.int .i64 a)
   have hdone := (HTW.out.below HBz.out).done (.int .i64 1) (.string ⟨#[99, 104, 97, 105, 110]⟩) (.int .u32 0) (.int .i64 0) (.string ⟨#[]⟩) (.slice (some ⟨G9, 0, none⟩) 3 3) (.int .i64 a)
   have hsv := put_sevenA (HTW.out.below HBz.out).2.2 (.int .i64 1) (.string ⟨#[99, 104, 97, 105, 110]⟩) (.int .u32 0) (.int .i64 0) (.string ⟨#[]⟩) (.slice (some ⟨G9, 0, none⟩) 3 3) (.int .i64 a)
   have HSzz : Hid (∀ j, j < W.heap.size → j ≠ w.heap.size + 1 → ((((((((v10.setCell ⟨w.heap.size + 1, 0, none⟩ (.int .i64 1)).setCell ⟨w.heap.size + 1, 1, none⟩ (.string ⟨#[99, 104, 97, 105, 110]⟩)).setCell ⟨w.heap.size + 1, 2, none⟩ (.int .u32 0)).setCell ⟨w.heap.size + 1, 3, none⟩ (.int .i64 0)).setCell ⟨w.heap.size + 1, 4, none⟩ (.string ⟨#[]⟩)).setCell ⟨w.heap.size + 1, 5, none⟩ (.slice (some ⟨G9, 0, none⟩) 3 3)).setCell ⟨w.heap.size + 1, 6, none⟩ (.int .i64 a))).heap[j]? = W.heap[j]?) := fun j h1 h2 => (hoff.sameSize hosz (by exact h2)).trans (HBz.out.block j h1)
   obtain ⟨vE, hvE⟩ : ∃ V, (((((((v10.setCell ⟨w.heap.size + 1, 0, none⟩ (.int .i64 1)).setCell ⟨w.heap.size + 1, 1, none⟩ (.string ⟨#[99, 104, 97, 105, 110]⟩)).setCell ⟨w.heap.size + 1, 2, none⟩ (.int .u32 0)).setCell ⟨w.heap.size + 1, 3, none⟩ (.int .i64 0)).setCell ⟨w.heap.size + 1, 4, none⟩ (.string ⟨#[]⟩)).setCell ⟨w.heap.size + 1, 5, none⟩ (.slice (some ⟨G9, 0, none⟩) 3 3)).setCell ⟨w.heap.size + 1, 6, none⟩ (.int .i64 a)) = V := ⟨_, rfl⟩
   rw [hvE] at hdone hsv HSzz
   try rw [hvE]
   have HSE := HSzz
   have HEND : Hid (Below w.heap.size w vE ∧ Kids vE (inH (fun j => S j ∨ w.heap.size + 1 < j)) (.slice (some ⟨G9, 0, none⟩) 3 3) [madeN a ⟨#[97, 100, 97, 112, 116, 105, 118, 101, 95, 103, 114, 97, 100, 95, 99, 108, 105, 112]⟩ [x_clipping, x_eps], madeN a ⟨#[116, 114, 97, 99, 101]⟩ [x_momentum, x_nesterov], madeN a rnm rl] ∧ vE.heap[w.heap.size + 1]? = some (.cells #[.int .i64 1, .string ⟨#[99, 104, 97, 105, 110]⟩, .int .u32 0, .int .i64 0, .string ⟨#[]⟩, .slice (some ⟨G9, 0, none⟩) 3 3, .int .i64 a] 29)) := ⟨hdone.1, hdone.2 _ _ _ (fun j h => by rcases h with h | h; (have := (HSB.out j (.inr h)).2; omega); omega) HK9.out, hsv⟩
   clear hoff hosz hdone hsv hvE s0 s1 s2 s3 s4 s5 s6 r0 r1 r2 r3 r4 r5 r6
   refine hK.out _ _ ?_ (fun hHeld => ?_)
   ·((try dsimp only); first | exact HSE.out | exact fun j h1 _ => HBz.out.block j h1 | exact fun j _ _ => rfl)
   clear hK K
   try simp only [Act.put, List.setIfInBounds_toArray, List.set_cons_zero, List.set_cons_succ]
   refine wpAnyH_done (by kernel_rfl) ?_ _
   go_wp2
   obtain ⟨⟨s0, s1, s2, s3, s4, s5, s6⟩, r0, r1, r2, r3, r4, r5, r6⟩ := sevenA HEND.out.2.2
   refine bodyPost_ret (by simp [results, Tryz.results71, go_sem, s0, s1, s2, s3, s4, s5, s6]; try rfl) rfl ?_
   exact ⟨_, _, rfl, HEND.out.2.1, HEND.out.1⟩
  refine AllReadyH.cons (i := 5) (by simp only [List.getElem?_toArray, List.getElem?_cons_succ, List.getElem?_cons_zero]; rfl) (fun K hK => ?_) AllReadyH.nil
  go_simp
  obtain ⟨G5, hG5⟩ : ∃ G, v2.heap.size = G := ⟨_, rfl⟩
  obtain ⟨v5, hv5⟩ : ∃ V, v2.alloc (.cells #[.string ⟨#[109, 111, 109, 101, 110, 116, 117, 109]⟩, .string ⟨#[110, 101, 115, 116, 101, 114, 111, 118]⟩] 9) = V := ⟨_, rfl⟩
  have hb5 : Below v2.heap.size v2 v5 := by rw [← hv5]; exact bel_alloc _ _
  have HT5 : Hid (StrsA v5 (some ⟨G5, 0, none⟩) [⟨#[109, 111, 109, 101, 110, 116, 117, 109]⟩, ⟨#[110, 101, 115, 116, 101, 114, 111, 118]⟩]) := strs_mk (by rw [← hv5, ← hG5]; exact box_heapA v2 _)
  have HT2 : Hid (StrsA v5 (some ⟨G2, 0, none⟩) [⟨#[99, 108, 105, 112, 112, 105, 110, 103]⟩, ⟨#[101, 112, 115]⟩]) := HT2.out.below hb5
  have HBz : Hid (Below W.heap.size W v5) := bel HBz.out hb5
  rw [hv5, hG5]
  clear hv5 hG5 hb5
  refine hK.out _ _ ?_ (fun hHeld => ?_)
  ·((try dsimp only); first | exact HSE.out | exact fun j h1 _ => HBz.out.block j h1 | exact fun j _ _ => rfl)
  clear hK K
  try simp only [Act.put, List.setIfInBounds_toArray, List.set_cons_zero, List.set_cons_succ]
  clear hHeld
  refine wpAnyH_ready (rs := [3]) (by kernel_rfl) (by simp) ?_
  refine AllReadyH.cons (i := 3) (by simp only [List.getElem?_toArray, List.getElem?_cons_succ, List.getElem?_cons_zero]; rfl) (fun K hK => ?_) AllReadyH.nil
  go_simp
  (go_at_call 69; (with_reducible refine (HOF3.out _ _ _ HBz.out HT2.out).mono ?_); rintro e v3 ⟨p3, c3, rfl, hk3, hb3⟩; have HK3 : Hid (Kids v3 (inH (fun j => S j ∨ w.heap.size + 1 < j)) (.slice p3 2 c3) [x_clipping, x_eps]) := hk3; clear hk3; have HT2 : Hid (StrsA v3 (some ⟨G2, 0, none⟩) [⟨#[99, 108, 105, 112, 112, 105, 110, 103]⟩, ⟨#[101, 112, 115]⟩]) := HT2.out.below hb3; have HT5 : Hid (StrsA v3 (some ⟨G5, 0, none⟩) [⟨#[109, 111, 109, 101, 110, 116, 117, 109]⟩, ⟨#[110, 101, 115, 116, 101, 114, 111, 118]⟩]) := HT5.out.below hb3; have HBz : Hid (Below W.heap.size W v3) := bel HBz.out hb3; clear hb3)
  try (go_wp2_with fail)
  refine hK.out _ _ ?_ (fun hHeld => ?_)
  ·((try dsimp only); first | exact HSE.out | exact fun j h1 _ => HBz.out.block j h1 | exact fun j _ _ => rfl)
  clear hK K
  try simp only [Act.put, List.setIfInBounds_toArray, List.set_cons_zero, List.set_cons_succ]
  clear hHeld
  refine wpAnyH_ready (rs := [6]) (by kernel_rfl) (by simp) ?_
  refine AllReadyH.cons (i := 6) (by simp only [List.getElem?_toArray, List.getElem?_cons_succ, List.getElem?_cons_zero]; rfl) (fun K hK => ?_) AllReadyH.nil
  go_simp
  (go_at_call 69; (with_reducible refine (HOF6.out _ _ _ HBz.out HT5.out).mono ?_); rintro e v6 ⟨p6, c6, rfl, hk6, hb6⟩; have HK6 : Hid (Kids v6 (inH (fun j => S j ∨ w.heap.size + 1 < j)) (.slice p6 2 c6) [x_momentum, x_nesterov]) := hk6; clear hk6; have HT2 : Hid (StrsA v6 (some ⟨G2, 0, none⟩) [⟨#[99, 108, 105, 112, 112, 105, 110, 103]⟩, ⟨#[101, 112, 115]⟩]) := HT2.out.below hb6; have HT5 : Hid (StrsA v6 (some ⟨G5, 0, none⟩) [⟨#[109, 111, 109, 101, 110, 116, 117, 109]⟩, ⟨#[110, 101, 115, 116, 101, 114, 111, 118]⟩]) := HT5.out.below hb6; have HK3 : Hid (Kids v6 (inH (fun j => S j ∨ w.heap.size + 1 < j)) (.slice p3 2 c3) [x_clipping, x_eps]) := HK3.out.below hb6; have HBz : Hid (Below W.heap.size W v6) := bel HBz.out hb6; clear hb6)
  try (go_wp2_with fail)
  refine hK.out _ _ ?_ (fun hHeld => ?_)
  ·((try dsimp only); first | exact HSE.out | exact fun j h1 _ => HBz.out.block j h1 | exact fun j _ _ => rfl)
  clear hK K
  try simp only [Act.put, List.setIfInBounds_toArray, List.set_cons_zero, List.set_cons_succ]
  clear hHeld
  refine wpAnyH_ready (rs := [8]) (by kernel_rfl) (by simp) ?_
  refine AllReadyH.cons (i := 8) (by simp only [List.getElem?_toArray, List.getElem?_cons_succ, List.getElem?_cons_zero]; rfl) (fun K hK => ?_) AllReadyH.nil
  go_simp
  (go_at_call 65; (with_reducible refine (HRT.out _ HBz.out).mono ?_); rintro e v8 ⟨p8, c8, rfl, hk8, hb8⟩; have HK8 : Hid (Kids v8 (inH (fun j => S j ∨ w.heap.size + 1 < j)) (.slice p8 rl.length c8) rl) := hk8; clear hk8; have HT2 : Hid (StrsA v8 (some ⟨G2, 0, none⟩) [⟨#[99, 108, 105, 112, 112, 105, 110, 103]⟩, ⟨#[101, 112, 115]⟩]) := HT2.out.below hb8; have HT5 : Hid (StrsA v8 (some ⟨G5, 0, none⟩) [⟨#[109, 111, 109, 101, 110, 116, 117, 109]⟩, ⟨#[110, 101, 115, 116, 101, 114, 111, 118]⟩]) := HT5.out.below hb8; have HK3 : Hid (Kids v8 (inH (fun j => S j ∨ w.heap.size + 1 < j)) (.slice p3 2 c3) [x_clipping, x_eps]) := HK3.out.below hb8; have HK6 : Hid (Kids v8 (inH (fun j => S j ∨ w.heap.size + 1 < j)) (.slice p6 2 c6) [x_momentum, x_nesterov]) := HK6.out.below hb8; have HBz : Hid (Below W.heap.size W v8) := bel HBz.out hb8; clear hb8)
  try (go_wp2_with fail)
  refine hK.out _ _ ?_ (fun hHeld => ?_)
  ·((try dsimp only); first | exact HSE.out | exact fun j h1 _ => HBz.out.block j h1 | exact fun j _ _ => rfl)
  clear hK K
  try simp only [Act.put, List.setIfInBounds_toArray, List.set_cons_zero, List.set_cons_succ]
  clear hHeld
  refine wpAnyH_ready (rs := [9]) (by kernel_rfl) (by simp) ?_
  refine AllReadyH.cons (i := 9) (by simp only [List.getElem?_toArray, List.getElem?_cons_succ, List.getElem?_cons_zero]; rfl) (fun K hK => ?_) AllReadyH.nil
  go_simp
  have hk9 := kids_row (w := v8) (S := (fun j => S j ∨ w.heap.size + 1 < j)) (R := [(madeN a ⟨#[97, 100, 97, 112, 116, 105, 118, 101, 95, 103, 114, 97, 100, 95, 99, 108, 105, 112]⟩ [x_clipping, x_eps], .slice p3 2 c3), (madeN a ⟨#[116, 114, 97, 99, 101]⟩ [x_momentum, x_nesterov], .slice p6 2 c6), (madeN a rnm rl, .slice p8 rl.length c8)]) (cs := #[.int .i64 1, .string ⟨#[97, 100, 97, 112, 116, 105, 118, 101, 95, 103, 114, 97, 100, 95, 99, 108, 105, 112]⟩, .int .u32 0, .int .i64 0, .string ⟨#[]⟩, .slice p3 2 c3, .int .i64 a, .int .i64 1, .string ⟨#[116, 114, 97, 99, 101]⟩, .int .u32 0, .int .i64 0, .string ⟨#[]⟩, .slice p6 2 c6, .int .i64 a, .int .i64 1, .string rnm, .int .u32 0, .int .i64 0, .string ⟨#[]⟩, .slice p8 rl.length c8, .int .i64 a]) rfl (List.forall_mem_cons.2 ⟨HK3.out, List.forall_mem_cons.2 ⟨HK6.out, List.forall_mem_cons.2 ⟨HK8.out, fun r h => by cases h⟩⟩⟩) (.inr (by have := HBz.out.size; have := HSZ.out; omega)) (by simp)
  obtain ⟨G9, hG9⟩ : ∃ G, v8.heap.size = G := ⟨_, rfl⟩
  have hb9 : Below v8.heap.size v8 (v8.alloc (.cells #[.int .i64 1, .string ⟨#[97, 100, 97, 112, 116, 105, 118, 101, 95, 103, 114, 97, 100, 95, 99, 108, 105, 112]⟩, .int .u32 0, .int .i64 0, .string ⟨#[]⟩, .slice p3 2 c3, .int .i64 a, .int .i64 1, .string ⟨#[116, 114, 97, 99, 101]⟩, .int .u32 0, .int .i64 0, .string ⟨#[]⟩, .slice p6 2 c6, .int .i64 a, .int .i64 1, .string rnm, .int .u32 0, .int .i64 0, .string ⟨#[]⟩, .slice p8 rl.length c8, .int .i64 a] 29)) := bel_alloc _ _
  obtain ⟨v9, hv9⟩ : ∃ V, v8.alloc (.cells #[.int .i64 1, .string ⟨#[97, 100, 97, 112, 116, 105, 118, 101, 95, 103, 114, 97, 100, 95, 99, 108, 105, 112]⟩, .int .u32 0, .int .i64 0, .string ⟨#[]⟩, .slice p3 2 c3, .int .i64 a, .int .i64 1, .string ⟨#[116, 114, 97, 99, 101]⟩, .int .u32 0, .int .i64 0, .string ⟨#[]⟩, .slice p6 2 c6, .int .i64 a, .int .i64 1, .string rnm, .int .u32 0, .int .i64 0, .string ⟨#[]⟩, .slice p8 rl.length c8, .int .i64 a] 29) = V := ⟨_, rfl⟩
  rw [hG9] at hk9
  rw [hv9] at hb9
  have HK9 : Hid (Kids v9 (inH (fun j => S j ∨ w.heap.size + 1 < j)) (.slice (some ⟨G9, 0, none⟩) 3 3) [madeN a ⟨#[97, 100, 97, 112, 116, 105, 118, 101, 95, 103, 114, 97, 100, 95, 99, 108, 105, 112]⟩ [x_clipping, x_eps], madeN a ⟨#[116, 114, 97, 99, 101]⟩ [x_momentum, x_nesterov], madeN a rnm rl]) := by have := hk9; rw [hv9] at this; exact this
  have HT2 : Hid (StrsA v9 (some ⟨G2, 0, none⟩) [⟨#[99, 108, 105, 112, 112, 105, 110, 103]⟩, ⟨#[101, 112, 115]⟩]) := HT2.out.below hb9
  have HT5 : Hid (StrsA v9 (some ⟨G5, 0, none⟩) [⟨#[109, 111, 109, 101, 110, 116, 117, 109]⟩, ⟨#[110, 101, 115, 116, 101, 114, 111, 118]⟩]) := HT5.out.below hb9
  have HK3 : Hid (Kids v9 (inH (fun j => S j ∨ w.heap.size + 1 < j)) (.slice p3 2 c3) [x_clipping, x_eps]) := HK3.out.below hb9
  have HK6 : Hid (Kids v9 (inH (fun j => S j ∨ w.heap.size + 1 < j)) (.slice p6 2 c6) [x_momentum, x_nesterov]) := HK6.out.below hb9
  have HK8 : Hid (Kids v9 (inH (fun j => S j ∨ w.heap.size + 1 < j)) (.slice p8 rl.length c8) rl) := HK8.out.below hb9
  have HBz : Hid (Below W.heap.size W v9) := bel HBz.out hb9
  rw [hv9, hG9]
  clear hk9 hv9 hG9 hb9
  refine hK.out _ _ ?_ (fun hHeld => ?_)
  ·((try dsimp only); first | exact HSE.out | exact fun j h1 _ => HBz.out.block j h1 | exact fun j _ _ => rfl)
  clear hK K
  try simp only [Act.put, List.setIfInBounds_toArray, List.set_cons_zero, List.set_cons_succ]
  clear hHeld
  refine wpAnyH_ready (rs := [10]) (by kernel_rfl) (by simp) ?_
  refine AllReadyH.cons (i := 10) (by simp only [List.getElem?_toArray, List.getElem?_cons_succ, List.getElem?_cons_zero]; rfl) (fun K hK => ?_) AllReadyH.nil
  go_simp
  (go_at_call 68; (with_reducible refine (HCA10.out _ _ _ _).mono ?_); rintro e v10 ⟨rfl, hb10⟩; have HT2 : Hid (StrsA v10 (some ⟨G2, 0, none⟩) [⟨#[99, 108, 105, 112, 112, 105, 110, 103]⟩, ⟨#[101, 112, 115]⟩]) := HT2.out.below hb10; have HT5 : Hid (StrsA v10 (some ⟨G5, 0, none⟩) [⟨#[109, 111, 109, 101, 110, 116, 117, 109]⟩, ⟨#[110, 101, 115, 116, 101, 114, 111, 118]⟩]) := HT5.out.below hb10; have HK3 : Hid (Kids v10 (inH (fun j => S j ∨ w.heap.size + 1 < j)) (.slice p3 2 c3) [x_clipping, x_eps]) := HK3.out.below hb10; have HK6 : Hid (Kids v10 (inH (fun j => S j ∨ w.heap.size + 1 < j)) (.slice p6 2 c6) [x_momentum, x_nesterov]) := HK6.out.below hb10; have HK8 : Hid (Kids v10 (inH (fun j => S j ∨ w.heap.size + 1 < j)) (.slice p8 rl.length c8) rl) := HK8.out.below hb10; have HK9 : Hid (Kids v10 (inH (fun j => S j ∨ w.heap.size + 1 < j)) (.slice (some ⟨G9, 0, none⟩) 3 3) [madeN a ⟨#[97, 100, 97, 112, 116, 105, 118, 101, 95, 103, 114, 97, 100, 95, 99, 108, 105, 112]⟩ [x_clipping, x_eps], madeN a ⟨#[116, 114, 97, 99, 101]⟩ [x_momentum, x_nesterov], madeN a rnm rl]) := HK9.out.below hb10; have HBz : Hid (Below W.heap.size W v10) := bel HBz.out hb10; clear hb10)
  try (go_wp2_with fail)
  refine hK.out _ _ ?_ (fun hHeld => ?_)
  ·((try dsimp only); first | exact HSE.out | exact fun j h1 _ => HBz.out.block j h1 | exact fun j _ _ => rfl)
  clear hK K
  try simp only [Act.put, List.setIfInBounds_toArray, List.set_cons_zero, List.set_cons_succ]
  clear hHeld
  refine wpAnyH_ready (rs := [11]) (by kernel_rfl) (by simp) ?_
  refine AllReadyH.cons (i := 11) (by simp only [List.getElem?_toArray, List.getElem?_cons_succ, List.getElem?_cons_zero]; rfl) (fun K hK => ?_) AllReadyH.nil
  obtain ⟨⟨s0, s1, s2, s3, s4, s5, s6⟩, r0, r1, r2, r3, r4, r5, r6⟩ := sevenA (HTW.out.below HBz.out).2.2
  go_simp
  have hoff := offS_seven v10 (w.heap.size + 1) (.int .i64 1) (.string ⟨#[99, 104, 97, 105, 110]⟩) (.int .u32 0) (.int .i64 0) (.string ⟨#[]⟩) (.slice (some ⟨G9, 0, none⟩) 3 3) (.int .i64 a)
  have hosz := size_sevenS v10 (w.heap.size + 1) (.int .i64 1) (.string ⟨#[99, 104, 97, 105, 110]⟩) (.int .u32 0) (.int .i64 0) (.string ⟨#[]⟩) (.slice (some ⟨G9, 0, none⟩) 3 3) (.int .i64 a)
  have hdone := (HTW.out.below HBz.out).done (.int .i64 1) (.string ⟨#[99, 104, 97, 105, 110]⟩) (.int .u32 0) (.int .i64 0) (.string ⟨#[]⟩) (.slice (some ⟨G9, 0, none⟩) 3 3) (.int .i64 a)
  have hsv := put_sevenA (HTW.out.below HBz.out).2.2 (.int .i64 1) (.string ⟨#[99, 104, 97, 105, 110]⟩) (.int .u32 0) (.int .i64 0) (.string ⟨#[]⟩) (.slice (some ⟨G9, 0, none⟩) 3 3) (.int .i64 a)
  have HSzz : Hid (∀ j, j < W.heap.size → j ≠ w.heap.size + 1 → ((((((((v10.setCell ⟨w.heap.size + 1, 0, none⟩ (.int .i64 1)).setCell ⟨w.heap.size + 1, 1, none⟩ (.string ⟨#[99, 104, 97, 105, 110]⟩)).setCell ⟨w.heap.size + 1, 2, none⟩ (.int .u32 0)).setCell ⟨w.heap.size + 1, 3, none⟩ (.int .i64 0)).setCell ⟨w.heap.size + 1, 4, none⟩ (.string ⟨#[]⟩)).setCell ⟨w.heap.size + 1, 5, none⟩ (.slice (some ⟨G9, 0, none⟩) 3 3)).setCell ⟨w.heap.size + 1, 6, none⟩ (.int .i64 a))).heap[j]? = W.heap[j]?) := fun j h1 h2 => (hoff.sameSize hosz (by exact h2)).trans (HBz.out.block j h1)
  obtain ⟨vE, hvE⟩ : ∃ V, (((((((v10.setCell ⟨w.heap.size + 1, 0, none⟩ (.int .i64 1)).setCell ⟨w.heap.size + 1, 1, none⟩ (.string ⟨#[99, 104, 97, 105, 110]⟩)).setCell ⟨w.heap.size + 1, 2, none⟩ (.int .u32 0)).setCell ⟨w.heap.size + 1, 3, none⟩ (.int .i64 0)).setCell ⟨w.heap.size + 1, 4, none⟩ (.string ⟨#[]⟩)).setCell ⟨w.heap.size + 1, 5, none⟩ (.slice (some ⟨G9, 0, none⟩) 3 3)).setCell ⟨w.heap.size + 1, 6, none⟩ (.int .i64 a)) = V := ⟨_, rfl⟩
  rw [hvE] at hdone hsv HSzz
  try rw [hvE]
  have HSE := HSzz
  have HEND : Hid (Below w.heap.size w vE ∧ Kids vE (inH (fun j => S j ∨ w.heap.size + 1 < j)) (.slice (some ⟨G9, 0, none⟩) 3 3) [madeN a ⟨#[97, 100, 97, 112, 116, 105, 118, 101, 95, 103, 114, 97, 100, 95, 99, 108, 105, 112]⟩ [x_clipping, x_eps], madeN a ⟨#[116, 114, 97, 99, 101]⟩ [x_momentum, x_nesterov], madeN a rnm rl] ∧ vE.heap[w.heap.size + 1]? = some (.cells #[.int .i64 1, .string ⟨#[99, 104, 97, 105, 110]⟩, .int .u32 0, .int .i64 0, .string ⟨#[]⟩, .slice (some ⟨G9, 0, none⟩) 3 3, .int .i64 a] 29)) := ⟨hdone.1, hdone.2 _ _ _ (fun j h => by rcases h with h | h; (have := (HSB.out j (.inr h)).2; omega); omega) HK9.out, hsv⟩
  clear hoff hosz hdone hsv hvE s0 s1 s2 s3 s4 s5 s6 r0 r1 r2 r3 r4 r5 r6
  refine hK.out _ _ ?_ (fun hHeld => ?_)
  ·((try dsimp only); first | exact HSE.out | exact fun j h1 _ => HBz.out.block j h1 | exact fun j _ _ => rfl)
  clear hK K
  try simp only [Act.put, List.setIfInBounds_toArray, List.set_cons_zero, List.set_cons_succ]
  refine wpAnyH_done (by kernel_rfl) ?_ _
  go_wp2
  obtain ⟨⟨s0, s1, s2, s3, s4, s5, s6⟩, r0, r1, r2, r3, r4, r5, r6⟩ := sevenA HEND.out.2.2
  refine bodyPost_ret (by simp [results, Tryz.results71, go_sem, s0, s1, s2, s3, s4, s5, s6]; try rfl) rfl ?_
  exact ⟨_, _, rfl, HEND.out.2.1, HEND.out.1⟩
 refine AllReadyH.cons (i := 5) (by simp only [List.getElem?_toArray, List.getElem?_cons_succ, List.getElem?_cons_zero]; rfl) (fun K hK => ?_) AllReadyH.nil
 go_simp
 obtain ⟨G5, hG5⟩ : ∃ G, W.heap.size = G := ⟨_, rfl⟩
 obtain ⟨v5, hv5⟩ : ∃ V, (W.alloc (.cells #[.string ⟨#[109, 111, 109, 101, 110, 116, 117, 109]⟩, .string ⟨#[110, 101, 115, 116, 101, 114, 111, 118]⟩] 9)).drew = V := ⟨_, rfl⟩
 have hb5 : Below W.heap.size W v5 := by rw [← hv5]; exact bel (bel_alloc _ _) (bel_d _)
 have HT5 : Hid (StrsA v5 (some ⟨G5, 0, none⟩) [⟨#[109, 111, 109, 101, 110, 116, 117, 109]⟩, ⟨#[110, 101, 115, 116, 101, 114, 111, 118]⟩]) := strs_mk (by rw [← hv5, ← hG5]; exact box_heapA W _)
 have HBz : Hid (Below W.heap.size W v5) := bel HBz.out hb5
 rw [hv5, hG5]
 clear hv5 hG5 hb5
 refine hK.out _ _ ?_ (fun hHeld => ?_)
 ·((try dsimp only); first | exact HSE.out | exact fun j h1 _ => HBz.out.block j h1 | exact fun j _ _ => rfl)
 clear hK K
 try simp only [Act.put, List.setIfInBounds_toArray, List.set_cons_zero, List.set_cons_succ]
 clear hHeld
 refine wpAnyH_ready (rs := [2]) (by kernel_rfl) (by simp) ?_
 refine AllReadyH.cons (i := 2) (by simp only [List.getElem?_toArray, List.getElem?_cons_succ, List.getElem?_cons_zero]; rfl) (fun K hK => ?_) AllReadyH.nil
 go_simp
 obtain ⟨G2, hG2⟩ : ∃ G, v5.heap.size = G := ⟨_, rfl⟩
 obtain ⟨v2, hv2⟩ : ∃ V, v5.alloc (.cells #[.string ⟨#[99, 108, 105, 112, 112, 105, 110, 103]⟩, .string ⟨#[101, 112, 115]⟩] 9) = V := ⟨_, rfl⟩
 have hb2 : Below v5.heap.size v5 v2 := by rw [← hv2]; exact bel_alloc _ _
 have HT2 : Hid (StrsA v2 (some ⟨G2, 0, none⟩) [⟨#[99, 108, 105, 112, 112, 105, 110, 103]⟩, ⟨#[101, 112, 115]⟩]) := strs_mk (by rw [← hv2, ← hG2]; exact box_heapA v5 _)
 have HT5 : Hid (StrsA v2 (some ⟨G5, 0, none⟩) [⟨#[109, 111, 109, 101, 110, 116, 117, 109]⟩, ⟨#[110, 101, 115, 116, 101, 114, 111, 118]⟩]) := HT5.out.below hb2
 have HBz : Hid (Below W.heap.size W v2) := bel HBz.out hb2
 rw [hv2, hG2]
 clear hv2 hG2 hb2
 refine hK.out _ _ ?_ (fun hHeld => ?_)
 ·((try dsimp only); first | exact HSE.out | exact fun j h1 _ => HBz.out.block j h1 | exact fun j _ _ => rfl)
 clear hK K
 try simp only [Act.put, List.setIfInBounds_toArray, List.set_cons_zero, List.set_cons_succ]
 clear hHeld
 refine wpAnyH_ready (rs := [3]) (by kernel_rfl) (by simp) ?_
 refine AllReadyH.cons (i := 3) (by simp only [List.getElem?_toArray, List.getElem?_cons_succ, List.getElem?_cons_zero]; rfl) (fun K hK => ?_) AllReadyH.nil
 go_simp
 (go_at_call 69; (with_reducible refine (HOF3.out _ _ _ HBz.out HT2.out).mono ?_); rintro e v3 ⟨p3, c3, rfl, hk3, hb3⟩; have HK3 : Hid (Kids v3 (inH (fun j => S j ∨ w.heap.size + 1 < j)) (.slice p3 2 c3) [x_clipping, x_eps]) := hk3; clear hk3; have HT5 : Hid (StrsA v3 (some ⟨G5, 0, none⟩) [⟨#[109, 111, 109, 101, 110, 116, 117, 109]⟩, ⟨#[110, 101, 115, 116, 101, 114, 111, 118]⟩]) := HT5.out.below hb3; have HT2 : Hid (StrsA v3 (some ⟨G2, 0, none⟩) [⟨#[99, 108, 105, 112, 112, 105, 110, 103]⟩, ⟨#[101, 112, 115]⟩]) := HT2.out.below hb3; have HBz : Hid (Below W.heap.size W v3) := bel HBz.out hb3; clear hb3)
 try (go_wp2_with fail)
 refine hK.out _ _ ?_ (fun hHeld => ?_)
 ·((try dsimp only); first | exact HSE.out | exact fun j h1 _ => HBz.out.block j h1 | exact fun j _ _ => rfl)
 clear hK K
 try simp only [Act.put, List.setIfInBounds_toArray, List.set_cons_zero, List.set_cons_succ]
 clear hHeld
 refine wpAnyH_ready (rs := [6]) (by kernel_rfl) (by simp) ?_
 refine AllReadyH.cons (i := 6) (by simp only [List.getElem?_toArray, List.getElem?_cons_succ, List.getElem?_cons_zero]; rfl) (fun K hK => ?_) AllReadyH.nil
 go_simp
 (go_at_call 69; (with_reducible refine (HOF6.out _ _ _ HBz.out HT5.out).mono ?_); rintro e v6 ⟨p6, c6, rfl, hk6, hb6⟩; have HK6 : Hid (Kids v6 (inH (fun j => S j ∨ w.heap.size + 1 < j)) (.slice p6 2 c6) [x_momentum, x_nesterov]) := hk6; clear hk6; have HT5 : Hid (StrsA v6 (some ⟨G5, 0, none⟩) [⟨#[109, 111, 109, 101, 110, 116, 117, 109]⟩, ⟨#[110, 101, 115, 116, 101, 114, 111, 118]⟩]) := HT5.out.below hb6; have HT2 : Hid (StrsA v6 (some ⟨G2, 0, none⟩) [⟨#[99, 108, 105, 112, 112, 105, 110, 103]⟩, ⟨#[101, 112, 115]⟩]) := HT2.out.below hb6; have HK3 : Hid (Kids v6 (inH (fun j => S j ∨ w.heap.size + 1 < j)) (.slice p3 2 c3) [x_clipping, x_eps]) := HK3.out.below hb6; have HBz : Hid (Below W.heap.size W v6) := bel HBz.out hb6; clear hb6)
 try (go_wp2_with fail)
 refine hK.out _ _ ?_ (fun hHeld => ?_)
 ·((try dsimp only); first | exact HSE.out | exact fun j h1 _ => HBz.out.block j h1 | exact fun j _ _ => rfl)
 clear hK K
 try simp only [Act.put, List.setIfInBounds_toArray, List.set_cons_zero, List.set_cons_succ]
 clear hHeld
 refine wpAnyH_ready (rs := [8]) (by kernel_rfl) (by simp) ?_
 refine AllReadyH.cons (i := 8) (by simp only [List.getElem?_toArray, List.getElem?_cons_succ, List.getElem?_cons_zero]; rfl) (fun K hK => ?_) AllReadyH.nil
 go_simp
 (go_at_call 65; (with_reducible refine (HRT.out _ HBz.out).mono ?_); rintro e v8 ⟨p8, c8, rfl, hk8, hb8⟩; have HK8 : Hid (Kids v8 (inH (fun j => S j ∨ w.heap.size + 1 < j)) (.slice p8 rl.length c8) rl) := hk8; clear hk8; have HT5 : Hid (StrsA v8 (some ⟨G5, 0, none⟩) [⟨#[109, 111, 109, 101, 110, 116, 117, 109]⟩, ⟨#[110, 101, 115, 116, 101, 114, 111, 118]⟩]) := HT5.out.below hb8; have HT2 : Hid (StrsA v8 (some ⟨G2, 0, none⟩) [⟨#[99, 108, 105, 112, 112, 105, 110, 103]⟩, ⟨#[101, 112, 115]⟩]) := HT2.out.below hb8; have HK3 : Hid (Kids v8 (inH (fun j => S j ∨ w.heap.size + 1 < j)) (.slice p3 2 c3) [x_clipping, x_eps]) := HK3.out.below hb8; have HK6 : Hid (Kids v8 (inH (fun j => S j ∨ w.heap.size + 1 < j)) (.slice p6 2 c6) [x_momentum, x_nesterov]) := HK6.out.below hb8; have HBz : Hid (Below W.heap.size W v8) := bel HBz.out hb8; clear hb8)
 try (go_wp2_with fail)
 refine hK.out _ _ ?_ (fun hHeld => ?_)
 ·((try dsimp only); first | exact HSE.out | exact fun j h1 _ => HBz.out.block j h1 | exact fun j _ _ => rfl)
 clear hK K
 try simp only [Act.put, List.setIfInBounds_toArray, List.set_cons_zero, List.set_cons_succ]
 clear hHeld
 refine wpAnyH_ready (rs := [9]) (by kernel_rfl) (by simp) ?_
 refine AllReadyH.cons (i := 9) (by simp only [List.getElem?_toArray, List.getElem?_cons_succ, List.getElem?_cons_zero]; rfl) (fun K hK => ?_) AllReadyH.nil
 go_simp
 have hk9 := kids_row (w := v8) (S := (fun j => S j ∨ w.heap.size + 1 < j)) (R := [(madeN a ⟨#[97, 100, 97, 112, 116, 105, 118, 101, 95, 103, 114, 97, 100, 95, 99, 108, 105, 112]⟩ [x_clipping, x_eps], .slice p3 2 c3), (madeN a ⟨#[116, 114, 97, 99, 101]⟩ [x_momentum, x_nesterov], .slice p6 2 c6), (madeN a rnm rl, .slice p8 rl.length c8)]) (cs := #[.int .i64 1, .string ⟨#[97, 100, 97, 112, 116, 105, 118, 101, 95, 103, 114, 97, 100, 95, 99, 108, 105, 112]⟩, .int .u32 0, .int .i64 0, .string ⟨#[]⟩, .slice p3 2 c3, .int .i64 a, .int .i64 1, .string ⟨#[116, 114, 97, 99, 101]⟩, .int .u32 0, .int .i64 0, .string ⟨#[]⟩, .slice p6 2 c6, .int .i64 a, .int .i64 1, .string rnm, .int .u32 0, .int .i64 0, .string ⟨#[]⟩, .slice p8 rl.length c8, .int .i64 a]) rfl (List.forall_mem_cons.2 ⟨HK3.out, List.forall_mem_cons.2 ⟨HK6.out, List.forall_mem_cons.2 ⟨HK8.out, fun r h => by cases h⟩⟩⟩) (.inr (by have := HBz.out.size; have := HSZ.out; omega)) (by simp)
 obtain ⟨G9, hG9⟩ : ∃ G, v8.heap.size = G := ⟨_, rfl⟩
 have hb9 : Below v8.heap.size v8 (v8.alloc (.cells #[.int .i64 1, .string ⟨#[97, 100, 97, 112, 116, 105, 118, 101, 95, 103, 114, 97, 100, 95, 99, 108, 105, 112]⟩, .int .u32 0, .int .i64 0, .string ⟨#[]⟩, .slice p3 2 c3, .int .i64 a, .int .i64 1, .string ⟨#[116, 114, 97, 99, 101]⟩, .int .u32 0, .int .i64 0, .string ⟨#[]⟩, .slice p6 2 c6, .int .i64 a, .int .i64 1, .string rnm, .int .u32 0, .int .i64 0, .string ⟨#[]⟩, .slice p8 rl.length c8, .int .i64 a] 29)) := bel_alloc _ _
 obtain ⟨v9, hv9⟩ : ∃ V, v8.alloc (.cells #[.int .i64 1, .string ⟨#[97, 100, 97, 112, 116, 105, 118, 101, 95, 103, 114, 97, 100, 95, 99, 108, 105, 112]⟩, .int .u32 0, .int .i64 0, .string ⟨#[]⟩, .slice p3 2 c3, .int .i64 a, .int .i64 1, .string ⟨#[116, 114, 97, 99, 101]⟩, .int .u32 0, .int .i64 0, .string ⟨#[]⟩, .slice p6 2 c6, .int .i64 a, .int .i64 1, .string rnm, .int .u32 0, .int .i64 0, .string ⟨#[]⟩, .slice p8 rl.length c8, .int .i64 a] 29) = V := ⟨_, rfl⟩
 rw [hG9] at hk9
 rw [hv9] at hb9
 have HK9 : Hid (Kids v9 (inH (fun j => S j ∨ w.heap.size + 1 < j)) (.slice (some ⟨G9, 0, none⟩) 3 3) [madeN a ⟨#[97, 100, 97, 112, 116, 105, 118, 101, 95, 103, 114, 97, 100, 95, 99, 108, 105, 112]⟩ [x_clipping, x_eps], madeN a ⟨#[116, 114, 97, 99, 101]⟩ [x_momentum, x_nesterov], madeN a rnm rl]) := by have := hk9; rw [hv9] at this; exact this
 have HT5 : Hid (StrsA v9 (some ⟨G5, 0, none⟩) [⟨#[109, 111, 109, 101, 110, 116, 117, 109]⟩, ⟨#[110, 101, 115, 116, 101, 114, 111, 118]⟩]) := HT5.out.below hb9
 have HT2 : Hid (StrsA v9 (some ⟨G2, 0, none⟩) [⟨#[99, 108, 105, 112, 112, 105, 110, 103]⟩, ⟨#[101, 112, 115]⟩]) := HT2.out.below hb9
 have HK3 : Hid (Kids v9 (inH (fun j => S j ∨ w.heap.size + 1 < j)) (.slice p3 2 c3) [x_clipping, x_eps]) := HK3.out.below hb9
 have HK6 : Hid (Kids v9 (inH (fun j => S j ∨ w.heap.size + 1 < j)) (.slice p6 2 c6) [x_momentum, x_nesterov]) := HK6.out.below hb9
 have HK8 : Hid (Kids v9 (inH (fun j => S j ∨ w.heap.size + 1 < j)) (.slice p8 rl.length c8) rl) := HK8.out.below hb9
 have HBz : Hid (Below W.heap.size W v9) := bel HBz.out hb9
 rw [hv9, hG9]
 clear hk9 hv9 hG9 hb9
 refine hK.out _ _ ?_ (fun hHeld => ?_)
 ·((try dsimp only); first | exact HSE.out | exact fun j h1 _ => HBz.out.block j h1 | exact fun j _ _ => rfl)
 clear hK K
 try simp only [Act.put, List.setIfInBounds_toArray, List.set_cons_zero, List.set_cons_succ]
 clear hHeld
 refine wpAnyH_ready (rs := [10]) (by kernel_rfl) (by simp) ?_
 refine AllReadyH.cons (i := 10) (by simp only [List.getElem?_toArray, List.getElem?_cons_succ, List.getElem?_cons_zero]; rfl) (fun K hK => ?_) AllReadyH.nil
 go_simp
 (go_at_call 68; (with_reducible refine (HCA10.out _ _ _ _).mono ?_); rintro e v10 ⟨rfl, hb10⟩; have HT5 : Hid (StrsA v10 (some ⟨G5, 0, none⟩) [⟨#[109, 111, 109, 101, 110, 116, 117, 109]⟩, ⟨#[110, 101, 115, 116, 101, 114, 111, 118]⟩]) := HT5.out.below hb10; have HT2 : Hid (StrsA v10 (some ⟨G2, 0, none⟩) [⟨#[99, 108, 105, 112, 112, 105, 110, 103]⟩, ⟨#[101, 112, 115]⟩]) := HT2.out.below hb10; have HK3 : Hid (Kids v10 (inH (fun j => S j ∨ w.heap.size + 1 < j)) (.slice p3 2 c3) [x_clipping, x_eps]) := HK3.out.below hb10; have HK6 : Hid (Kids v10 (inH (fun j => S j ∨ w.heap.size + 1 < j)) (.slice p6 2 c6) [x_momentum, x_nesterov]) := HK6.out.below hb10; have HK8 : Hid (Kids v10 (inH (fun j => S j ∨ w.heap.size + 1 < j)) (.slice p8 rl.length c8) rl) := HK8.out.below hb10; have HK9 : Hid (Kids v10 (inH (fun j => S j ∨ w.heap.size + 1 < j)) (.slice (some ⟨G9, 0, none⟩) 3 3) [madeN a ⟨#[97, 100, 97, 112, 116, 105, 118, 101, 95, 103, 114, 97, 100, 95, 99, 108, 105, 112]⟩ [x_clipping, x_eps], madeN a ⟨#[116, 114, 97, 99, 101]⟩ [x_momentum, x_nesterov], madeN a rnm rl]) := HK9.out.below hb10; have HBz : Hid (Below W.heap.size W v10) := bel HBz.out hb10; clear hb10)
 try (go_wp2_with fail)
 refine hK.out _ _ ?_ (fun hHeld => ?_)
 ·((try dsimp only); first | exact HSE.out | exact fun j h1 _ => HBz.out.block j h1 | exact fun j _ _ => rfl)
 clear hK K
 try simp only [Act.put, List.setIfInBounds_toArray, List.set_cons_zero, List.set_cons_succ]
 clear hHeld
 refine wpAnyH_ready (rs := [11]) (by kernel_rfl) (by simp) ?_
 refine AllReadyH.cons (i := 11) (by simp only [List.getElem?_toArray, List.getElem?_cons_succ, List.getElem?_cons_zero]; rfl) (fun K hK => ?_) AllReadyH.nil
 obtain ⟨⟨s0, s1, s2, s3, s4, s5, s6⟩, r0, r1, r2, r3, r4, r5, r6⟩ := sevenA (HTW.out.below HBz.out).2.2
 go_simp
 have hoff := offS_seven v10 (w.heap.size + 1) (.int .i64 1) (.string ⟨#[99, 104, 97, 105, 110]⟩) (.int .u32 0) (.int .i64 0) (.string ⟨#[]⟩) (.slice (some ⟨G9, 0, none⟩) 3 3) (.int .i64 a)
 have hosz := size_sevenS v10 (w.heap.size + 1) (.int .i64 1) (.string ⟨#[99, 104, 97, 105, 110]⟩) (.int .u32 0) (.int .i64 0) (.string ⟨#[]⟩) (.slice (some ⟨G9, 0, none⟩) 3 3) (.int .i64 a)
 have hdone := (HTW.out.below HBz.out).done (.int .i64 1) (.string ⟨#[99, 104, 97, 105, 110]⟩) (.int .u32 0) (.int .i64 0) (.string ⟨#[]⟩) (.slice (some ⟨G9, 0, none⟩) 3 3) (.int .i64 a)
 have hsv := put_sevenA (HTW.out.below HBz.out).2.2 (.int .i64 1) (.string ⟨#[99, 104, 97, 105, 110]⟩) (.int .u32 0) (.int .i64 0) (.string ⟨#[]⟩) (.slice (some ⟨G9, 0, none⟩) 3 3) (.int .i64 a)
 have HSzz : Hid (∀ j, j < W.heap.size → j ≠ w.heap.size + 1 → ((((((((v10.setCell ⟨w.heap.size + 1, 0, none⟩ (.int .i64 1)).setCell ⟨w.heap.size + 1, 1, none⟩ (.string ⟨#[99, 104, 97, 105, 110]⟩)).setCell ⟨w.heap.size + 1, 2, none⟩ (.int .u32 0)).setCell ⟨w.heap.size + 1, 3, none⟩ (.int .i64 0)).setCell ⟨w.heap.size + 1, 4, none⟩ (.string ⟨#[]⟩)).setCell ⟨w.heap.size + 1, 5, none⟩ (.slice (some ⟨G9, 0, none⟩) 3 3)).setCell ⟨w.heap.size + 1, 6, none⟩ (.int .i64 a))).heap[j]? = W.heap[j]?) := fun j h1 h2 => (hoff.sameSize hosz (by exact h2)).trans (HBz.out.block j h1)
 obtain ⟨vE, hvE⟩ : ∃ V, (((((((v10.setCell ⟨w.heap.size + 1, 0, none⟩ (.int .i64 1)).setCell ⟨w.heap.size + 1, 1, none⟩ (.string ⟨#[99, 104, 97, 105, 110]⟩)).setCell ⟨w.heap.size + 1, 2, none⟩ (.int .u32 0)).setCell ⟨w.heap.size + 1, 3, none⟩ (.int .i64 0)).setCell ⟨w.heap.size + 1, 4, none⟩ (.string ⟨#[]⟩)).setCell ⟨w.heap.size + 1, 5, none⟩ (.slice (some ⟨G9, 0, none⟩) 3 3)).setCell ⟨w.heap.size + 1, 6, none⟩ (.int .i64 a)) = V := ⟨_, rfl⟩
 rw [hvE] at hdone hsv HSzz
 try rw [hvE]
 have HSE := HSzz
 have HEND : Hid (Below w.heap.size w vE ∧ Kids vE (inH (fun j => S j ∨ w.heap.size + 1 < j)) (.slice (some ⟨G9, 0, none⟩) 3 3) [madeN a ⟨#[97, 100, 97, 112, 116, 105, 118, 101, 95, 103, 114, 97, 100, 95, 99, 108, 105, 112]⟩ [x_clipping, x_eps], madeN a ⟨#[116, 114, 97, 99, 101]⟩ [x_momentum, x_nesterov], madeN a rnm rl] ∧ vE.heap[w.heap.size + 1]? = some (.cells #[.int .i64 1, .string ⟨#[99, 104, 97, 105, 110]⟩, .int .u32 0, .int .i64 0, .string ⟨#[]⟩, .slice (some ⟨G9, 0, none⟩) 3 3, .int .i64 a] 29)) := ⟨hdone.1, hdone.2 _ _ _ (fun j h => by rcases h with h | h; (have := (HSB.out j (.inr h)).2; omega); omega) HK9.out, hsv⟩
 clear hoff hosz hdone hsv hvE s0 s1 s2 s3 s4 s5 s6 r0 r1 r2 r3 r4 r5 r6
 refine hK.out _ _ ?_ (fun hHeld => ?_)
 ·((try dsimp only); first | exact HSE.out | exact fun j h1 _ => HBz.out.block j h1 | exact fun j _ _ => rfl)
 clear hK K
 try simp only [Act.put, List.setIfInBounds_toArray, List.set_cons_zero, List.set_cons_succ]
 refine wpAnyH_done (by kernel_rfl) ?_ _
 go_wp2
 obtain ⟨⟨s0, s1, s2, s3, s4, s5, s6⟩, r0, r1, r2, r3, r4, r5, r6⟩ := sevenA HEND.out.2.2
 refine bodyPost_ret (by simp [results, Tryz.results71, go_sem, s0, s1, s2, s3, s4, s5, s6]; try rfl) rfl ?_
 exact ⟨_, _, rfl, HEND.out.2.1, HEND.out.1⟩
set_option maxRecDepth 100000 in
set_option maxHeartbeats 4000000 in
theorem bec_lion (b n : Nat) (a : Int) (nd : ByteArray → Option Nd) (S : Blk) (x_rate : Nd) (x_b1 : Nd) (x_b2 : Nd) (x_weight_decay : Nd) (x_mask : Nd) (w : World) (h_rate : nd ⟨#[114, 97, 116, 101]⟩ = some x_rate) (h_b1 : nd ⟨#[98, 49]⟩ = some x_b1) (h_b2 : nd ⟨#[98, 50]⟩ = some x_b2) (h_weight_decay : nd ⟨#[119, 101, 105, 103, 104, 116, 95, 100, 101, 99, 97, 121]⟩ = some x_weight_decay) (h_mask : nd ⟨#[109, 97, 115, 107]⟩ = some x_mask) (hok : okR x_rate) (hS : ∀ j, S j → j < w.heap.size) (hp : PM w b n nd S) :
  Calls Tryz.prog 75 #[.agg #[.map (some b), .int .i64 a]] w fun e w' => ∃ p c, e = .returned (.agg #[.int .i64 1, .string ⟨#[99, 104, 97, 105, 110]⟩, .int .u32 0, .int .i64 0, .string ⟨#[]⟩, .slice p 3 c, .int .i64 a]) ∧ Kids w' (inH (fun j => S j ∨ w.heap.size + 1 < j)) (.slice p 3 c) [madeN a ⟨#[115, 99, 97, 108, 101, 95, 98, 121, 95, 108, 105, 111, 110]⟩ [x_b1, x_b2], madeN a ⟨#[109, 97, 115, 107, 101, 100]⟩ [x_mask, madeN a ⟨#[97, 100, 100, 95, 100, 101, 99, 97, 121, 101, 100, 95, 119, 101, 105, 103, 104, 116, 115]⟩ [x_weight_decay]], rateA a x_rate] ∧ Below w.heap.size w w' := by
 have HK_x_rate : Hid (nd ⟨#[114, 97, 116, 101]⟩ = some x_rate) := h_rate
 have HK_x_b1 : Hid (nd ⟨#[98, 49]⟩ = some x_b1) := h_b1
 have HK_x_b2 : Hid (nd ⟨#[98, 50]⟩ = some x_b2) := h_b2
 have HK_x_weight_decay : Hid (nd ⟨#[119, 101, 105, 103, 104, 116, 95, 100, 101, 99, 97, 121]⟩ = some x_weight_decay) := h_weight_decay
 have HK_x_mask : Hid (nd ⟨#[109, 97, 115, 107]⟩ = some x_mask) := h_mask
 obtain ⟨rnm, hrn⟩ : ∃ x, rnmA x_rate = x := ⟨_, rfl⟩
 obtain ⟨rl, hrl⟩ : ∃ x, rlA a x_rate = x := ⟨_, rfl⟩
 rw [rate_made, hrn, hrl]
 obtain ⟨W, hW, hT⟩ := TwoB.start w b a
 have HTW : Hid (TwoB w b a W) := hT
 have HSZ : Hid (w.heap.size + 2 ≤ W.heap.size) := hlt hT.2.2
 have HPM : Hid (PM W b n nd S) := hp.below hT.1
 have HSB : Hid (∀ j, (j = b ∨ S j) → j < W.heap.size ∧ j ≠ w.heap.size + 1) := fun j hj => by
  have h1 := HSZ.out
  rcases hj with rfl | hj
  ·obtain ⟨f, h, _⟩ := hp; have := h.lt; omega
  ·have := hS j hj; omega
 obtain ⟨⟨g0, g1⟩, -⟩ := twoC hT.2.1
 have HBz : Hid (Below W.heap.size W W) := Below.refl _ _
 clear hT
 have HRT : Hid (∀ x, Below W.heap.size W x → Calls Tryz.prog 65 #[.agg #[.map (some b), .int .i64 a]] x fun e w' => ∃ p c, e = .returned (.agg #[.int .i64 1, .string rnm, .int .u32 0, .int .i64 0, .string ⟨#[]⟩, .slice p rl.length c, .int .i64 a]) ∧ Kids w' (inH (fun j => S j ∨ w.heap.size + 1 < j)) (.slice p rl.length c) rl ∧ Below x.heap.size x w') := fun x hx => by
  have := rated_any b n a nd S x_rate x HK_x_rate.out hok (fun j hj => by have := (HSB.out j (.inr hj)).1; have := hx.size; omega) (HPM.out.below hx)
  rw [hrn, hrl] at this
  exact this.mono fun e w' ⟨p, c, h1, h2, h3⟩ => ⟨p, c, h1, h2.weak (inH.sub fun j h => h.imp id fun h => by have := hx.size; have := HSZ.out; omega), h3⟩
 have HDC : Hid (∀ x, Below W.heap.size W x → Calls Tryz.prog 70 #[.agg #[.map (some b), .int .i64 a]] x fun e w' => ∃ p c, e = .returned (.agg #[.int .i64 1, .string ⟨#[109, 97, 115, 107, 101, 100]⟩, .int .u32 0, .int .i64 0, .string ⟨#[]⟩, .slice p 2 c, .int .i64 a]) ∧ Kids w' (inH (fun j => S j ∨ w.heap.size + 1 < j)) (.slice p 2 c) [x_mask, madeN a ⟨#[97, 100, 100, 95, 100, 101, 99, 97, 121, 101, 100, 95, 119, 101, 105, 103, 104, 116, 115]⟩ [x_weight_decay]] ∧ Below x.heap.size x w') := fun x hx => (decayed_any b n a nd S x_mask x_weight_decay x HK_x_mask.out HK_x_weight_decay.out (fun j hj => by have := (HSB.out j (.inr hj)).1; have := hx.size; omega) (HPM.out.below hx)).mono fun e w' ⟨p, c, h1, h2, h3⟩ => ⟨p, c, h1, h2.weak (inH.sub fun j h => h.imp id fun h => by have := hx.size; have := HSZ.out; omega), h3⟩
 have HOF3 : Hid (∀ (q : Option Addr) (c : Nat) (x : World), Below W.heap.size W x → StrsA x q [⟨#[98, 49]⟩, ⟨#[98, 50]⟩] → Calls Tryz.prog 69 #[.agg #[.map (some b), .int .i64 a], .string ⟨#[115, 99, 97, 108, 101, 95, 98, 121, 95, 108, 105, 111, 110]⟩, .slice q 2 c] x fun e w' => ∃ p c, e = .returned (.agg #[.int .i64 1, .string ⟨#[115, 99, 97, 108, 101, 95, 98, 121, 95, 108, 105, 111, 110]⟩, .int .u32 0, .int .i64 0, .string ⟨#[]⟩, .slice p 2 c, .int .i64 a]) ∧ Kids w' (inH (fun j => S j ∨ w.heap.size + 1 < j)) (.slice p 2 c) [x_b1, x_b2] ∧ Below x.heap.size x w') := fun q c x hx hq => (of_any b n a nd S ⟨#[115, 99, 97, 108, 101, 95, 98, 121, 95, 108, 105, 111, 110]⟩ [⟨#[98, 49]⟩, ⟨#[98, 50]⟩] [x_b1, x_b2] q c x (by decide) (by decide) (by simp [HK_x_b1.out, HK_x_b2.out]) (fun j hj => by have := (HSB.out j (.inr hj)).1; have := hx.size; omega) (HPM.out.below hx) hq).mono fun e w' ⟨p, c, h1, h2, h3⟩ => ⟨p, c, h1, h2.weak (inH.sub fun j h => h.imp id fun h => by have := hx.size; have := HSZ.out; omega), h3⟩
 have HCA9 : Hid (∀ (q : Option Addr) (m c : Nat) (x : World), Calls Tryz.prog 68 #[.agg #[.map (some b), .int .i64 a], .slice q m c] x fun e w' => e = .returned (.agg #[.int .i64 1, .string ⟨#[99, 104, 97, 105, 110]⟩, .int .u32 0, .int .i64 0, .string ⟨#[]⟩, .slice q m c, .int .i64 a]) ∧ Below x.heap.size x w') := fun q m c x => pchain_any b a q m c x
 clear h_rate h_b1 h_b2 h_weight_decay h_mask hp hS hok hrn hrl
 go_enter Tryz.func75, Tryz.ntmps75
 go_upto_region 1 with fail
 refine wp_region_held_drew (S := (fun x => ∀ j, j < W.heap.size → j ≠ w.heap.size + 1 → x.heap[j]? = W.heap[j]?)) (by kernel_rfl) ?_ (fun hHeld => ?_)
 ·((try dsimp only); first | exact HSE.out | exact fun j h1 _ => HBz.out.block j h1 | exact fun j _ _ => rfl)
 refine wpAnyH_take (i := 0) (v := ?_) (by simp only [List.getElem?_toArray, List.getElem?_cons_succ, List.getElem?_cons_zero]; rfl) (by kernel_rfl) (by kernel_rfl) (by kernel_rfl) (by exact fun _ _ _ h => h) (Or.inl ⟨by rfl, ?_⟩) (by assumption) ?_
 rotate_left 1
 ·(intro wS hSw; have hSb : ∀ j, j < W.heap.size → j ≠ w.heap.size + 1 → wS.heap[j]? = W.heap[j]? := hSw; clear hSw; have zp := (cell_to hSb (by simp) g0); have zq := (cell_to hSb (by simp) g1); go_simp; try (with_reducible rfl))
 try simp only [Act.put, List.setIfInBounds_toArray, List.set_cons_zero, List.set_cons_succ]
 refine wpAnyH_take (i := 1) (v := ?_) (by simp only [List.getElem?_toArray, List.getElem?_cons_succ, List.getElem?_cons_zero]; rfl) (by kernel_rfl) (by kernel_rfl) (by kernel_rfl) (by exact fun _ _ _ h => h) (Or.inl ⟨by rfl, ?_⟩) (by assumption) ?_
 rotate_left 1
 ·(intro wS hSw; have hSb : ∀ j, j < W.heap.size → j ≠ w.heap.size + 1 → wS.heap[j]? = W.heap[j]? := hSw; clear hSw; have zp := (cell_to hSb (by simp) g0); have zq := (cell_to hSb (by simp) g1); go_simp; try (with_reducible rfl))
 try simp only [Act.put, List.setIfInBounds_toArray, List.set_cons_zero, List.set_cons_succ]
 refine wpAnyH_take (i := 4) (v := ?_) (by simp only [List.getElem?_toArray, List.getElem?_cons_succ, List.getElem?_cons_zero]; rfl) (by kernel_rfl) (by kernel_rfl) (by kernel_rfl) (by exact fun _ _ _ h => h) (Or.inl ⟨by rfl, ?_⟩) (by assumption) ?_
 rotate_left 1
 ·(intro wS hSw; have hSb : ∀ j, j < W.heap.size → j ≠ w.heap.size + 1 → wS.heap[j]? = W.heap[j]? := hSw; clear hSw; have zp := (cell_to hSb (by simp) g0); have zq := (cell_to hSb (by simp) g1); go_simp; try (with_reducible rfl))
 try simp only [Act.put, List.setIfInBounds_toArray, List.set_cons_zero, List.set_cons_succ]
 refine wpAnyH_take (i := 6) (v := ?_) (by simp only [List.getElem?_toArray, List.getElem?_cons_succ, List.getElem?_cons_zero]; rfl) (by kernel_rfl) (by kernel_rfl) (by kernel_rfl) (by exact fun _ _ _ h => h) (Or.inl ⟨by rfl, ?_⟩) (by assumption) ?_
 rotate_left 1
 ·(intro wS hSw; have hSb : ∀ j, j < W.heap.size → j ≠ w.heap.size + 1 → wS.heap[j]? = W.heap[j]? := hSw; clear hSw; have zp := (cell_to hSb (by simp) g0); have zq := (cell_to hSb (by simp) g1); go_simp; try (with_reducible rfl))
 try simp only [Act.put, List.setIfInBounds_toArray, List.set_cons_zero, List.set_cons_succ]
 clear hHeld
 refine wpAnyH_ready (rs := [2]) (by kernel_rfl) (by simp) ?_
 refine AllReadyH.cons (i := 2) (by simp only [List.getElem?_toArray, List.getElem?_cons_succ, List.getElem?_cons_zero]; rfl) (fun K hK => ?_) AllReadyH.nil
 go_simp
 obtain ⟨G2, hG2⟩ : ∃ G, W.heap.size = G := ⟨_, rfl⟩
 obtain ⟨v2, hv2⟩ : ∃ V, (W.alloc (.cells #[.string ⟨#[98, 49]⟩, .string ⟨#[98, 50]⟩] 9)).drew = V := ⟨_, rfl⟩
 have hb2 : Below W.heap.size W v2 := by rw [← hv2]; exact bel (bel_alloc _ _) (bel_d _)
 have HT2 : Hid (StrsA v2 (some ⟨G2, 0, none⟩) [⟨#[98, 49]⟩, ⟨#[98, 50]⟩]) := strs_mk (by rw [← hv2, ← hG2]; exact box_heapA W _)
 have HBz : Hid (Below W.heap.size W v2) := bel HBz.out hb2
 rw [hv2, hG2]
 clear hv2 hG2 hb2
 refine hK.out _ _ ?_ (fun hHeld => ?_)
 ·((try dsimp only); first | exact HSE.out | exact fun j h1 _ => HBz.out.block j h1 | exact fun j _ _ => rfl)
 clear hK K
 try simp only [Act.put, List.setIfInBounds_toArray, List.set_cons_zero, List.set_cons_succ]
 clear hHeld
 refine wpAnyH_ready (rs := [3]) (by kernel_rfl) (by simp) ?_
 refine AllReadyH.cons (i := 3) (by simp only [List.getElem?_toArray, List.getElem?_cons_succ, List.getElem?_cons_zero]; rfl) (fun K hK => ?_) AllReadyH.nil
 go_simp
 (go_at_call 69; (with_reducible refine (HOF3.out _ _ _ HBz.out HT2.out).mono ?_); rintro e v3 ⟨p3, c3, rfl, hk3, hb3⟩; have HK3 : Hid (Kids v3 (inH (fun j => S j ∨ w.heap.size + 1 < j)) (.slice p3 2 c3) [x_b1, x_b2]) := hk3; clear hk3; have HT2 : Hid (StrsA v3 (some ⟨G2, 0, none⟩) [⟨#[98, 49]⟩, ⟨#[98, 50]⟩]) := HT2.out.below hb3; have HBz : Hid (Below W.heap.size W v3) := bel HBz.out hb3; clear hb3)
 try (go_wp2_with fail)
 refine hK.out _ _ ?_ (fun hHeld => ?_)
 ·((try dsimp only); first | exact HSE.out | exact fun j h1 _ => HBz.out.block j h1 | exact fun j _ _ => rfl)
 clear hK K
 try simp only [Act.put, List.setIfInBounds_toArray, List.set_cons_zero, List.set_cons_succ]
 clear hHeld
 refine wpAnyH_ready (rs := [5]) (by kernel_rfl) (by simp) ?_
 refine AllReadyH.cons (i := 5) (by simp only [List.getElem?_toArray, List.getElem?_cons_succ, List.getElem?_cons_zero]; rfl) (fun K hK => ?_) AllReadyH.nil
 go_simp
 (go_at_call 70; (with_reducible refine (HDC.out _ HBz.out).mono ?_); rintro e v5 ⟨p5, c5, rfl, hk5, hb5⟩; have HK5 : Hid (Kids v5 (inH (fun j => S j ∨ w.heap.size + 1 < j)) (.slice p5 2 c5) [x_mask, madeN a ⟨#[97, 100, 100, 95, 100, 101, 99, 97, 121, 101, 100, 95, 119, 101, 105, 103, 104, 116, 115]⟩ [x_weight_decay]]) := hk5; clear hk5; have HT2 : Hid (StrsA v5 (some ⟨G2, 0, none⟩) [⟨#[98, 49]⟩, ⟨#[98, 50]⟩]) := HT2.out.below hb5; have HK3 : Hid (Kids v5 (inH (fun j => S j ∨ w.heap.size + 1 < j)) (.slice p3 2 c3) [x_b1, x_b2]) := HK3.out.below hb5; have HBz : Hid (Below W.heap.size W v5) := bel HBz.out hb5; clear hb5)
 try (go_wp2_with fail)
 refine hK.out _ _ ?_ (fun hHeld => ?_)
 ·((try dsimp only); first | exact HSE.out | exact fun j h1 _ => HBz.out.block j h1 | exact fun j _ _ => rfl)
 clear hK K
 try simp only [Act.put, List.setIfInBounds_toArray, List.set_cons_zero, List.set_cons_succ]
 clear hHeld
 refine wpAnyH_ready (rs := [7]) (by kernel_rfl) (by simp) ?_
 refine AllReadyH.cons (i := 7) (by simp only [List.getElem?_toArray, List.getElem?_cons_succ, List.getElem?_cons_zero]; rfl) (fun K hK => ?_) AllReadyH.nil
 go_simp
 (go_at_call 65; (with_reducible refine (HRT.out _ HBz.out).mono ?_); rintro e v7 ⟨p7, c7, rfl, hk7, hb7⟩; have HK7 : Hid (Kids v7 (inH (fun j => S j ∨ w.heap.size + 1 < j)) (.slice p7 rl.length c7) rl) := hk7; clear hk7; have HT2 : Hid (StrsA v7 (some ⟨G2, 0, none⟩) [⟨#[98, 49]⟩, ⟨#[98, 50]⟩]) := HT2.out.below hb7; have HK3 : Hid (Kids v7 (inH (fun j => S j ∨ w.heap.size + 1 < j)) (.slice p3 2 c3) [x_b1, x_b2]) := HK3.out.below hb7; have HK5 : Hid (Kids v7 (inH (fun j => S j ∨ w.heap.size + 1 < j)) (.slice p5 2 c5) [x_mask, madeN a ⟨#[97, 100, 100, 95, 100, 101, 99, 97, 121, 101, 100, 95, 119, 101, 105, 103, 104, 116, 115]⟩ [x_weight_decay]]) := HK5.out.below hb7; have HBz : Hid (Below W.heap.size W v7) := bel HBz.out hb7; clear hb7)
 try (go_wp2_with fail)
 refine hK.out _ _ ?_ (fun hHeld => ?_)
 ·((try dsimp only); first | exact HSE.out | exact fun j h1 _ => HBz.out.block j h1 | exact fun j _ _ => rfl)
 clear hK K
 try simp only [Act.put, List.setIfInBounds_toArray, List.set_cons_zero, List.set_cons_succ]
 clear hHeld
 refine wpAnyH_ready (rs := [8]) (by kernel_rfl) (by simp) ?_
 refine AllReadyH.cons (i := 8) (by simp only [List.getElem?_toArray, List.getElem?_cons_succ, List.getElem?_cons_zero]; rfl) (fun K hK => ?_) AllReadyH.nil
 go_simp
 have hk8 := kids_row (w := v7) (S := (fun j => S j ∨ w.heap.size + 1 < j)) (R := [(madeN a ⟨#[115, 99, 97, 108, 101, 95, 98, 121, 95, 108, 105, 111, 110]⟩ [x_b1, x_b2], .slice p3 2 c3), (madeN a ⟨#[109, 97, 115, 107, 101, 100]⟩ [x_mask, madeN a ⟨#[97, 100, 100, 95, 100, 101, 99, 97, 121, 101, 100, 95, 119, 101, 105, 103, 104, 116, 115]⟩ [x_weight_decay]], .slice p5 2 c5), (madeN a rnm rl, .slice p7 rl.length c7)]) (cs := #[.int .i64 1, .string ⟨#[115, 99, 97, 108, 101, 95, 98, 121, 95, 108, 105, 111, 110]⟩, .int .u32 0, .int .i64 0, .string ⟨#[]⟩, .slice p3 2 c3, .int .i64 a, .int .i64 1, .string ⟨#[109, 97, 115, 107, 101, 100]⟩, .int .u32 0, .int .i64 0, .string ⟨#[]⟩, .slice p5 2 c5, .int .i64 a, .int .i64 1, .string rnm, .int .u32 0, .int .i64 0, .string ⟨#[]⟩, .slice p7 rl.length c7, .int .i64 a]) rfl (List.forall_mem_cons.2 ⟨HK3.out, List.forall_mem_cons.2 ⟨HK5.out, List.forall_mem_cons.2 ⟨HK7.out, fun r h => by cases h⟩⟩⟩) (.inr (by have := HBz.out.size; have := HSZ.out; omega)) (by simp)
 obtain ⟨G8, hG8⟩ : ∃ G, v7.heap.size = G := ⟨_, rfl⟩
 have hb8 : Below v7.heap.size v7 (v7.alloc (.cells #[.int .i64 1, .string ⟨#[115, 99, 97, 108, 101, 95, 98, 121, 95, 108, 105, 111, 110]⟩, .int .u32 0, .int .i64 0, .string ⟨#[]⟩, .slice p3 2 c3, .int .i64 a, .int .i64 1, .string ⟨#[109, 97, 115, 107, 101, 100]⟩, .int .u32 0, .int .i64 0, .string ⟨#[]⟩, .slice p5 2 c5, .int .i64 a, .int .i64 1, .string rnm, .int .u32 0, .int .i64 0, .string ⟨#[]⟩, .slice p7 rl.length c7, .int .i64 a] 29)) := bel_alloc _ _
 obtain ⟨v8, hv8⟩ : ∃ V, v7.alloc (.cells #[.int .i64 1, .string ⟨#[115, 99, 97, 108, 101, 95, 98, 121, 95, 108, 105, 111, 110]⟩, .int .u32 0, .int .i64 0, .string ⟨#[]⟩, .slice p3 2 c3, .int .i64 a, .int .i64 1, .string ⟨#[109, 97, 115, 107, 101, 100]⟩, .int .u32 0, .int .i64 0, .string ⟨#[]⟩, .slice p5 2 c5, .int .i64 a, .int .i64 1, .string rnm, .int .u32 0, .int .i64 0, .string ⟨#[]⟩, .slice p7 rl.length c7, .int .i64 a] 29) = V := ⟨_, rfl⟩
 rw [hG8] at hk8
 rw [hv8] at hb8
 have HK8 : Hid (Kids v8 (inH (fun j => S j ∨ w.heap.size + 1 < j)) (.slice (some ⟨G8, 0, none⟩) 3 3) [madeN a ⟨#[115, 99, 97, 108, 101, 95, 98, 121, 95, 108, 105, 111, 110]⟩ [x_b1, x_b2], madeN a ⟨#[109, 97, 115, 107, 101, 100]⟩ [x_mask, madeN a ⟨#[97, 100, 100, 95, 100, 101, 99, 97, 121, 101, 100, 95, 119, 101, 105, 103, 104, 116, 115]⟩ [x_weight_decay]], madeN a rnm rl]) := by have := hk8; rw [hv8] at this; exact this
 have HT2 : Hid (StrsA v8 (some ⟨G2, 0, none⟩) [⟨#[98, 49]⟩, ⟨#[98, 50]⟩]) := HT2.out.below hb8
 have HK3 : Hid (Kids v8 (inH (fun j => S j ∨ w.heap.size + 1 < j)) (.slice p3 2 c3) [x_b1, x_b2]) := HK3.out.below hb8
 have HK5 : Hid (Kids v8 (inH (fun j => S j ∨ w.heap.size + 1 < j)) (.slice p5 2 c5) [x_mask, madeN a ⟨#[97, 100, 100, 95, 100, 101, 99, 97, 121, 101, 100, 95, 119, 101, 105, 103, 104, 116, 115]⟩ [x_weight_decay]]) := HK5.out.below hb8
 have HK7 : Hid (Kids v8 (inH (fun j => S j ∨ w.heap.size + 1 < j)) (.slice p7 rl.length c7) rl) := HK7.out.below hb8
 have HBz : Hid (Below W.heap.size W v8) := bel HBz.out hb8
 rw [hv8, hG8]
 clear hk8 hv8 hG8 hb8
 refine hK.out _ _ ?_ (fun hHeld => ?_)
 ·((try dsimp only); first | exact HSE.out | exact fun j h1 _ => HBz.out.block j h1 | exact fun j _ _ => rfl)
 clear hK K
 try simp only [Act.put, List.setIfInBounds_toArray, List.set_cons_zero, List.set_cons_succ]
 clear hHeld
 refine wpAnyH_ready (rs := [9]) (by kernel_rfl) (by simp) ?_
 refine AllReadyH.cons (i := 9) (by simp only [List.getElem?_toArray, List.getElem?_cons_succ, List.getElem?_cons_zero]; rfl) (fun K hK => ?_) AllReadyH.nil
 go_simp
 (go_at_call 68; (with_reducible refine (HCA9.out _ _ _ _).mono ?_); rintro e v9 ⟨rfl, hb9⟩; have HT2 : Hid (StrsA v9 (some ⟨G2, 0, none⟩) [⟨#[98, 49]⟩, ⟨#[98, 50]⟩]) := HT2.out.below hb9; have HK3 : Hid (Kids v9 (inH (fun j => S j ∨ w.heap.size + 1 < j)) (.slice p3 2 c3) [x_b1, x_b2]) := HK3.out.below hb9; have HK5 : Hid (Kids v9 (inH (fun j => S j ∨ w.heap.size + 1 < j)) (.slice p5 2 c5) [x_mask, madeN a ⟨#[97, 100, 100, 95, 100, 101, 99, 97, 121, 101, 100, 95, 119, 101, 105, 103, 104, 116, 115]⟩ [x_weight_decay]]) := HK5.out.below hb9; have HK7 : Hid (Kids v9 (inH (fun j => S j ∨ w.heap.size + 1 < j)) (.slice p7 rl.length c7) rl) := HK7.out.below hb9; have HK8 : Hid (Kids v9 (inH (fun j => S j ∨ w.heap.size + 1 < j)) (.slice (some ⟨G8, 0, none⟩) 3 3) [madeN a ⟨#[115, 99, 97, 108, 101, 95, 98, 121, 95, 108, 105, 111, 110]⟩ [x_b1, x_b2], madeN a ⟨#[109, 97, 115, 107, 101, 100]⟩ [x_mask, madeN a ⟨#[97, 100, 100, 95, 100, 101, 99, 97, 121, 101, 100, 95, 119, 101, 105, 103, 104, 116, 115]⟩ [x_weight_decay]], madeN a rnm rl]) := HK8.out.below hb9; have HBz : Hid (Below W.heap.size W v9) := bel HBz.out hb9; clear hb9)
 try (go_wp2_with fail)
 refine hK.out _ _ ?_ (fun hHeld => ?_)
 ·((try dsimp only); first | exact HSE.out | exact fun j h1 _ => HBz.out.block j h1 | exact fun j _ _ => rfl)
 clear hK K
 try simp only [Act.put, List.setIfInBounds_toArray, List.set_cons_zero, List.set_cons_succ]
 clear hHeld
 refine wpAnyH_ready (rs := [10]) (by kernel_rfl) (by simp) ?_
 refine AllReadyH.cons (i := 10) (by simp only [List.getElem?_toArray, List.getElem?_cons_succ, List.getElem?_cons_zero]; rfl) (fun K hK => ?_) AllReadyH.nil
 obtain ⟨⟨s0, s1, s2, s3, s4, s5, s6⟩, r0, r1, r2, r3, r4, r5, r6⟩ := sevenA (HTW.out.below HBz.out).2.2
 go_simp
 have hoff := offS_seven v9 (w.heap.size + 1) (.int .i64 1) (.string ⟨#[99, 104, 97, 105, 110]⟩) (.int .u32 0) (.int .i64 0) (.string ⟨#[]⟩) (.slice (some ⟨G8, 0, none⟩) 3 3) (.int .i64 a)
 have hosz := size_sevenS v9 (w.heap.size + 1) (.int .i64 1) (.string ⟨#[99, 104, 97, 105, 110]⟩) (.int .u32 0) (.int .i64 0) (.string ⟨#[]⟩) (.slice (some ⟨G8, 0, none⟩) 3 3) (.int .i64 a)
 have hdone := (HTW.out.below HBz.out).done (.int .i64 1) (.string ⟨#[99, 104, 97, 105, 110]⟩) (.int .u32 0) (.int .i64 0) (.string ⟨#[]⟩) (.slice (some ⟨G8, 0, none⟩) 3 3) (.int .i64 a)
 have hsv := put_sevenA (HTW.out.below HBz.out).2.2 (.int .i64 1) (.string ⟨#[99, 104, 97, 105, 110]⟩) (.int .u32 0) (.int .i64 0) (.string ⟨#[]⟩) (.slice (some ⟨G8, 0, none⟩) 3 3) (.int .i64 a)
 have HSzz : Hid (∀ j, j < W.heap.size → j ≠ w.heap.size + 1 → ((((((((v9.setCell ⟨w.heap.size + 1, 0, none⟩ (.int .i64 1)).setCell ⟨w.heap.size + 1, 1, none⟩ (.string ⟨#[99, 104, 97, 105, 110]⟩)).setCell ⟨w.heap.size + 1, 2, none⟩ (.int .u32 0)).setCell ⟨w.heap.size + 1, 3, none⟩ (.int .i64 0)).setCell ⟨w.heap.size + 1, 4, none⟩ (.string ⟨#[]⟩)).setCell ⟨w.heap.size + 1, 5, none⟩ (.slice (some ⟨G8, 0, none⟩) 3 3)).setCell ⟨w.heap.size + 1, 6, none⟩ (.int .i64 a))).heap[j]? = W.heap[j]?) := fun j h1 h2 => (hoff.sameSize hosz (by exact h2)).trans (HBz.out.block j h1)
 obtain ⟨vE, hvE⟩ : ∃ V, (((((((v9.setCell ⟨w.heap.size + 1, 0, none⟩ (.int .i64 1)).setCell ⟨w.heap.size + 1, 1, none⟩ (.string ⟨#[99, 104, 97, 105, 110]⟩)).setCell ⟨w.heap.size + 1, 2, none⟩ (.int .u32 0)).setCell ⟨w.heap.size + 1, 3, none⟩ (.int .i64 0)).setCell ⟨w.heap.size + 1, 4, none⟩ (.string ⟨#[]⟩)).setCell ⟨w.heap.size + 1, 5, none⟩ (.slice (some ⟨G8, 0, none⟩) 3 3)).setCell ⟨w.heap.size + 1, 6, none⟩ (.int .i64 a)) = V := ⟨_, rfl⟩
 rw [hvE] at hdone hsv HSzz
 try rw [hvE]
 have HSE := HSzz
 have HEND : Hid (Below w.heap.size w vE ∧ Kids vE (inH (fun j => S j ∨ w.heap.size + 1 < j)) (.slice (some ⟨G8, 0, none⟩) 3 3) [madeN a ⟨#[115, 99, 97, 108, 101, 95, 98, 121, 95, 108, 105, 111, 110]⟩ [x_b1, x_b2], madeN a ⟨#[109, 97, 115, 107, 101, 100]⟩ [x_mask, madeN a ⟨#[97, 100, 100, 95, 100, 101, 99, 97, 121, 101, 100, 95, 119, 101, 105, 103, 104, 116, 115]⟩ [x_weight_decay]], madeN a rnm rl] ∧ vE.heap[w.heap.size + 1]? = some (.cells #[.int .i64 1, .string ⟨#[99, 104, 97, 105, 110]⟩, .int .u32 0, .int .i64 0, .string ⟨#[]⟩, .slice (some ⟨G8, 0, none⟩) 3 3, .int .i64 a] 29)) := ⟨hdone.1, hdone.2 _ _ _ (fun j h => by rcases h with h | h; (have := (HSB.out j (.inr h)).2; omega); omega) HK8.out, hsv⟩
 clear hoff hosz hdone hsv hvE s0 s1 s2 s3 s4 s5 s6 r0 r1 r2 r3 r4 r5 r6
 refine hK.out _ _ ?_ (fun hHeld => ?_)
 ·((try dsimp only); first | exact HSE.out | exact fun j h1 _ => HBz.out.block j h1 | exact fun j _ _ => rfl)
 clear hK K
 try simp only [Act.put, List.setIfInBounds_toArray, List.set_cons_zero, List.set_cons_succ]
 refine wpAnyH_done (by kernel_rfl) ?_ _
 go_wp2
 obtain ⟨⟨s0, s1, s2, s3, s4, s5, s6⟩, r0, r1, r2, r3, r4, r5, r6⟩ := sevenA HEND.out.2.2
 refine bodyPost_ret (by simp [results, Tryz.results75, go_sem, s0, s1, s2, s3, s4, s5, s6]; try rfl) rfl ?_
 exact ⟨_, _, rfl, HEND.out.2.1, HEND.out.1⟩
end Go.Proofs.YtmiidhgbdecdkaaGreat
