import Derived.Test.YtmiidhgbdecdkaaGreatPart13
import Derived.Test.YtmiidhgbdecdkaaGreatPart11
import Derived.Test.YtmiidhgbdecdkaaGreatPart14
import Derived.Test.YtmiidhgbdecdkaaGreatPart15
import Derived.Test.YtmiidhgbdecdkaaGreatPart16
import Derived.Test.YtmiidhgbdecdkaaGreatPart17
namespace Go.Proofs.YtmiidhgbdecdkaaGreat
open Go.RowKit
set_option linter.unusedVariables false
set_option linter.unusedSimpArgs false
set_option maxRecDepth 100000 in
set_option maxHeartbeats 4000000 in
theorem bec_scaled (b n : Nat) (a : Int) (nd : ByteArray → Option Nd) (S : Blk) (x_rate : Nd) (by_ : ByteArray) (ns : List ByteArray) (ts : List Nd) (c1 c2 : Addr) (qq : Option Addr) (cc : Nat) (w : World) (h_rate : nd ⟨#[114, 97, 116, 101]⟩ = some x_rate) (hok : okR x_rate) (hl : ns.length ≤ 40000) (hsz : ∀ x ∈ ns, x.size ≤ 1000) (hnd : ns.map nd = ts.map some) (hc1 : w.cell? c1 = some (.string by_)) (hc2 : w.cell? c2 = some (.slice qq ns.length cc)) (hq : StrsA w qq ns) (hS : ∀ j, S j → j < w.heap.size) (hp : PM w b n nd S) :
  Calls Tryz.prog 104 #[.agg #[.map (some b), .int .i64 a], .pointer (some c1), .pointer (some c2)] w fun e w' => ∃ p c, e = .returned (.agg #[.int .i64 1, .string ⟨#[99, 104, 97, 105, 110]⟩, .int .u32 0, .int .i64 0, .string ⟨#[]⟩, .slice p 2 c, .int .i64 a]) ∧ Kids w' (inH (fun j => S j ∨ w.heap.size + 1 < j)) (.slice p 2 c) [madeN a by_ ts, rateA a x_rate] ∧ Below w.heap.size w w' := by
 have HK_x_rate : Hid (nd ⟨#[114, 97, 116, 101]⟩ = some x_rate) := h_rate
 obtain ⟨rnm, hrn⟩ : ∃ x, rnmA x_rate = x := ⟨_, rfl⟩
 obtain ⟨rl, hrl⟩ : ∃ x, rlA a x_rate = x := ⟨_, rfl⟩
 rw [rate_made, hrn, hrl]
 obtain ⟨W, hW, hT⟩ := TwoB.start w b a
 have HTW : Hid (TwoB w b a W) := hT
 have HSZ : Hid (w.heap.size + 2 ≤ W.heap.size) := hlt hT.2.2
 have HPM : Hid (PM W b n nd S) := hp.below hT.1
 have HSB : Hid (∀ j, (j = b ∨ S j) → j < W.heap.size ∧ j ≠ w.heap.size + 1) := fun j hj => by
  have h1 := HSZ.out
  rcases hj with rfl | hj
  ·obtain ⟨f, h, _⟩ := hp; have := h.lt; omega
  ·have := hS j hj; omega
 obtain ⟨⟨g0, g1⟩, -⟩ := twoC hT.2.1
 have HBz : Hid (Below W.heap.size W W) := Below.refl _ _
 have k1 := (hT.1.cell (mcell_lt hc1)).trans hc1
 have k2 := (hT.1.cell (mcell_lt hc2)).trans hc2
 have HC1N : Hid (c1.block ≠ w.heap.size + 1) := by have := mcell_lt hc1; show _ ≠ _; omega
 have HC2N : Hid (c2.block ≠ w.heap.size + 1) := by have := mcell_lt hc2; show _ ≠ _; omega
 have HCS : Hid (∀ x, Below W.heap.size W x → StrsA x qq ns) := fun x hx => hq.below (bel hT.1 hx)
 obtain ⟨kk, hkk⟩ : ∃ k, ns.length = k := ⟨_, rfl⟩
 have hts : ts.length = kk := by have := congrArg List.length hnd; simpa [hkk] using this.symm
 rw [hkk] at k2
 have HOFN : Hid (∀ (q : Option Addr) (c : Nat) (x : World), Below W.heap.size W x → StrsA x q ns → Calls Tryz.prog 69 #[.agg #[.map (some b), .int .i64 a], .string by_, .slice q kk c] x fun e w' => ∃ p c, e = .returned (.agg #[.int .i64 1, .string by_, .int .u32 0, .int .i64 0, .string ⟨#[]⟩, .slice p kk c, .int .i64 a]) ∧ Kids w' (inH (fun j => S j ∨ w.heap.size + 1 < j)) (.slice p kk c) ts ∧ Below x.heap.size x w') := fun q c x hx hq => by
  have := of_any b n a nd S by_ ns ts q c x hl hsz hnd (fun j hj => by have := (HSB.out j (.inr hj)).1; have := hx.size; omega) (HPM.out.below hx) hq
  rw [hkk, hts] at this
  exact this.mono fun e w' ⟨p, c, h1, h2, h3⟩ => ⟨p, c, h1, h2.weak (inH.sub fun j h => h.imp id fun h => by have := hx.size; have := HSZ.out; omega), h3⟩
 clear hT hc1 hc2 hq hnd hsz hl hts hkk
 have HRT : Hid (∀ x, Below W.heap.size W x → Calls Tryz.prog 65 #[.agg #[.map (some b), .int .i64 a]] x fun e w' => ∃ p c, e = .returned (.agg #[.int .i64 1, .string rnm, .int .u32 0, .int .i64 0, .string ⟨#[]⟩, .slice p rl.length c, .int .i64 a]) ∧ Kids w' (inH (fun j => S j ∨ w.heap.size + 1 < j)) (.slice p rl.length c) rl ∧ Below x.heap.size x w') := fun x hx => by
  have := rated_any b n a nd S x_rate x HK_x_rate.out hok (fun j hj => by have := (HSB.out j (.inr hj)).1; have := hx.size; omega) (HPM.out.below hx)
  rw [hrn, hrl] at this
  exact this.mono fun e w' ⟨p, c, h1, h2, h3⟩ => ⟨p, c, h1, h2.weak (inH.sub fun j h => h.imp id fun h => by have := hx.size; have := HSZ.out; omega), h3⟩
 have HOF4 : Hid (∀ (q : Option Addr) (c : Nat) (x : World), Below W.heap.size W x → StrsA x q ns → Calls Tryz.prog 69 #[.agg #[.map (some b), .int .i64 a], .string by_, .slice q kk c] x fun e w' => ∃ p c, e = .returned (.agg #[.int .i64 1, .string by_, .int .u32 0, .int .i64 0, .string ⟨#[]⟩, .slice p kk c, .int .i64 a]) ∧ Kids w' (inH (fun j => S j ∨ w.heap.size + 1 < j)) (.slice p kk c) ts ∧ Below x.heap.size x w') := fun q c x hx hq => HOFN.out q c x hx hq
 have HCA8 : Hid (∀ (q : Option Addr) (m c : Nat) (x : World), Calls Tryz.prog 68 #[.agg #[.map (some b), .int .i64 a], .slice q m c] x fun e w' => e = .returned (.agg #[.int .i64 1, .string ⟨#[99, 104, 97, 105, 110]⟩, .int .u32 0, .int .i64 0, .string ⟨#[]⟩, .slice q m c, .int .i64 a]) ∧ Below x.heap.size x w') := fun q m c x => pchain_any b a q m c x
 clear h_rate hp hS hok hrn hrl
 go_enter Tryz.func104, Tryz.ntmps104
 go_upto_region 1 with fail
 refine wp_region_held_drew (S := (fun x => ∀ j, j < W.heap.size → j ≠ w.heap.size + 1 → x.heap[j]? = W.heap[j]?)) (by kernel_rfl) ?_ (fun hHeld => ?_)
 ·((try dsimp only); first | exact HSE.out | exact fun j h1 _ => HBz.out.block j h1 | exact fun j _ _ => rfl)
 refine wpAnyH_take (i := 0) (v := ?_) (by simp only [List.getElem?_toArray, List.getElem?_cons_succ, List.getElem?_cons_zero]; rfl) (by kernel_rfl) (by kernel_rfl) (by kernel_rfl) (by exact fun _ _ _ h => h) (Or.inl ⟨by rfl, ?_⟩) (by assumption) ?_
 rotate_left 1
 ·(intro wS hSw; have hSb : ∀ j, j < W.heap.size → j ≠ w.heap.size + 1 → wS.heap[j]? = W.heap[j]? := hSw; clear hSw; have zp := (cell_to hSb (by simp) g0); have zq := (cell_to hSb (by simp) g1); have zc1 := cell_to hSb HC1N.out k1; have zc2 := cell_to hSb HC2N.out k2; go_simp; try (with_reducible rfl))
 try simp only [Act.put, List.setIfInBounds_toArray, List.set_cons_zero, List.set_cons_succ]
 refine wpAnyH_take (i := 1) (v := ?_) (by simp only [List.getElem?_toArray, List.getElem?_cons_succ, List.getElem?_cons_zero]; rfl) (by kernel_rfl) (by kernel_rfl) (by kernel_rfl) (by exact fun _ _ _ h => h) (Or.inl ⟨by rfl, ?_⟩) (by assumption) ?_
 rotate_left 1
 ·(intro wS hSw; have hSb : ∀ j, j < W.heap.size → j ≠ w.heap.size + 1 → wS.heap[j]? = W.heap[j]? := hSw; clear hSw; have zp := (cell_to hSb (by simp) g0); have zq := (cell_to hSb (by simp) g1); have zc1 := cell_to hSb HC1N.out k1; have zc2 := cell_to hSb HC2N.out k2; go_simp; try (with_reducible rfl))
 try simp only [Act.put, List.setIfInBounds_toArray, List.set_cons_zero, List.set_cons_succ]
 refine wpAnyH_take (i := 2) (v := ?_) (by simp only [List.getElem?_toArray, List.getElem?_cons_succ, List.getElem?_cons_zero]; rfl) (by kernel_rfl) (by kernel_rfl) (by kernel_rfl) (by exact fun _ _ _ h => h) (Or.inl ⟨by rfl, ?_⟩) (by assumption) ?_
 rotate_left 1
 ·(intro wS hSw; have hSb : ∀ j, j < W.heap.size → j ≠ w.heap.size + 1 → wS.heap[j]? = W.heap[j]? := hSw; clear hSw; have zp := (cell_to hSb (by simp) g0); have zq := (cell_to hSb (by simp) g1); have zc1 := cell_to hSb HC1N.out k1; have zc2 := cell_to hSb HC2N.out k2; go_simp; try (with_reducible rfl))
 try simp only [Act.put, List.setIfInBounds_toArray, List.set_cons_zero, List.set_cons_succ]
 refine wpAnyH_take (i := 3) (v := ?_) (by simp only [List.getElem?_toArray, List.getElem?_cons_succ, List.getElem?_cons_zero]; rfl) (by kernel_rfl) (by kernel_rfl) (by kernel_rfl) (by exact fun _ _ _ h => h) (Or.inl ⟨by rfl, ?_⟩) (by assumption) ?_
 rotate_left 1
 ·(intro wS hSw; have hSb : ∀ j, j < W.heap.size → j ≠ w.heap.size + 1 → wS.heap[j]? = W.heap[j]? := hSw; clear hSw; have zp := (cell_to hSb (by simp) g0); have zq := (cell_to hSb (by simp) g1); have zc1 := cell_to hSb HC1N.out k1; have zc2 := cell_to hSb HC2N.out k2; go_simp; try (with_reducible rfl))
 try simp only [Act.put, List.setIfInBounds_toArray, List.set_cons_zero, List.set_cons_succ]
 refine wpAnyH_take (i := 5) (v := ?_) (by simp only [List.getElem?_toArray, List.getElem?_cons_succ, List.getElem?_cons_zero]; rfl) (by kernel_rfl) (by kernel_rfl) (by kernel_rfl) (by exact fun _ _ _ h => h) (Or.inl ⟨by rfl, ?_⟩) (by assumption) ?_
 rotate_left 1
 ·(intro wS hSw; have hSb : ∀ j, j < W.heap.size → j ≠ w.heap.size + 1 → wS.heap[j]? = W.heap[j]? := hSw; clear hSw; have zp := (cell_to hSb (by simp) g0); have zq := (cell_to hSb (by simp) g1); have zc1 := cell_to hSb HC1N.out k1; have zc2 := cell_to hSb HC2N.out k2; go_simp; try (with_reducible rfl))
 try simp only [Act.put, List.setIfInBounds_toArray, List.set_cons_zero, List.set_cons_succ]
 clear hHeld
 refine wpAnyH_ready (rs := [4]) (by kernel_rfl) (by simp) ?_
 refine AllReadyH.cons (i := 4) (by simp only [List.getElem?_toArray, List.getElem?_cons_succ, List.getElem?_cons_zero]; rfl) (fun K hK => ?_) AllReadyH.nil
 go_simp
 (go_at_call 69; (with_reducible refine (HOF4.out _ _ _ (bel HBz.out (bel_d _)) (HCS.out _ (bel HBz.out (bel_d _)))).mono ?_); rintro e v4 ⟨p4, c4, rfl, hk4, hb4⟩; have HK4 : Hid (Kids v4 (inH (fun j => S j ∨ w.heap.size + 1 < j)) (.slice p4 kk c4) ts) := hk4; clear hk4; have HBz : Hid (Below W.heap.size W v4) := bel (bel HBz.out (bel_d _)) hb4; clear hb4)
 try (go_wp2_with fail)
 refine hK.out _ _ ?_ (fun hHeld => ?_)
 ·((try dsimp only); first | exact HSE.out | exact fun j h1 _ => HBz.out.block j h1 | exact fun j _ _ => rfl)
 clear hK K
 try simp only [Act.put, List.setIfInBounds_toArray, List.set_cons_zero, List.set_cons_succ]
 clear hHeld
 refine wpAnyH_ready (rs := [6]) (by kernel_rfl) (by simp) ?_
 refine AllReadyH.cons (i := 6) (by simp only [List.getElem?_toArray, List.getElem?_cons_succ, List.getElem?_cons_zero]; rfl) (fun K hK => ?_) AllReadyH.nil
 go_simp
 (go_at_call 65; (with_reducible refine (HRT.out _ HBz.out).mono ?_); rintro e v6 ⟨p6, c6, rfl, hk6, hb6⟩; have HK6 : Hid (Kids v6 (inH (fun j => S j ∨ w.heap.size + 1 < j)) (.slice p6 rl.length c6) rl) := hk6; clear hk6; have HK4 : Hid (Kids v6 (inH (fun j => S j ∨ w.heap.size + 1 < j)) (.slice p4 kk c4) ts) := HK4.out.below hb6; have HBz : Hid (Below W.heap.size W v6) := bel HBz.out hb6; clear hb6)
 try (go_wp2_with fail)
 refine hK.out _ _ ?_ (fun hHeld => ?_)
 ·((try dsimp only); first | exact HSE.out | exact fun j h1 _ => HBz.out.block j h1 | exact fun j _ _ => rfl)
 clear hK K
 try simp only [Act.put, List.setIfInBounds_toArray, List.set_cons_zero, List.set_cons_succ]
 clear hHeld
 refine wpAnyH_ready (rs := [7]) (by kernel_rfl) (by simp) ?_
 refine AllReadyH.cons (i := 7) (by simp only [List.getElem?_toArray, List.getElem?_cons_succ, List.getElem?_cons_zero]; rfl) (fun K hK => ?_) AllReadyH.nil
 go_simp
 have hk7 := kids_row (w := v6) (S := (fun j => S j ∨ w.heap.size + 1 < j)) (R := [(madeN a by_ ts, .slice p4 kk c4), (madeN a rnm rl, .slice p6 rl.length c6)]) (cs := #[.int .i64 1, .string by_, .int .u32 0, .int .i64 0, .string ⟨#[]⟩, .slice p4 kk c4, .int .i64 a, .int .i64 1, .string rnm, .int .u32 0, .int .i64 0, .string ⟨#[]⟩, .slice p6 rl.length c6, .int .i64 a]) rfl (List.forall_mem_cons.2 ⟨HK4.out, List.forall_mem_cons.2 ⟨HK6.out, fun r h => by cases h⟩⟩) (.inr (by have := HBz.out.size; have := HSZ.out; omega)) (by simp)
 obtain ⟨G7, hG7⟩ : ∃ G, v6.heap.size = G := ⟨_, rfl⟩
 have hb7 : Below v6.heap.size v6 (v6.alloc (.cells #[.int .i64 1, .string by_, .int .u32 0, .int .i64 0, .string ⟨#[]⟩, .slice p4 kk c4, .int .i64 a, .int .i64 1, .string rnm, .int .u32 0, .int .i64 0, .string ⟨#[]⟩, .slice p6 rl.length c6, .int .i64 a] 29)) := bel_alloc _ _
 obtain ⟨v7, hv7⟩ : ∃ V, v6.alloc (.cells #[.int .i64 1, .string by_, .int .u32 0, .int .i64 0, .string ⟨#[]⟩, .slice p4 kk c4, .int .i64 a, .int .i64 1, .string rnm, .int .u32 0, .int .i64 0, .string ⟨#[]⟩, .slice p6 rl.length c6, .int .i64 a] 29) = V := ⟨_, rfl⟩
 rw [hG7] at hk7
 rw [hv7] at hb7
 have HK7 : Hid (Kids v7 (inH (fun j => S j ∨ w.heap.size + 1 < j)) (.slice (some ⟨G7, 0, none⟩) 2 2) [madeN a by_ ts, madeN a rnm rl]) := by have := hk7; rw [hv7] at this; exact this
 have HK4 : Hid (Kids v7 (inH (fun j => S j ∨ w.heap.size + 1 < j)) (.slice p4 kk c4) ts) := HK4.out.below hb7
 have HK6 : Hid (Kids v7 (inH (fun j => S j ∨ w.heap.size + 1 < j)) (.slice p6 rl.length c6) rl) := HK6.out.below hb7
 have HBz : Hid (Below W.heap.size W v7) := bel HBz.out hb7
 rw [hv7, hG7]
 clear hk7 hv7 hG7 hb7
 refine hK.out _ _ ?_ (fun hHeld => ?_)
 ·((try dsimp only); first | exact HSE.out | exact fun j h1 _ => HBz.out.block j h1 | exact fun j _ _ => rfl)
 clear hK K
 try simp only [Act.put, List.setIfInBounds_toArray, List.set_cons_zero, List.set_cons_succ]
 clear hHeld
 refine wpAnyH_ready (rs := [8]) (by kernel_rfl) (by simp) ?_
 refine AllReadyH.cons (i := 8) (by simp only [List.getElem?_toArray, List.getElem?_cons_succ, List.getElem?_cons_zero]; rfl) (fun K hK => ?_) AllReadyH.nil
 go_simp
 (go_at_call 68; (with_reducible refine (HCA8.out _ _ _ _).mono ?_); rintro e v8 ⟨rfl, hb8⟩; have HK4 : Hid (Kids v8 (inH (fun j => S j ∨ w.heap.size + 1 < j)) (.slice p4 kk c4) ts) := HK4.out.below hb8; have HK6 : Hid (Kids v8 (inH (fun j => S j ∨ w.heap.size + 1 < j)) (.slice p6 rl.length c6) rl) := HK6.out.below hb8; have HK7 : Hid (Kids v8 (inH (fun j => S j ∨ w.heap.size + 1 < j)) (.slice (some ⟨G7, 0, none⟩) 2 2) [madeN a by_ ts, madeN a rnm rl]) := HK7.out.below hb8; have HBz : Hid (Below W.heap.size W v8) := bel HBz.out hb8; clear hb8)
 try (go_wp2_with fail)
 refine hK.out _ _ ?_ (fun hHeld => ?_)
 ·((try dsimp only); first | exact HSE.out | exact fun j h1 _ => HBz.out.block j h1 | exact fun j _ _ => rfl)
 clear hK K
 try simp only [Act.put, List.setIfInBounds_toArray, List.set_cons_zero, List.set_cons_succ]
 clear hHeld
 refine wpAnyH_ready (rs := [9]) (by kernel_rfl) (by simp) ?_
 refine AllReadyH.cons (i := 9) (by simp only [List.getElem?_toArray, List.getElem?_cons_succ, List.getElem?_cons_zero]; rfl) (fun K hK => ?_) AllReadyH.nil
 obtain ⟨⟨s0, s1, s2, s3, s4, s5, s6⟩, r0, r1, r2, r3, r4, r5, r6⟩ := sevenA (HTW.out.below HBz.out).2.2
 go_simp
 have hoff := offS_seven v8 (w.heap.size + 1) (.int .i64 1) (.string ⟨#[99, 104, 97, 105, 110]⟩) (.int .u32 0) (.int .i64 0) (.string ⟨#[]⟩) (.slice (some ⟨G7, 0, none⟩) 2 2) (.int .i64 a)
 have hosz := size_sevenS v8 (w.heap.size + 1) (.int .i64 1) (.string ⟨#[99, 104, 97, 105, 110]⟩) (.int .u32 0) (.int .i64 0) (.string ⟨#[]⟩) (.slice (some ⟨G7, 0, none⟩) 2 2) (.int .i64 a)
 have hdone := (HTW.out.below HBz.out).done (.int .i64 1) (.string ⟨#[99, 104, 97, 105, 110]⟩) (.int .u32 0) (.int .i64 0) (.string ⟨#[]⟩) (.slice (some ⟨G7, 0, none⟩) 2 2) (.int .i64 a)
 have hsv := put_sevenA (HTW.out.below HBz.out).2.2 (.int .i64 1) (.string ⟨#[99, 104, 97, 105, 110]⟩) (.int .u32 0) (.int .i64 0) (.string ⟨#[]⟩) (.slice (some ⟨G7, 0, none⟩) 2 2) (.int .i64 a)
 have HSzz : Hid (∀ j, j < W.heap.size → j ≠ w.heap.size + 1 → ((((((((v8.setCell ⟨w.heap.size + 1, 0, none⟩ (.int .i64 1)).setCell ⟨w.heap.size + 1, 1, none⟩ (.string ⟨#[99, 104, 97, 105, 110]⟩)).setCell ⟨w.heap.size + 1, 2, none⟩ (.int .u32 0)).setCell ⟨w.heap.size + 1, 3, none⟩ (.int .i64 0)).setCell ⟨w.heap.size + 1, 4, none⟩ (.string ⟨#[]⟩)).setCell ⟨w.heap.size + 1, 5, none⟩ (.slice (some ⟨G7, 0, none⟩) 2 2)).setCell ⟨w.heap.size + 1, 6, none⟩ (.int .i64 a))).heap[j]? = W.heap[j]?) := fun j h1 h2 => (hoff.sameSize hosz (by exact h2)).trans (HBz.out.block j h1)
 obtain ⟨vE, hvE⟩ : ∃ V, (((((((v8.setCell ⟨w.heap.size + 1, 0, none⟩ (.int .i64 1)).setCell ⟨w.heap.size + 1, 1, none⟩ (.string ⟨#[99, 104, 97, 105, 110]⟩)).setCell ⟨w.heap.size + 1, 2, none⟩ (.int .u32 0)).setCell ⟨w.heap.size + 1, 3, none⟩ (.int .i64 0)).setCell ⟨w.heap.size + 1, 4, none⟩ (.string ⟨#[]⟩)).setCell ⟨w.heap.size + 1, 5, none⟩ (.slice (some ⟨G7, 0, none⟩) 2 2)).setCell ⟨w.heap.size + 1, 6, none⟩ (.int .i64 a)) = V := ⟨_, rfl⟩
 rw [hvE] at hdone hsv HSzz
 try rw [hvE]
 have HSE := HSzz
 have HEND : Hid (Below w.heap.size w vE ∧ Kids vE (inH (fun j => S j ∨ w.heap.size + 1 < j)) (.slice (some ⟨G7, 0, none⟩) 2 2) [madeN a by_ ts, madeN a rnm rl] ∧ vE.heap[w.heap.size + 1]? = some (.cells #[.int .i64 1, .string ⟨#[99, 104, 97, 105, 110]⟩, .int .u32 0, .int .i64 0, .string ⟨#[]⟩, .slice (some ⟨G7, 0, none⟩) 2 2, .int .i64 a] 29)) := ⟨hdone.1, hdone.2 _ _ _ (fun j h => by rcases h with h | h; (have := (HSB.out j (.inr h)).2; omega); omega) HK7.out, hsv⟩
 clear hoff hosz hdone hsv hvE s0 s1 s2 s3 s4 s5 s6 r0 r1 r2 r3 r4 r5 r6
 refine hK.out _ _ ?_ (fun hHeld => ?_)
 ·((try dsimp only); first | exact HSE.out | exact fun j h1 _ => HBz.out.block j h1 | exact fun j _ _ => rfl)
 clear hK K
 try simp only [Act.put, List.setIfInBounds_toArray, List.set_cons_zero, List.set_cons_succ]
 refine wpAnyH_done (by kernel_rfl) ?_ _
 go_wp2
 obtain ⟨⟨s0, s1, s2, s3, s4, s5, s6⟩, r0, r1, r2, r3, r4, r5, r6⟩ := sevenA HEND.out.2.2
 refine bodyPost_ret (by simp [results, Tryz.results104, go_sem, s0, s1, s2, s3, s4, s5, s6]; try rfl) rfl ?_
 exact ⟨_, _, rfl, HEND.out.2.1, HEND.out.1⟩
set_option maxHeartbeats 1000000 in
theorem bec_rate (b n : Nat) (a : Int) (nd : ByteArray → Option Nd) (S : Blk) (x_rate : Nd) (w : World) (h_rate : nd ⟨#[114, 97, 116, 101]⟩ = some x_rate) (hok : okR x_rate) (hS : ∀ j, S j → j < w.heap.size) (hp : PM w b n nd S) :
  Calls Tryz.prog 64 #[.agg #[.map (some b), .int .i64 a]] w fun e w' => ∃ p c, e = .returned (.agg #[.int .i64 1, .string (rnmA x_rate), .int .u32 0, .int .i64 0, .string ⟨#[]⟩, .slice p (rlA a x_rate).length c, .int .i64 a]) ∧ Kids w' (inH (fun j => S j ∨ w.heap.size + 1 < j)) (.slice p (rlA a x_rate).length c) (rlA a x_rate) ∧ Below w.heap.size w w' := by
 have HK_x_rate : Hid (nd ⟨#[114, 97, 116, 101]⟩ = some x_rate) := h_rate
 obtain ⟨rnm, hrn⟩ : ∃ x, rnmA x_rate = x := ⟨_, rfl⟩
 obtain ⟨rl, hrl⟩ : ∃ x, rlA a x_rate = x := ⟨_, rfl⟩
 rw [hrn, hrl]
 obtain ⟨W, hW, hT⟩ := TwoB.start w b a
 have HTW : Hid (TwoB w b a W) := hT
 have HSZ : Hid (w.heap.size + 2 ≤ W.heap.size) := hlt hT.2.2
 have HPM : Hid (PM W b n nd S) := hp.below hT.1
 have HSB : Hid (∀ j, (j = b ∨ S j) → j < W.heap.size ∧ j ≠ w.heap.size + 1) := fun j hj => by
  have h1 := HSZ.out
  rcases hj with rfl | hj
  ·obtain ⟨f, h, _⟩ := hp; have := h.lt; omega
  ·have := hS j hj; omega
 obtain ⟨⟨g0, g1⟩, -⟩ := twoC hT.2.1
 have HBz : Hid (Below W.heap.size W W) := Below.refl _ _
 clear hT
 have HRT : Hid (∀ x, Below W.heap.size W x → Calls Tryz.prog 65 #[.agg #[.map (some b), .int .i64 a]] x fun e w' => ∃ p c, e = .returned (.agg #[.int .i64 1, .string rnm, .int .u32 0, .int .i64 0, .string ⟨#[]⟩, .slice p rl.length c, .int .i64 a]) ∧ Kids w' (inH (fun j => S j ∨ w.heap.size + 1 < j)) (.slice p rl.length c) rl ∧ Below x.heap.size x w') := fun x hx => by
  have := rated_any b n a nd S x_rate x HK_x_rate.out hok (fun j hj => by have := (HSB.out j (.inr hj)).1; have := hx.size; omega) (HPM.out.below hx)
  rw [hrn, hrl] at this
  exact this.mono fun e w' ⟨p, c, h1, h2, h3⟩ => ⟨p, c, h1, h2.weak (inH.sub fun j h => h.imp id fun h => by have := hx.size; have := HSZ.out; omega), h3⟩
 clear h_rate hp hS hok hrn hrl
 go_enter Tryz.func64, Tryz.ntmps64
 go_wp2_with (go_at_call 65; (with_reducible refine (HRT.out _ HBz.out).mono ?_); rintro e v1 ⟨p1, c1, rfl, hk1, hb1⟩; have HK1 : Hid (Kids v1 (inH (fun j => S j ∨ w.heap.size + 1 < j)) (.slice p1 rl.length c1) rl) := hk1; have HT1 : Hid (TwoB w b a v1) := HTW.out.below hb1; obtain ⟨⟨s0, s1, s2, s3, s4, s5, s6⟩, r0, r1, r2, r3, r4, r5, r6⟩ := sevenA HT1.out.2.2; clear hk1 hb1)
 refine bodyPost_ret (by simp [results, Tryz.results64, go_sem, s0, s1, s2, s3, s4, s5, s6, r0, r1, r2, r3, r4, r5, r6]; try rfl) rfl ?_
 have hd := HT1.out.done (.int .i64 1) (.string rnm) (.int .u32 0) (.int .i64 0) (.string ⟨#[]⟩) (.slice p1 rl.length c1) (.int .i64 a)
 exact ⟨_, _, rfl, hd.2 _ _ _ (fun j h => by rcases h with h | h; (have := (HSB.out j (.inr h)).2; omega); omega) HK1.out, hd.1⟩
end Go.Proofs.YtmiidhgbdecdkaaGreat
namespace Go.Proofs.YtmiidhgbdecdkaaGreat
open Go.RowKit
set_option linter.unusedVariables false
set_option linter.unusedSimpArgs false
def orderA : List Rw := [row15, row3, row7, row0, row16, row1, row4, row11, row12, row2, row14, row5, row6, row13, row10, row8, row9]
theorem leaf_of {l : List Nd} (h : l.all (fun v => v.args.isEmpty) = true) : ∀ v ∈ l, v.args = [] := fun v hv => by
 have := List.all_eq_true.1 h v hv
 simpa using this
theorem order_names : orderA.map (fun r => r.name) = allE.map (fun e => e.1) := rfl
theorem order_len : orderA.length = allE.length := rfl
theorem order_in : ∀ r ∈ orderA, r ∈ rowsA := by
 intro r hr
 simp only [orderA, List.mem_cons, List.not_mem_nil, or_false] at hr
 simp only [rowsA, List.mem_cons, List.not_mem_nil, or_false]
 rcases hr with rfl | rfl | rfl | rfl | rfl | rfl | rfl | rfl | rfl | rfl | rfl | rfl | rfl | rfl | rfl | rfl | rfl <;> simp
theorem rows_names : ∀ x ∈ rowsA.map (fun r => r.name), x ∈ allE.map (fun e => e.1) := by
 have h : (rowsA.map (fun r => r.name)).all (fun x => (allE.map (fun e => e.1)).any (fun y => decide (y = x))) = true := by decide
 intro x hx
 obtain ⟨y, hy, he⟩ := List.any_eq_true.1 (List.all_eq_true.1 h x hx)
 rw [← of_decide_eq_true he]
 exact hy
theorem rows_nodup : (rowsA.map (fun r => r.name)).Nodup := by decide
theorem fine0 : Fine row15 (allE[0]'(by decide)).2.1 := ⟨rfl, rfl, by decide, by decide, rfl, leaf_of rfl⟩
theorem fine1 : Fine row3 (allE[1]'(by decide)).2.1 := ⟨rfl, rfl, by decide, by decide, rfl, leaf_of rfl⟩
theorem fine2 : Fine row7 (allE[2]'(by decide)).2.1 := ⟨rfl, rfl, by decide, by decide, rfl, leaf_of rfl⟩
theorem fine3 : Fine row0 (allE[3]'(by decide)).2.1 := ⟨rfl, rfl, by decide, by decide, rfl, leaf_of rfl⟩
theorem fine4 : Fine row16 (allE[4]'(by decide)).2.1 := ⟨rfl, rfl, by decide, by decide, rfl, leaf_of rfl⟩
theorem fine5 : Fine row1 (allE[5]'(by decide)).2.1 := ⟨rfl, rfl, by decide, by decide, rfl, leaf_of rfl⟩
theorem fine6 : Fine row4 (allE[6]'(by decide)).2.1 := ⟨rfl, rfl, by decide, by decide, rfl, leaf_of rfl⟩
theorem fine7 : Fine row11 (allE[7]'(by decide)).2.1 := ⟨rfl, rfl, by decide, by decide, rfl, leaf_of rfl⟩
theorem fine8 : Fine row12 (allE[8]'(by decide)).2.1 := ⟨rfl, rfl, by decide, by decide, rfl, leaf_of rfl⟩
theorem fine9 : Fine row2 (allE[9]'(by decide)).2.1 := ⟨rfl, rfl, by decide, by decide, rfl, leaf_of rfl⟩
theorem fine10 : Fine row14 (allE[10]'(by decide)).2.1 := ⟨rfl, rfl, by decide, by decide, rfl, leaf_of rfl⟩
theorem fine11 : Fine row5 (allE[11]'(by decide)).2.1 := ⟨rfl, rfl, by decide, by decide, rfl, leaf_of rfl⟩
theorem fine12 : Fine row6 (allE[12]'(by decide)).2.1 := ⟨rfl, rfl, by decide, by decide, rfl, leaf_of rfl⟩
theorem fine13 : Fine row13 (allE[13]'(by decide)).2.1 := ⟨rfl, rfl, by decide, by decide, rfl, leaf_of rfl⟩
theorem fine14 : Fine row10 (allE[14]'(by decide)).2.1 := ⟨rfl, rfl, by decide, by decide, rfl, leaf_of rfl⟩
theorem fine15 : Fine row8 (allE[15]'(by decide)).2.1 := ⟨rfl, rfl, by decide, by decide, rfl, leaf_of rfl⟩
theorem fine16 : Fine row9 (allE[16]'(by decide)).2.1 := ⟨rfl, rfl, by decide, by decide, rfl, leaf_of rfl⟩
theorem zip_at {p : Rw × Rent} (h : p ∈ orderA.zip allE) : p = (row15, allE[0]'(by decide)) ∨ p = (row3, allE[1]'(by decide)) ∨ p = (row7, allE[2]'(by decide)) ∨ p = (row0, allE[3]'(by decide)) ∨ p = (row16, allE[4]'(by decide)) ∨ p = (row1, allE[5]'(by decide)) ∨ p = (row4, allE[6]'(by decide)) ∨ p = (row11, allE[7]'(by decide)) ∨ p = (row12, allE[8]'(by decide)) ∨ p = (row2, allE[9]'(by decide)) ∨ p = (row14, allE[10]'(by decide)) ∨ p = (row5, allE[11]'(by decide)) ∨ p = (row6, allE[12]'(by decide)) ∨ p = (row13, allE[13]'(by decide)) ∨ p = (row10, allE[14]'(by decide)) ∨ p = (row8, allE[15]'(by decide)) ∨ p = (row9, allE[16]'(by decide)) := by
 simp only [orderA, allE, plainE, otherE, List.cons_append, List.nil_append, List.zip_cons_cons, List.zip_nil_right, List.mem_cons, List.not_mem_nil, or_false] at h
 exact h
theorem fine_all {p : Rw × Rent} (h : p ∈ orderA.zip allE) : Fine p.1 p.2.2.1 := by
 rcases zip_at h with rfl | rfl | rfl | rfl | rfl | rfl | rfl | rfl | rfl | rfl | rfl | rfl | rfl | rfl | rfl | rfl | rfl
 ·exact fine0
 ·exact fine1
 ·exact fine2
 ·exact fine3
 ·exact fine4
 ·exact fine5
 ·exact fine6
 ·exact fine7
 ·exact fine8
 ·exact fine9
 ·exact fine10
 ·exact fine11
 ·exact fine12
 ·exact fine13
 ·exact fine14
 ·exact fine15
 ·exact fine16
theorem findA_key {E : List Rw} (hn : (E.map fun e => e.name).Nodup) {e : Rw} (he : e ∈ E) {nm : ByteArray} (h : e.name = nm) : E.find? (fun r => sameB r.name nm) = some e := by
 induction E with
 | nil => cases he
 | cons x E ih =>
  rw [List.map_cons, List.nodup_cons] at hn
  by_cases c : x.name = nm
  ·rw [List.find?_cons_of_pos (by simpa using sameB_iff.2 c)]
   rcases List.mem_cons.1 he with rfl | he
   ·rfl
   ·exact absurd (List.mem_map.2 ⟨e, he, h.trans c.symm⟩) hn.1
  ·rw [List.find?_cons_of_neg (by simpa using fun h => c (sameB_iff.1 h))]
   rcases List.mem_cons.1 he with rfl | he
   ·exact absurd h c
   ·exact ih hn.2 he
theorem find_both (t : Nd) : (findE t = none ∧ findA t = none) ∨ ∃ p ∈ orderA.zip allE, findE t = some p.2 ∧ findA t = some p.1 ∧ p.1.name = t.name ∧ t.kind = 1 := by
 unfold findE findA
 by_cases hk : t.kind = 1
 ·rw [if_pos hk, if_pos (by simpa using hk)]
  by_cases h : ∃ e ∈ allE, e.1 = t.name
  ·obtain ⟨e, he, hn⟩ := h
   obtain ⟨i, hi, rfl⟩ := List.getElem_of_mem he
   have hi2 : i < orderA.length := by rw [order_len]; exact hi
   have hnm : orderA[i].name = (allE[i]).1 := by
    have := congrArg (fun l => l[i]?) order_names
    simp only [List.getElem?_map, List.getElem?_eq_getElem hi, List.getElem?_eq_getElem hi2, Option.map_some] at this
    exact Option.some.inj this
   refine .inr ⟨(orderA[i], allE[i]), ?_, find_key all_nodup (List.getElem_mem hi) hn, findA_key rows_nodup (order_in _ (List.getElem_mem hi2)) (hnm.trans hn), hnm.trans hn, hk⟩
   have hz : i < (orderA.zip allE).length := by rw [List.length_zip]; omega
   have := List.getElem_mem hz
   rw [List.getElem_zip] at this
   exact this
  ·refine .inl ⟨find_nokey fun e he hh => h ⟨e, he, hh⟩, ?_⟩
   rw [List.find?_eq_none]
   intro r hr hs
   have hs := sameB_iff.1 hs
   obtain ⟨e, he, hee⟩ := List.mem_map.1 (rows_names _ (List.mem_map.2 ⟨r, hr, rfl⟩))
   exact h ⟨e, he, hee.trans hs⟩
 ·rw [if_neg hk, if_neg (by simpa using hk)]
  exact .inl ⟨rfl, rfl⟩
def errE (t : Nd) : Int × Int := match findE t with | none => (0, 0) | some e => match giveP e.2.1 t with | .error x => x | .ok _ => (0, 0)
theorem errE_eq (t : Nd) : errE t = errA t := by
 unfold errE errA
 rcases find_both t with ⟨h1, h2⟩ | ⟨p, hp, h1, h2, -⟩
 ·rw [h1, h2]
 ·rw [h1, h2]
  rcases giveP_eq (fine_all hp) t with ⟨e, g1, g2⟩ | ⟨g, tk, nx, kd, g1, g2, -⟩
  ·simp only [g1, g2]
  ·simp only [g1, g2]
theorem lst_eq : ∀ (l : List Nd), l = (List.range l.length).map (ix l)
 | [] => rfl
 | x :: l => by
  rw [List.length_cons, List.range_succ_eq_map, List.map_cons, List.map_map]
  have : (ix (x :: l) ∘ Nat.succ) = ix l := by funext i; rfl
  rw [this]
  exact congrArg (List.cons x) (lst_eq l)
theorem drop1 {l : List Nd} {n : Nat} (h : l.length = n) (k : Nat) : l.drop k = ((List.range n).map (ix l)).drop k := by
 have := lst_eq l
 rw [h] at this
 exact congrArg (List.drop k) this
theorem sno {a b : ByteArray} (h : a ≠ b) : ¬ (sameB a b = true) := fun c => h (sameB_iff.1 c)
def EntA (k : Nat) : Prop := ∀ (args : Array Value) (w : World), (callFunc k args).run Tryz.prog w = .ok (.enter k args) w
def BecK (w : World) (fv : Value) (r : Rw) : Prop :=
 ∃ K cap, fv = .func (.func K) #[] cap ∧ EntA K ∧ ∀ (b n : Nat) (a : Int) (nd : ByteArray → Option Nd) (S : Blk) (lst : List Nd) (v : World), Kp w v → lst.length = r.args.length → (∀ k nm, r.args[k]? = some nm → nd nm = some (ix lst k)) → okR (ix lst 0) → (∀ j, S j → j < v.heap.size) → PM v b n nd S →
  Calls Tryz.prog K (#[.agg #[.map (some b), .int .i64 a]] ++ cap) v fun e w' => ∃ p c, e = .returned (nv (becA r.name a lst) (.slice p (becA r.name a lst).args.length c)) ∧ Kids w' (inH (fun j => S j ∨ v.heap.size + 1 < j)) (.slice p (becA r.name a lst).args.length c) (becA r.name a lst).args ∧ Below v.heap.size v w'
theorem becA_sgd (a : Int) (lst : List Nd) (hl : lst.length = 3) : becA ⟨#[115, 103, 100]⟩ a lst = madeN a ⟨#[99, 104, 97, 105, 110]⟩ [madeN a ⟨#[116, 114, 97, 99, 101]⟩ [ix lst 1, ix lst 2], rateA a (ix lst 0)] := by
 have h1 := drop1 hl 1
 have h3 := drop1 hl 3
 unfold becA
 rw [if_neg (sno (by decide)), if_pos (sameB_iff.2 rfl)]
theorem beck_sgd {w : World} {fv : Value} (h : FvOK w fv (allE[0]'(by decide)).2.2) : BecK w fv row15 := by
 obtain ⟨a1, a2, qq, cc, h1, h2, h3, h4, -, -⟩ := (show FvOK w fv (.sc ⟨#[116, 114, 97, 99, 101]⟩ [⟨#[109, 111, 109, 101, 110, 116, 117, 109]⟩, ⟨#[110, 101, 115, 116, 101, 114, 111, 118]⟩]) from h)
 refine ⟨104, _, h1, enters_of Tryz.func104 (by kernel_rfl) rfl, fun b n a nd S lst v hkp hl hnd hok hS hp => ?_⟩
 have hb := becA_sgd a lst hl
 refine (bec_scaled b n a nd S (ix lst 0) ⟨#[116, 114, 97, 99, 101]⟩ [⟨#[109, 111, 109, 101, 110, 116, 117, 109]⟩, ⟨#[110, 101, 115, 116, 101, 114, 111, 118]⟩] [ix lst 1, ix lst 2] a1 a2 qq cc v (hnd 0 _ rfl) hok (by decide) (by decide) (by simp only [List.map_cons, List.map_nil, hnd 1 _ rfl, hnd 2 _ rfl]) (hkp.cell h2) (hkp.cell h3) (h4.a.kp hkp) hS hp).mono fun e w' ⟨p, c, r1, r2, r3⟩ => ⟨p, c, ?_, ?_, r3⟩
 ·rw [show row15.name = ⟨#[115, 103, 100]⟩ from rfl, hb]; exact r1
 ·rw [show row15.name = ⟨#[115, 103, 100]⟩ from rfl, hb]; exact r2
theorem becA_adam (a : Int) (lst : List Nd) (hl : lst.length = 5) : becA ⟨#[97, 100, 97, 109]⟩ a lst = madeN a ⟨#[99, 104, 97, 105, 110]⟩ [madeN a ⟨#[115, 99, 97, 108, 101, 95, 98, 121, 95, 97, 100, 97, 109]⟩ [ix lst 1, ix lst 2, ix lst 3, ix lst 4], rateA a (ix lst 0)] := by
 have h1 := drop1 hl 1
 have h3 := drop1 hl 3
 unfold becA
 rw [if_neg (sno (by decide)), if_neg (sno (by decide)), if_pos (sameB_iff.2 rfl)]
 simp only [h1, h3, placeN, placeL_cons, placeL_nil, numN, flagN, callA, madeN]
 first | done | rfl
theorem beck_adam {w : World} {fv : Value} (h : FvOK w fv (allE[1]'(by decide)).2.2) : BecK w fv row3 := by
 obtain ⟨a1, a2, qq, cc, h1, h2, h3, h4, -, -⟩ := (show FvOK w fv (.sc ⟨#[115, 99, 97, 108, 101, 95, 98, 121, 95, 97, 100, 97, 109]⟩ [⟨#[98, 49]⟩, ⟨#[98, 50]⟩, ⟨#[101, 112, 115]⟩, ⟨#[101, 112, 115, 95, 114, 111, 111, 116]⟩]) from h)
 refine ⟨104, _, h1, enters_of Tryz.func104 (by kernel_rfl) rfl, fun b n a nd S lst v hkp hl hnd hok hS hp => ?_⟩
 have hb := becA_adam a lst hl
 refine (bec_scaled b n a nd S (ix lst 0) ⟨#[115, 99, 97, 108, 101, 95, 98, 121, 95, 97, 100, 97, 109]⟩ [⟨#[98, 49]⟩, ⟨#[98, 50]⟩, ⟨#[101, 112, 115]⟩, ⟨#[101, 112, 115, 95, 114, 111, 111, 116]⟩] [ix lst 1, ix lst 2, ix lst 3, ix lst 4] a1 a2 qq cc v (hnd 0 _ rfl) hok (by decide) (by decide) (by simp only [List.map_cons, List.map_nil, hnd 1 _ rfl, hnd 2 _ rfl, hnd 3 _ rfl, hnd 4 _ rfl]) (hkp.cell h2) (hkp.cell h3) (h4.a.kp hkp) hS hp).mono fun e w' ⟨p, c, r1, r2, r3⟩ => ⟨p, c, ?_, ?_, r3⟩
 ·rw [show row3.name = ⟨#[97, 100, 97, 109]⟩ from rfl, hb]; exact r1
 ·rw [show row3.name = ⟨#[97, 100, 97, 109]⟩ from rfl, hb]; exact r2
theorem becA_amsgrad (a : Int) (lst : List Nd) (hl : lst.length = 5) : becA ⟨#[97, 109, 115, 103, 114, 97, 100]⟩ a lst = madeN a ⟨#[99, 104, 97, 105, 110]⟩ [madeN a ⟨#[115, 99, 97, 108, 101, 95, 98, 121, 95, 97, 109, 115, 103, 114, 97, 100]⟩ [ix lst 1, ix lst 2, ix lst 3, ix lst 4], rateA a (ix lst 0)] := by
 have h1 := drop1 hl 1
 have h3 := drop1 hl 3
 unfold becA
 rw [if_neg (sno (by decide)), if_neg (sno (by decide)), if_neg (sno (by decide)), if_pos (sameB_iff.2 rfl)]
 simp only [h1, h3, placeN, placeL_cons, placeL_nil, numN, flagN, callA, madeN]
 first | done | rfl
theorem beck_amsgrad {w : World} {fv : Value} (h : FvOK w fv (allE[2]'(by decide)).2.2) : BecK w fv row7 := by
 obtain ⟨a1, a2, qq, cc, h1, h2, h3, h4, -, -⟩ := (show FvOK w fv (.sc ⟨#[115, 99, 97, 108, 101, 95, 98, 121, 95, 97, 109, 115, 103, 114, 97, 100]⟩ [⟨#[98, 49]⟩, ⟨#[98, 50]⟩, ⟨#[101, 112, 115]⟩, ⟨#[101, 112, 115, 95, 114, 111, 111, 116]⟩]) from h)
 refine ⟨104, _, h1, enters_of Tryz.func104 (by kernel_rfl) rfl, fun b n a nd S lst v hkp hl hnd hok hS hp => ?_⟩
 have hb := becA_amsgrad a lst hl
 refine (bec_scaled b n a nd S (ix lst 0) ⟨#[115, 99, 97, 108, 101, 95, 98, 121, 95, 97, 109, 115, 103, 114, 97, 100]⟩ [⟨#[98, 49]⟩, ⟨#[98, 50]⟩, ⟨#[101, 112, 115]⟩, ⟨#[101, 112, 115, 95, 114, 111, 111, 116]⟩] [ix lst 1, ix lst 2, ix lst 3, ix lst 4] a1 a2 qq cc v (hnd 0 _ rfl) hok (by decide) (by decide) (by simp only [List.map_cons, List.map_nil, hnd 1 _ rfl, hnd 2 _ rfl, hnd 3 _ rfl, hnd 4 _ rfl]) (hkp.cell h2) (hkp.cell h3) (h4.a.kp hkp) hS hp).mono fun e w' ⟨p, c, r1, r2, r3⟩ => ⟨p, c, ?_, ?_, r3⟩
 ·rw [show row7.name = ⟨#[97, 109, 115, 103, 114, 97, 100]⟩ from rfl, hb]; exact r1
 ·rw [show row7.name = ⟨#[97, 109, 115, 103, 114, 97, 100]⟩ from rfl, hb]; exact r2
theorem becA_adabelief (a : Int) (lst : List Nd) (hl : lst.length = 5) : becA ⟨#[97, 100, 97, 98, 101, 108, 105, 101, 102]⟩ a lst = madeN a ⟨#[99, 104, 97, 105, 110]⟩ [madeN a ⟨#[115, 99, 97, 108, 101, 95, 98, 121, 95, 98, 101, 108, 105, 101, 102]⟩ [ix lst 1, ix lst 2, ix lst 3, ix lst 4], rateA a (ix lst 0)] := by
 have h1 := drop1 hl 1
 have h3 := drop1 hl 3
 unfold becA
 rw [if_neg (sno (by decide)), if_neg (sno (by decide)), if_neg (sno (by decide)), if_neg (sno (by decide)), if_pos (sameB_iff.2 rfl)]
 simp only [h1, h3, placeN, placeL_cons, placeL_nil, numN, flagN, callA, madeN]
 first | done | rfl
theorem beck_adabelief {w : World} {fv : Value} (h : FvOK w fv (allE[3]'(by decide)).2.2) : BecK w fv row0 := by
 obtain ⟨a1, a2, qq, cc, h1, h2, h3, h4, -, -⟩ := (show FvOK w fv (.sc ⟨#[115, 99, 97, 108, 101, 95, 98, 121, 95, 98, 101, 108, 105, 101, 102]⟩ [⟨#[98, 49]⟩, ⟨#[98, 50]⟩, ⟨#[101, 112, 115]⟩, ⟨#[101, 112, 115, 95, 114, 111, 111, 116]⟩]) from h)
 refine ⟨104, _, h1, enters_of Tryz.func104 (by kernel_rfl) rfl, fun b n a nd S lst v hkp hl hnd hok hS hp => ?_⟩
 have hb := becA_adabelief a lst hl
 refine (bec_scaled b n a nd S (ix lst 0) ⟨#[115, 99, 97, 108, 101, 95, 98, 121, 95, 98, 101, 108, 105, 101, 102]⟩ [⟨#[98, 49]⟩, ⟨#[98, 50]⟩, ⟨#[101, 112, 115]⟩, ⟨#[101, 112, 115, 95, 114, 111, 111, 116]⟩] [ix lst 1, ix lst 2, ix lst 3, ix lst 4] a1 a2 qq cc v (hnd 0 _ rfl) hok (by decide) (by decide) (by simp only [List.map_cons, List.map_nil, hnd 1 _ rfl, hnd 2 _ rfl, hnd 3 _ rfl, hnd 4 _ rfl]) (hkp.cell h2) (hkp.cell h3) (h4.a.kp hkp) hS hp).mono fun e w' ⟨p, c, r1, r2, r3⟩ => ⟨p, c, ?_, ?_, r3⟩
 ·rw [show row0.name = ⟨#[97, 100, 97, 98, 101, 108, 105, 101, 102]⟩ from rfl, hb]; exact r1
 ·rw [show row0.name = ⟨#[97, 100, 97, 98, 101, 108, 105, 101, 102]⟩ from rfl, hb]; exact r2
theorem becA_yogi (a : Int) (lst : List Nd) (hl : lst.length = 5) : becA ⟨#[121, 111, 103, 105]⟩ a lst = madeN a ⟨#[99, 104, 97, 105, 110]⟩ [madeN a ⟨#[115, 99, 97, 108, 101, 95, 98, 121, 95, 121, 111, 103, 105]⟩ [ix lst 1, ix lst 2, ix lst 3, ix lst 4], rateA a (ix lst 0)] := by
 have h1 := drop1 hl 1
 have h3 := drop1 hl 3
 unfold becA
 rw [if_neg (sno (by decide)), if_neg (sno (by decide)), if_neg (sno (by decide)), if_neg (sno (by decide)), if_neg (sno (by decide)), if_pos (sameB_iff.2 rfl)]
 simp only [h1, h3, placeN, placeL_cons, placeL_nil, numN, flagN, callA, madeN]
 first | done | rfl
theorem beck_yogi {w : World} {fv : Value} (h : FvOK w fv (allE[4]'(by decide)).2.2) : BecK w fv row16 := by
 obtain ⟨a1, a2, qq, cc, h1, h2, h3, h4, -, -⟩ := (show FvOK w fv (.sc ⟨#[115, 99, 97, 108, 101, 95, 98, 121, 95, 121, 111, 103, 105]⟩ [⟨#[98, 49]⟩, ⟨#[98, 50]⟩, ⟨#[101, 112, 115]⟩, ⟨#[105, 110, 105, 116, 105, 97, 108]⟩]) from h)
 refine ⟨104, _, h1, enters_of Tryz.func104 (by kernel_rfl) rfl, fun b n a nd S lst v hkp hl hnd hok hS hp => ?_⟩
 have hb := becA_yogi a lst hl
 refine (bec_scaled b n a nd S (ix lst 0) ⟨#[115, 99, 97, 108, 101, 95, 98, 121, 95, 121, 111, 103, 105]⟩ [⟨#[98, 49]⟩, ⟨#[98, 50]⟩, ⟨#[101, 112, 115]⟩, ⟨#[105, 110, 105, 116, 105, 97, 108]⟩] [ix lst 1, ix lst 2, ix lst 3, ix lst 4] a1 a2 qq cc v (hnd 0 _ rfl) hok (by decide) (by decide) (by simp only [List.map_cons, List.map_nil, hnd 1 _ rfl, hnd 2 _ rfl, hnd 3 _ rfl, hnd 4 _ rfl]) (hkp.cell h2) (hkp.cell h3) (h4.a.kp hkp) hS hp).mono fun e w' ⟨p, c, r1, r2, r3⟩ => ⟨p, c, ?_, ?_, r3⟩
 ·rw [show row16.name = ⟨#[121, 111, 103, 105]⟩ from rfl, hb]; exact r1
 ·rw [show row16.name = ⟨#[121, 111, 103, 105]⟩ from rfl, hb]; exact r2
theorem becA_adadelta (a : Int) (lst : List Nd) (hl : lst.length = 3) : becA ⟨#[97, 100, 97, 100, 101, 108, 116, 97]⟩ a lst = madeN a ⟨#[99, 104, 97, 105, 110]⟩ [madeN a ⟨#[115, 99, 97, 108, 101, 95, 98, 121, 95, 97, 100, 97, 100, 101, 108, 116, 97]⟩ [ix lst 1, ix lst 2], rateA a (ix lst 0)] := by
 have h1 := drop1 hl 1
 have h3 := drop1 hl 3
 unfold becA
 rw [if_neg (sno (by decide)), if_neg (sno (by decide)), if_neg (sno (by decide)), if_neg (sno (by decide)), if_neg (sno (by decide)), if_neg (sno (by decide)), if_pos (sameB_iff.2 rfl)]
 simp only [h1, h3, placeN, placeL_cons, placeL_nil, numN, flagN, callA, madeN]
 first | done | rfl
theorem beck_adadelta {w : World} {fv : Value} (h : FvOK w fv (allE[5]'(by decide)).2.2) : BecK w fv row1 := by
 obtain ⟨a1, a2, qq, cc, h1, h2, h3, h4, -, -⟩ := (show FvOK w fv (.sc ⟨#[115, 99, 97, 108, 101, 95, 98, 121, 95, 97, 100, 97, 100, 101, 108, 116, 97]⟩ [⟨#[114, 104, 111]⟩, ⟨#[101, 112, 115]⟩]) from h)
 refine ⟨104, _, h1, enters_of Tryz.func104 (by kernel_rfl) rfl, fun b n a nd S lst v hkp hl hnd hok hS hp => ?_⟩
 have hb := becA_adadelta a lst hl
 refine (bec_scaled b n a nd S (ix lst 0) ⟨#[115, 99, 97, 108, 101, 95, 98, 121, 95, 97, 100, 97, 100, 101, 108, 116, 97]⟩ [⟨#[114, 104, 111]⟩, ⟨#[101, 112, 115]⟩] [ix lst 1, ix lst 2] a1 a2 qq cc v (hnd 0 _ rfl) hok (by decide) (by decide) (by simp only [List.map_cons, List.map_nil, hnd 1 _ rfl, hnd 2 _ rfl]) (hkp.cell h2) (hkp.cell h3) (h4.a.kp hkp) hS hp).mono fun e w' ⟨p, c, r1, r2, r3⟩ => ⟨p, c, ?_, ?_, r3⟩
 ·rw [show row1.name = ⟨#[97, 100, 97, 100, 101, 108, 116, 97]⟩ from rfl, hb]; exact r1
 ·rw [show row1.name = ⟨#[97, 100, 97, 100, 101, 108, 116, 97]⟩ from rfl, hb]; exact r2
theorem becA_adamax (a : Int) (lst : List Nd) (hl : lst.length = 4) : becA ⟨#[97, 100, 97, 109, 97, 120]⟩ a lst = madeN a ⟨#[99, 104, 97, 105, 110]⟩ [madeN a ⟨#[115, 99, 97, 108, 101, 95, 98, 121, 95, 97, 100, 97, 109, 97, 120]⟩ [ix lst 1, ix lst 2, ix lst 3], rateA a (ix lst 0)] := by
 have h1 := drop1 hl 1
 have h3 := drop1 hl 3
 unfold becA
 rw [if_neg (sno (by decide)), if_neg (sno (by decide)), if_neg (sno (by decide)), if_neg (sno (by decide)), if_neg (sno (by decide)), if_neg (sno (by decide)), if_neg (sno (by decide)), if_pos (sameB_iff.2 rfl)]
 simp only [h1, h3, placeN, placeL_cons, placeL_nil, numN, flagN, callA, madeN]
 first | done | rfl
theorem beck_adamax {w : World} {fv : Value} (h : FvOK w fv (allE[6]'(by decide)).2.2) : BecK w fv row4 := by
 obtain ⟨a1, a2, qq, cc, h1, h2, h3, h4, -, -⟩ := (show FvOK w fv (.sc ⟨#[115, 99, 97, 108, 101, 95, 98, 121, 95, 97, 100, 97, 109, 97, 120]⟩ [⟨#[98, 49]⟩, ⟨#[98, 50]⟩, ⟨#[101, 112, 115]⟩]) from h)
 refine ⟨104, _, h1, enters_of Tryz.func104 (by kernel_rfl) rfl, fun b n a nd S lst v hkp hl hnd hok hS hp => ?_⟩
 have hb := becA_adamax a lst hl
 refine (bec_scaled b n a nd S (ix lst 0) ⟨#[115, 99, 97, 108, 101, 95, 98, 121, 95, 97, 100, 97, 109, 97, 120]⟩ [⟨#[98, 49]⟩, ⟨#[98, 50]⟩, ⟨#[101, 112, 115]⟩] [ix lst 1, ix lst 2, ix lst 3] a1 a2 qq cc v (hnd 0 _ rfl) hok (by decide) (by decide) (by simp only [List.map_cons, List.map_nil, hnd 1 _ rfl, hnd 2 _ rfl, hnd 3 _ rfl]) (hkp.cell h2) (hkp.cell h3) (h4.a.kp hkp) hS hp).mono fun e w' ⟨p, c, r1, r2, r3⟩ => ⟨p, c, ?_, ?_, r3⟩
 ·rw [show row4.name = ⟨#[97, 100, 97, 109, 97, 120]⟩ from rfl, hb]; exact r1
 ·rw [show row4.name = ⟨#[97, 100, 97, 109, 97, 120]⟩ from rfl, hb]; exact r2
theorem becA_novograd (a : Int) (lst : List Nd) (hl : lst.length = 6) : becA ⟨#[110, 111, 118, 111, 103, 114, 97, 100]⟩ a lst = madeN a ⟨#[99, 104, 97, 105, 110]⟩ [madeN a ⟨#[115, 99, 97, 108, 101, 95, 98, 121, 95, 110, 111, 118, 111, 103, 114, 97, 100]⟩ [ix lst 1, ix lst 2, ix lst 3, ix lst 4, ix lst 5], rateA a (ix lst 0)] := by
 have h1 := drop1 hl 1
 have h3 := drop1 hl 3
 unfold becA
 rw [if_neg (sno (by decide)), if_neg (sno (by decide)), if_neg (sno (by decide)), if_neg (sno (by decide)), if_neg (sno (by decide)), if_neg (sno (by decide)), if_neg (sno (by decide)), if_neg (sno (by decide)), if_pos (sameB_iff.2 rfl)]
 simp only [h1, h3, placeN, placeL_cons, placeL_nil, numN, flagN, callA, madeN]
 first | done | rfl
theorem beck_novograd {w : World} {fv : Value} (h : FvOK w fv (allE[7]'(by decide)).2.2) : BecK w fv row11 := by
 obtain ⟨a1, a2, qq, cc, h1, h2, h3, h4, -, -⟩ := (show FvOK w fv (.sc ⟨#[115, 99, 97, 108, 101, 95, 98, 121, 95, 110, 111, 118, 111, 103, 114, 97, 100]⟩ [⟨#[98, 49]⟩, ⟨#[98, 50]⟩, ⟨#[101, 112, 115]⟩, ⟨#[101, 112, 115, 95, 114, 111, 111, 116]⟩, ⟨#[119, 101, 105, 103, 104, 116, 95, 100, 101, 99, 97, 121]⟩]) from h)
 refine ⟨104, _, h1, enters_of Tryz.func104 (by kernel_rfl) rfl, fun b n a nd S lst v hkp hl hnd hok hS hp => ?_⟩
 have hb := becA_novograd a lst hl
 refine (bec_scaled b n a nd S (ix lst 0) ⟨#[115, 99, 97, 108, 101, 95, 98, 121, 95, 110, 111, 118, 111, 103, 114, 97, 100]⟩ [⟨#[98, 49]⟩, ⟨#[98, 50]⟩, ⟨#[101, 112, 115]⟩, ⟨#[101, 112, 115, 95, 114, 111, 111, 116]⟩, ⟨#[119, 101, 105, 103, 104, 116, 95, 100, 101, 99, 97, 121]⟩] [ix lst 1, ix lst 2, ix lst 3, ix lst 4, ix lst 5] a1 a2 qq cc v (hnd 0 _ rfl) hok (by decide) (by decide) (by simp only [List.map_cons, List.map_nil, hnd 1 _ rfl, hnd 2 _ rfl, hnd 3 _ rfl, hnd 4 _ rfl, hnd 5 _ rfl]) (hkp.cell h2) (hkp.cell h3) (h4.a.kp hkp) hS hp).mono fun e w' ⟨p, c, r1, r2, r3⟩ => ⟨p, c, ?_, ?_, r3⟩
 ·rw [show row11.name = ⟨#[110, 111, 118, 111, 103, 114, 97, 100]⟩ from rfl, hb]; exact r1
 ·rw [show row11.name = ⟨#[110, 111, 118, 111, 103, 114, 97, 100]⟩ from rfl, hb]; exact r2
theorem becA_optimistic (a : Int) (lst : List Nd) (hl : lst.length = 3) : becA ⟨#[111, 112, 116, 105, 109, 105, 115, 116, 105, 99]⟩ a lst = madeN a ⟨#[99, 104, 97, 105, 110]⟩ [madeN a ⟨#[115, 99, 97, 108, 101, 95, 98, 121, 95, 111, 112, 116, 105, 109, 105, 115, 116, 105, 99, 95, 103, 114, 97, 100, 105, 101, 110, 116]⟩ [ix lst 1, ix lst 2], rateA a (ix lst 0)] := by
 have h1 := drop1 hl 1
 have h3 := drop1 hl 3
 unfold becA
 rw [if_neg (sno (by decide)), if_neg (sno (by decide)), if_neg (sno (by decide)), if_neg (sno (by decide)), if_neg (sno (by decide)), if_neg (sno (by decide)), if_neg (sno (by decide)), if_neg (sno (by decide)), if_neg (sno (by decide)), if_pos (sameB_iff.2 rfl)]
 simp only [h1, h3, placeN, placeL_cons, placeL_nil, numN, flagN, callA, madeN]
 first | done | rfl
theorem beck_optimistic {w : World} {fv : Value} (h : FvOK w fv (allE[8]'(by decide)).2.2) : BecK w fv row12 := by
 obtain ⟨a1, a2, qq, cc, h1, h2, h3, h4, -, -⟩ := (show FvOK w fv (.sc ⟨#[115, 99, 97, 108, 101, 95, 98, 121, 95, 111, 112, 116, 105, 109, 105, 115, 116, 105, 99, 95, 103, 114, 97, 100, 105, 101, 110, 116]⟩ [⟨#[97, 108, 112, 104, 97]⟩, ⟨#[98, 101, 116, 97]⟩]) from h)
 refine ⟨104, _, h1, enters_of Tryz.func104 (by kernel_rfl) rfl, fun b n a nd S lst v hkp hl hnd hok hS hp => ?_⟩
 have hb := becA_optimistic a lst hl
 refine (bec_scaled b n a nd S (ix lst 0) ⟨#[115, 99, 97, 108, 101, 95, 98, 121, 95, 111, 112, 116, 105, 109, 105, 115, 116, 105, 99, 95, 103, 114, 97, 100, 105, 101, 110, 116]⟩ [⟨#[97, 108, 112, 104, 97]⟩, ⟨#[98, 101, 116, 97]⟩] [ix lst 1, ix lst 2] a1 a2 qq cc v (hnd 0 _ rfl) hok (by decide) (by decide) (by simp only [List.map_cons, List.map_nil, hnd 1 _ rfl, hnd 2 _ rfl]) (hkp.cell h2) (hkp.cell h3) (h4.a.kp hkp) hS hp).mono fun e w' ⟨p, c, r1, r2, r3⟩ => ⟨p, c, ?_, ?_, r3⟩
 ·rw [show row12.name = ⟨#[111, 112, 116, 105, 109, 105, 115, 116, 105, 99]⟩ from rfl, hb]; exact r1
 ·rw [show row12.name = ⟨#[111, 112, 116, 105, 109, 105, 115, 116, 105, 99]⟩ from rfl, hb]; exact r2
theorem becA_adagrad (a : Int) (lst : List Nd) (hl : lst.length = 3) : becA ⟨#[97, 100, 97, 103, 114, 97, 100]⟩ a lst = madeN a ⟨#[99, 104, 97, 105, 110]⟩ [madeN a ⟨#[115, 99, 97, 108, 101, 95, 98, 121, 95, 114, 115, 115]⟩ [ix lst 1, ix lst 2], rateA a (ix lst 0)] := by
 have h1 := drop1 hl 1
 have h3 := drop1 hl 3
 unfold becA
 rw [if_neg (sno (by decide)), if_neg (sno (by decide)), if_neg (sno (by decide)), if_neg (sno (by decide)), if_neg (sno (by decide)), if_neg (sno (by decide)), if_neg (sno (by decide)), if_neg (sno (by decide)), if_neg (sno (by decide)), if_neg (sno (by decide)), if_neg (sno (by decide)), if_pos (sameB_iff.2 rfl)]
 simp only [h1, h3, placeN, placeL_cons, placeL_nil, numN, flagN, callA, madeN]
 first | done | rfl
theorem beck_adagrad {w : World} {fv : Value} (h : FvOK w fv (allE[9]'(by decide)).2.2) : BecK w fv row2 := by
 obtain ⟨a1, a2, qq, cc, h1, h2, h3, h4, -, -⟩ := (show FvOK w fv (.sc ⟨#[115, 99, 97, 108, 101, 95, 98, 121, 95, 114, 115, 115]⟩ [⟨#[105, 110, 105, 116, 105, 97, 108]⟩, ⟨#[101, 112, 115]⟩]) from h)
 refine ⟨104, _, h1, enters_of Tryz.func104 (by kernel_rfl) rfl, fun b n a nd S lst v hkp hl hnd hok hS hp => ?_⟩
 have hb := becA_adagrad a lst hl
 refine (bec_scaled b n a nd S (ix lst 0) ⟨#[115, 99, 97, 108, 101, 95, 98, 121, 95, 114, 115, 115]⟩ [⟨#[105, 110, 105, 116, 105, 97, 108]⟩, ⟨#[101, 112, 115]⟩] [ix lst 1, ix lst 2] a1 a2 qq cc v (hnd 0 _ rfl) hok (by decide) (by decide) (by simp only [List.map_cons, List.map_nil, hnd 1 _ rfl, hnd 2 _ rfl]) (hkp.cell h2) (hkp.cell h3) (h4.a.kp hkp) hS hp).mono fun e w' ⟨p, c, r1, r2, r3⟩ => ⟨p, c, ?_, ?_, r3⟩
 ·rw [show row2.name = ⟨#[97, 100, 97, 103, 114, 97, 100]⟩ from rfl, hb]; exact r1
 ·rw [show row2.name = ⟨#[97, 100, 97, 103, 114, 97, 100]⟩ from rfl, hb]; exact r2
theorem becA_scale_by_learning_rate (a : Int) (lst : List Nd) (hl : lst.length = 1) : becA ⟨#[115, 99, 97, 108, 101, 95, 98, 121, 95, 108, 101, 97, 114, 110, 105, 110, 103, 95, 114, 97, 116, 101]⟩ a lst = rateA a (ix lst 0) := by
 have h1 := drop1 hl 1
 have h3 := drop1 hl 3
 unfold becA
 rw [if_pos (sameB_iff.2 rfl)]
theorem beck_scale_by_learning_rate {w : World} {fv : Value} (h : FvOK w fv (allE[10]'(by decide)).2.2) : BecK w fv row14 := by
 refine ⟨64, #[], h, enters_of Tryz.func64 (by kernel_rfl) rfl, fun b n a nd S lst v hkp hl hnd hok hS hp => ?_⟩
 have hb := becA_scale_by_learning_rate a lst hl
 refine (bec_rate b n a nd S (ix lst 0) v (hnd 0 _ rfl) hok hS hp).mono fun e w' ⟨p, c, r1, r2, r3⟩ => ⟨p, c, ?_, ?_, r3⟩
 ·rw [show row14.name = ⟨#[115, 99, 97, 108, 101, 95, 98, 121, 95, 108, 101, 97, 114, 110, 105, 110, 103, 95, 114, 97, 116, 101]⟩ from rfl, hb, rate_made]; exact r1
 ·rw [show row14.name = ⟨#[115, 99, 97, 108, 101, 95, 98, 121, 95, 108, 101, 97, 114, 110, 105, 110, 103, 95, 114, 97, 116, 101]⟩ from rfl, hb, rate_made]; exact r2
theorem becA_adamw (a : Int) (lst : List Nd) (hl : lst.length = 7) : becA ⟨#[97, 100, 97, 109, 119]⟩ a lst = madeN a ⟨#[99, 104, 97, 105, 110]⟩ [madeN a ⟨#[115, 99, 97, 108, 101, 95, 98, 121, 95, 97, 100, 97, 109]⟩ [ix lst 1, ix lst 2, ix lst 3, ix lst 4], decA a (ix lst 6) (ix lst 5), rateA a (ix lst 0)] := by
 have h1 := drop1 hl 1
 have h3 := drop1 hl 3
 unfold becA
 rw [if_neg (sno (by decide)), if_neg (sno (by decide)), if_neg (sno (by decide)), if_neg (sno (by decide)), if_neg (sno (by decide)), if_neg (sno (by decide)), if_neg (sno (by decide)), if_neg (sno (by decide)), if_neg (sno (by decide)), if_neg (sno (by decide)), if_neg (sno (by decide)), if_neg (sno (by decide)), if_pos (sameB_iff.2 rfl)]
 simp only [h1, h3, placeN, placeL_cons, placeL_nil, numN, flagN, callA, madeN]
 first | done | rfl
theorem beck_adamw {w : World} {fv : Value} (h : FvOK w fv (allE[11]'(by decide)).2.2) : BecK w fv row5 := by
 refine ⟨67, #[], h, enters_of Tryz.func67 (by kernel_rfl) rfl, fun b n a nd S lst v hkp hl hnd hok hS hp => ?_⟩
 have hb := becA_adamw a lst hl
 refine (bec_adamw b n a nd S (ix lst 0) (ix lst 1) (ix lst 2) (ix lst 3) (ix lst 4) (ix lst 5) (ix lst 6) v (hnd 0 _ rfl) (hnd 1 _ rfl) (hnd 2 _ rfl) (hnd 3 _ rfl) (hnd 4 _ rfl) (hnd 5 _ rfl) (hnd 6 _ rfl) hok hS hp).mono fun e w' ⟨p, c, r1, r2, r3⟩ => ⟨p, c, ?_, ?_, r3⟩
 ·rw [show row5.name = ⟨#[97, 100, 97, 109, 119]⟩ from rfl, hb]; exact r1
 ·rw [show row5.name = ⟨#[97, 100, 97, 109, 119]⟩ from rfl, hb]; exact r2
theorem becA_agc (a : Int) (lst : List Nd) (hl : lst.length = 5) : becA ⟨#[97, 103, 99]⟩ a lst = madeN a ⟨#[99, 104, 97, 105, 110]⟩ [madeN a ⟨#[97, 100, 97, 112, 116, 105, 118, 101, 95, 103, 114, 97, 100, 95, 99, 108, 105, 112]⟩ [ix lst 1, ix lst 2], madeN a ⟨#[116, 114, 97, 99, 101]⟩ [ix lst 3, ix lst 4], rateA a (ix lst 0)] := by
 have h1 := drop1 hl 1
 have h3 := drop1 hl 3
 unfold becA
 rw [if_neg (sno (by decide)), if_neg (sno (by decide)), if_neg (sno (by decide)), if_neg (sno (by decide)), if_neg (sno (by decide)), if_neg (sno (by decide)), if_neg (sno (by decide)), if_neg (sno (by decide)), if_neg (sno (by decide)), if_neg (sno (by decide)), if_pos (sameB_iff.2 rfl)]
 simp only [h1, h3, placeN, placeL_cons, placeL_nil, numN, flagN, callA, madeN]
 first | done | rfl
theorem beck_agc {w : World} {fv : Value} (h : FvOK w fv (allE[12]'(by decide)).2.2) : BecK w fv row6 := by
 refine ⟨71, #[], h, enters_of Tryz.func71 (by kernel_rfl) rfl, fun b n a nd S lst v hkp hl hnd hok hS hp => ?_⟩
 have hb := becA_agc a lst hl
 refine (bec_agc b n a nd S (ix lst 0) (ix lst 1) (ix lst 2) (ix lst 3) (ix lst 4) v (hnd 0 _ rfl) (hnd 1 _ rfl) (hnd 2 _ rfl) (hnd 3 _ rfl) (hnd 4 _ rfl) hok hS hp).mono fun e w' ⟨p, c, r1, r2, r3⟩ => ⟨p, c, ?_, ?_, r3⟩
 ·rw [show row6.name = ⟨#[97, 103, 99]⟩ from rfl, hb]; exact r1
 ·rw [show row6.name = ⟨#[97, 103, 99]⟩ from rfl, hb]; exact r2
theorem becA_rmsprop (a : Int) (lst : List Nd) (hl : lst.length = 5) : becA ⟨#[114, 109, 115, 112, 114, 111, 112]⟩ a lst = madeN a ⟨#[99, 104, 97, 105, 110]⟩ [madeN a ⟨#[115, 99, 97, 108, 101, 95, 98, 121, 95, 114, 109, 115]⟩ [ix lst 1, ix lst 2, ix lst 3], rateA a (ix lst 0), madeN a ⟨#[116, 114, 97, 99, 101]⟩ [ix lst 4, (⟨4, ⟨#[102, 97, 108, 115, 101]⟩, 0, 0, ⟨#[]⟩, [], a⟩ : Nd)]] := by
 have h1 := drop1 hl 1
 have h3 := drop1 hl 3
 unfold becA
 rw [if_neg (sno (by decide)), if_neg (sno (by decide)), if_neg (sno (by decide)), if_neg (sno (by decide)), if_neg (sno (by decide)), if_neg (sno (by decide)), if_neg (sno (by decide)), if_neg (sno (by decide)), if_neg (sno (by decide)), if_neg (sno (by decide)), if_neg (sno (by decide)), if_neg (sno (by decide)), if_neg (sno (by decide)), if_pos (sameB_iff.2 rfl)]
 simp only [h1, h3, placeN, placeL_cons, placeL_nil, numN, flagN, callA, madeN]
 first | done | rfl
theorem beck_rmsprop {w : World} {fv : Value} (h : FvOK w fv (allE[13]'(by decide)).2.2) : BecK w fv row13 := by
 refine ⟨72, #[], h, enters_of Tryz.func72 (by kernel_rfl) rfl, fun b n a nd S lst v hkp hl hnd hok hS hp => ?_⟩
 have hb := becA_rmsprop a lst hl
 refine (bec_rmsprop b n a nd S (ix lst 0) (ix lst 1) (ix lst 2) (ix lst 3) (ix lst 4) v (hnd 0 _ rfl) (hnd 1 _ rfl) (hnd 2 _ rfl) (hnd 3 _ rfl) (hnd 4 _ rfl) hok hS hp).mono fun e w' ⟨p, c, r1, r2, r3⟩ => ⟨p, c, ?_, ?_, r3⟩
 ·rw [show row13.name = ⟨#[114, 109, 115, 112, 114, 111, 112]⟩ from rfl, hb]; exact r1
 ·rw [show row13.name = ⟨#[114, 109, 115, 112, 114, 111, 112]⟩ from rfl, hb]; exact r2
theorem becA_lion (a : Int) (lst : List Nd) (hl : lst.length = 5) : becA ⟨#[108, 105, 111, 110]⟩ a lst = madeN a ⟨#[99, 104, 97, 105, 110]⟩ [madeN a ⟨#[115, 99, 97, 108, 101, 95, 98, 121, 95, 108, 105, 111, 110]⟩ [ix lst 1, ix lst 2], decA a (ix lst 4) (ix lst 3), rateA a (ix lst 0)] := by
 have h1 := drop1 hl 1
 have h3 := drop1 hl 3
 unfold becA
 rw [if_neg (sno (by decide)), if_neg (sno (by decide)), if_neg (sno (by decide)), if_neg (sno (by decide)), if_neg (sno (by decide)), if_neg (sno (by decide)), if_neg (sno (by decide)), if_neg (sno (by decide)), if_neg (sno (by decide)), if_neg (sno (by decide)), if_neg (sno (by decide)), if_neg (sno (by decide)), if_neg (sno (by decide)), if_neg (sno (by decide)), if_pos (sameB_iff.2 rfl)]
 simp only [h1, h3, placeN, placeL_cons, placeL_nil, numN, flagN, callA, madeN]
 first | done | rfl
theorem beck_lion {w : World} {fv : Value} (h : FvOK w fv (allE[14]'(by decide)).2.2) : BecK w fv row10 := by
 refine ⟨75, #[], h, enters_of Tryz.func75 (by kernel_rfl) rfl, fun b n a nd S lst v hkp hl hnd hok hS hp => ?_⟩
 have hb := becA_lion a lst hl
 refine (bec_lion b n a nd S (ix lst 0) (ix lst 1) (ix lst 2) (ix lst 3) (ix lst 4) v (hnd 0 _ rfl) (hnd 1 _ rfl) (hnd 2 _ rfl) (hnd 3 _ rfl) (hnd 4 _ rfl) hok hS hp).mono fun e w' ⟨p, c, r1, r2, r3⟩ => ⟨p, c, ?_, ?_, r3⟩
 ·rw [show row10.name = ⟨#[108, 105, 111, 110]⟩ from rfl, hb]; exact r1
 ·rw [show row10.name = ⟨#[108, 105, 111, 110]⟩ from rfl, hb]; exact r2
theorem becA_lamb (a : Int) (lst : List Nd) (hl : lst.length = 7) : becA ⟨#[108, 97, 109, 98]⟩ a lst = madeN a ⟨#[99, 104, 97, 105, 110]⟩ [madeN a ⟨#[115, 99, 97, 108, 101, 95, 98, 121, 95, 97, 100, 97, 109]⟩ [ix lst 1, ix lst 2, ix lst 3, ix lst 4], decA a (ix lst 6) (ix lst 5), madeN a ⟨#[115, 99, 97, 108, 101, 95, 98, 121, 95, 116, 114, 117, 115, 116, 95, 114, 97, 116, 105, 111]⟩ [(⟨2, ⟨#[]⟩, 0, 0, ⟨#[]⟩, [], a⟩ : Nd), (⟨2, ⟨#[]⟩, 1065353216, 0, ⟨#[]⟩, [], a⟩ : Nd), (⟨2, ⟨#[]⟩, 0, 0, ⟨#[]⟩, [], a⟩ : Nd)], rateA a (ix lst 0)] := by
 have h1 := drop1 hl 1
 have h3 := drop1 hl 3
 unfold becA
 rw [if_neg (sno (by decide)), if_neg (sno (by decide)), if_neg (sno (by decide)), if_neg (sno (by decide)), if_neg (sno (by decide)), if_neg (sno (by decide)), if_neg (sno (by decide)), if_neg (sno (by decide)), if_neg (sno (by decide)), if_neg (sno (by decide)), if_neg (sno (by decide)), if_neg (sno (by decide)), if_neg (sno (by decide)), if_neg (sno (by decide)), if_neg (sno (by decide)), if_pos (sameB_iff.2 rfl)]
 simp only [h1, h3, placeN, placeL_cons, placeL_nil, numN, flagN, callA, madeN]
 first | done | rfl
theorem beck_lamb {w : World} {fv : Value} (h : FvOK w fv (allE[15]'(by decide)).2.2) : BecK w fv row8 := by
 refine ⟨76, #[], h, enters_of Tryz.func76 (by kernel_rfl) rfl, fun b n a nd S lst v hkp hl hnd hok hS hp => ?_⟩
 have hb := becA_lamb a lst hl
 refine (bec_lamb b n a nd S (ix lst 0) (ix lst 1) (ix lst 2) (ix lst 3) (ix lst 4) (ix lst 5) (ix lst 6) v (hnd 0 _ rfl) (hnd 1 _ rfl) (hnd 2 _ rfl) (hnd 3 _ rfl) (hnd 4 _ rfl) (hnd 5 _ rfl) (hnd 6 _ rfl) hok hS hp).mono fun e w' ⟨p, c, r1, r2, r3⟩ => ⟨p, c, ?_, ?_, r3⟩
 ·rw [show row8.name = ⟨#[108, 97, 109, 98]⟩ from rfl, hb]; exact r1
 ·rw [show row8.name = ⟨#[108, 97, 109, 98]⟩ from rfl, hb]; exact r2
theorem becA_lars (a : Int) (lst : List Nd) (hl : lst.length = 6) : becA ⟨#[108, 97, 114, 115]⟩ a lst = madeN a ⟨#[99, 104, 97, 105, 110]⟩ [madeN a ⟨#[97, 100, 100, 95, 100, 101, 99, 97, 121, 101, 100, 95, 119, 101, 105, 103, 104, 116, 115]⟩ [ix lst 1], madeN a ⟨#[115, 99, 97, 108, 101, 95, 98, 121, 95, 116, 114, 117, 115, 116, 95, 114, 97, 116, 105, 111]⟩ [(⟨2, ⟨#[]⟩, 0, 0, ⟨#[]⟩, [], a⟩ : Nd), ix lst 2, ix lst 3], rateA a (ix lst 0), madeN a ⟨#[116, 114, 97, 99, 101]⟩ [ix lst 4, ix lst 5]] := by
 have h1 := drop1 hl 1
 have h3 := drop1 hl 3
 unfold becA
 rw [if_neg (sno (by decide)), if_neg (sno (by decide)), if_neg (sno (by decide)), if_neg (sno (by decide)), if_neg (sno (by decide)), if_neg (sno (by decide)), if_neg (sno (by decide)), if_neg (sno (by decide)), if_neg (sno (by decide)), if_neg (sno (by decide)), if_neg (sno (by decide)), if_neg (sno (by decide)), if_neg (sno (by decide)), if_neg (sno (by decide)), if_neg (sno (by decide)), if_neg (sno (by decide))]
 simp only [h1, h3, placeN, placeL_cons, placeL_nil, numN, flagN, callA, madeN]
 first | done | rfl
theorem beck_lars {w : World} {fv : Value} (h : FvOK w fv (allE[16]'(by decide)).2.2) : BecK w fv row9 := by
 refine ⟨78, #[], h, enters_of Tryz.func78 (by kernel_rfl) rfl, fun b n a nd S lst v hkp hl hnd hok hS hp => ?_⟩
 have hb := becA_lars a lst hl
 refine (bec_lars b n a nd S (ix lst 0) (ix lst 1) (ix lst 2) (ix lst 3) (ix lst 4) (ix lst 5) v (hnd 0 _ rfl) (hnd 1 _ rfl) (hnd 2 _ rfl) (hnd 3 _ rfl) (hnd 4 _ rfl) (hnd 5 _ rfl) hok hS hp).mono fun e w' ⟨p, c, r1, r2, r3⟩ => ⟨p, c, ?_, ?_, r3⟩
 ·rw [show row9.name = ⟨#[108, 97, 114, 115]⟩ from rfl, hb]; exact r1
 ·rw [show row9.name = ⟨#[108, 97, 114, 115]⟩ from rfl, hb]; exact r2
theorem bec_all {p : Rw × Rent} (hp : p ∈ orderA.zip allE) {w : World} {fv : Value} (h : FvOK w fv p.2.2.2) : BecK w fv p.1 := by
 rcases zip_at hp with rfl | rfl | rfl | rfl | rfl | rfl | rfl | rfl | rfl | rfl | rfl | rfl | rfl | rfl | rfl | rfl | rfl
 ·exact beck_sgd h
 ·exact beck_adam h
 ·exact beck_amsgrad h
 ·exact beck_adabelief h
 ·exact beck_yogi h
 ·exact beck_adadelta h
 ·exact beck_adamax h
 ·exact beck_novograd h
 ·exact beck_optimistic h
 ·exact beck_adagrad h
 ·exact beck_scale_by_learning_rate h
 ·exact beck_adamw h
 ·exact beck_agc h
 ·exact beck_rmsprop h
 ·exact beck_lion h
 ·exact beck_lamb h
 ·exact beck_lars h
end Go.Proofs.YtmiidhgbdecdkaaGreat
