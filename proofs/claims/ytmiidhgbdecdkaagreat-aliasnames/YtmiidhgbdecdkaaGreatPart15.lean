import Derived.Test.YtmiidhgbdecdkaaGreatPart13
namespace Go.Proofs.YtmiidhgbdecdkaaGreat
open Go.RowKit
set_option linter.unusedVariables false
set_option linter.unusedSimpArgs false
set_option maxRecDepth 100000 in
set_option maxHeartbeats 4000000 in
theorem bec_lamb (b n : Nat) (a : Int) (nd : ByteArray → Option Nd) (S : Blk) (x_rate : Nd) (x_b1 : Nd) (x_b2 : Nd) (x_eps : Nd) (x_eps_root : Nd) (x_weight_decay : Nd) (x_mask : Nd) (w : World) (h_rate : nd ⟨#[114, 97, 116, 101]⟩ = some x_rate) (h_b1 : nd ⟨#[98, 49]⟩ = some x_b1) (h_b2 : nd ⟨#[98, 50]⟩ = some x_b2) (h_eps : nd ⟨#[101, 112, 115]⟩ = some x_eps) (h_eps_root : nd ⟨#[101, 112, 115, 95, 114, 111, 111, 116]⟩ = some x_eps_root) (h_weight_decay : nd ⟨#[119, 101, 105, 103, 104, 116, 95, 100, 101, 99, 97, 121]⟩ = some x_weight_decay) (h_mask : nd ⟨#[109, 97, 115, 107]⟩ = some x_mask) (hok : okR x_rate) (hS : ∀ j, S j → j < w.heap.size) (hp : PM w b n nd S) :
  Calls Tryz.prog 76 #[.agg #[.map (some b), .int .i64 a]] w fun e w' => ∃ p c, e = .returned (.agg #[.int .i64 1, .string ⟨#[99, 104, 97, 105, 110]⟩, .int .u32 0, .int .i64 0, .string ⟨#[]⟩, .slice p 4 c, .int .i64 a]) ∧ Kids w' (inH (fun j => S j ∨ w.heap.size + 1 < j)) (.slice p 4 c) [madeN a ⟨#[115, 99, 97, 108, 101, 95, 98, 121, 95, 97, 100, 97, 109]⟩ [x_b1, x_b2, x_eps, x_eps_root], madeN a ⟨#[109, 97, 115, 107, 101, 100]⟩ [x_mask, madeN a ⟨#[97, 100, 100, 95, 100, 101, 99, 97, 121, 101, 100, 95, 119, 101, 105, 103, 104, 116, 115]⟩ [x_weight_decay]], madeN a ⟨#[115, 99, 97, 108, 101, 95, 98, 121, 95, 116, 114, 117, 115, 116, 95, 114, 97, 116, 105, 111]⟩ [(⟨2, ⟨#[]⟩, 0, 0, ⟨#[]⟩, [], a⟩ : Nd), (⟨2, ⟨#[]⟩, 1065353216, 0, ⟨#[]⟩, [], a⟩ : Nd), (⟨2, ⟨#[]⟩, 0, 0, ⟨#[]⟩, [], a⟩ : Nd)], rateA a x_rate] ∧ Below w.heap.size w w' := by
 have HK_x_rate : Hid (nd ⟨#[114, 97, 116, 101]⟩ = some x_rate) := h_rate
 have HK_x_b1 : Hid (nd ⟨#[98, 49]⟩ = some x_b1) := h_b1
 have HK_x_b2 : Hid (nd ⟨#[98, 50]⟩ = some x_b2) := h_b2
 have HK_x_eps : Hid (nd ⟨#[101, 112, 115]⟩ = some x_eps) := h_eps
 have HK_x_eps_root : Hid (nd ⟨#[101, 112, 115, 95, 114, 111, 111, 116]⟩ = some x_eps_root) := h_eps_root
 have HK_x_weight_decay : Hid (nd ⟨#[119, 101, 105, 103, 104, 116, 95, 100, 101, 99, 97, 121]⟩ = some x_weight_decay) := h_weight_decay
 have HK_x_mask : Hid (nd ⟨#[109, 97, 115, 107]⟩ = some x_mask) := h_mask
 obtain ⟨rnm, hrn⟩ : ∃ x, rnmA x_rate = x := ⟨_, rfl⟩
 obtain ⟨rl, hrl⟩ : ∃ x, rlA a x_rate = x := ⟨_, rfl⟩
 rw [rate_made, hrn, hrl]
 obtain ⟨W, hW, hT⟩ := TwoB.start w b a
 have HTW : Hid (TwoB w b a W) := hT
 have HSZ : Hid (w.heap.size + 2 ≤ W.heap.size) := hlt hT.2.2
 have HPM : Hid (PM W b n nd S) := hp.below hT.1
 have HSB : Hid (∀ j, (j = b ∨ S j) → j < W.heap.size ∧ j ≠ w.heap.size + 1) := fun j hj => by
  have h1 := HSZ.out
  rcases hj with rfl | hj
  ·obtain ⟨f, h, _⟩ := hp; have := h.lt; omega
  ·have := hS j hj; omega
 obtain ⟨⟨g0, g1⟩, -⟩ := twoC hT.2.1
 have HBz : Hid (Below W.heap.size W W) := Below.refl _ _
 clear hT
 have HRN : Hid (rnmA x_rate = rnm ∧ rlA a x_rate = rl ∧ okR x_rate) := ⟨hrn, hrl, hok⟩
 have HCA2 : Hid (∀ (x : World), Calls Tryz.prog 77 #[.agg #[.map (some b), .int .i64 a], .int .u32 0] x fun e w' => e = .returned (.agg #[.int .i64 2, .string ⟨#[]⟩, .int .u32 0, .int .i64 0, .string ⟨#[]⟩, .slice none 0 0, .int .i64 a]) ∧ Below x.heap.size x w') := fun x => pnumber_any b a 0 x
 have HCA4 : Hid (∀ (x : World), Calls Tryz.prog 77 #[.agg #[.map (some b), .int .i64 a], .int .u32 1065353216] x fun e w' => e = .returned (.agg #[.int .i64 2, .string ⟨#[]⟩, .int .u32 1065353216, .int .i64 0, .string ⟨#[]⟩, .slice none 0 0, .int .i64 a]) ∧ Below x.heap.size x w') := fun x => pnumber_any b a 1065353216 x
 have HCA6 : Hid (∀ (x : World), Calls Tryz.prog 77 #[.agg #[.map (some b), .int .i64 a], .int .u32 0] x fun e w' => e = .returned (.agg #[.int .i64 2, .string ⟨#[]⟩, .int .u32 0, .int .i64 0, .string ⟨#[]⟩, .slice none 0 0, .int .i64 a]) ∧ Below x.heap.size x w') := fun x => pnumber_any b a 0 x
 have HCA8 : Hid (∀ (q : Option Addr) (m c : Nat) (x : World), Calls Tryz.prog 73 #[.agg #[.map (some b), .int .i64 a], .string ⟨#[115, 99, 97, 108, 101, 95, 98, 121, 95, 116, 114, 117, 115, 116, 95, 114, 97, 116, 105, 111]⟩, .slice q m c] x fun e w' => e = .returned (.agg #[.int .i64 1, .string ⟨#[115, 99, 97, 108, 101, 95, 98, 121, 95, 116, 114, 117, 115, 116, 95, 114, 97, 116, 105, 111]⟩, .int .u32 0, .int .i64 0, .string ⟨#[]⟩, .slice q m c, .int .i64 a]) ∧ Below x.heap.size x w') := fun q m c x => pcall_any b a ⟨#[115, 99, 97, 108, 101, 95, 98, 121, 95, 116, 114, 117, 115, 116, 95, 114, 97, 116, 105, 111]⟩ q m c x
 clear h_rate h_b1 h_b2 h_eps h_eps_root h_weight_decay h_mask hp hS hok hrn hrl
 go_enter Tryz.func76, Tryz.ntmps76
 go_upto_region 1 with fail
 go_cut [3] (fun gv wx => ∃ O GG, gv = .pointer (some ⟨O, 0, none⟩) ∧ Hid (Below W.heap.size W wx ∧ W.heap.size ≤ O ∧ wx.heap[O]? = some (.cells #[.int .i64 1, .string ⟨#[115, 99, 97, 108, 101, 95, 98, 121, 95, 116, 114, 117, 115, 116, 95, 114, 97, 116, 105, 111]⟩, .int .u32 0, .int .i64 0, .string ⟨#[]⟩, .slice (some ⟨GG, 0, none⟩) 3 3, .int .i64 a] 29) ∧ Kids wx (inH (fun j => S j ∨ w.heap.size + 1 < j)) (.slice (some ⟨GG, 0, none⟩) 3 3) [(⟨2, ⟨#[]⟩, 0, 0, ⟨#[]⟩, [], a⟩ : Nd), (⟨2, ⟨#[]⟩, 1065353216, 0, ⟨#[]⟩, [], a⟩ : Nd), (⟨2, ⟨#[]⟩, 0, 0, ⟨#[]⟩, [], a⟩ : Nd)]))
 case first =>
  refine wp_region_held_drew (S := (fun x => ∀ j, j < W.heap.size → j ≠ w.heap.size + 1 → x.heap[j]? = W.heap[j]?)) (by kernel_rfl) ?_ (fun hHeld => ?_)
  ·((try dsimp only); first | exact HSE.out | exact fun j h1 _ => HBz.out.block j h1 | exact fun j _ _ => rfl)
  refine wpAnyH_take (i := 0) (v := ?_) (by simp only [List.getElem?_toArray, List.getElem?_cons_succ, List.getElem?_cons_zero]; rfl) (by kernel_rfl) (by kernel_rfl) (by kernel_rfl) (by exact fun _ _ _ h => h) (Or.inl ⟨by rfl, ?_⟩) (by assumption) ?_
  rotate_left 1
  ·(intro wS hSw; have hSb : ∀ j, j < W.heap.size → j ≠ w.heap.size + 1 → wS.heap[j]? = W.heap[j]? := hSw; clear hSw; have zp := (cell_to hSb (by simp) g0); have zq := (cell_to hSb (by simp) g1); go_simp; try (with_reducible rfl))
  try simp only [Act.put, List.setIfInBounds_toArray, List.set_cons_zero, List.set_cons_succ]
  refine wpAnyH_take (i := 1) (v := ?_) (by simp only [List.getElem?_toArray, List.getElem?_cons_succ, List.getElem?_cons_zero]; rfl) (by kernel_rfl) (by kernel_rfl) (by kernel_rfl) (by exact fun _ _ _ h => h) (Or.inl ⟨by rfl, ?_⟩) (by assumption) ?_
  rotate_left 1
  ·(intro wS hSw; have hSb : ∀ j, j < W.heap.size → j ≠ w.heap.size + 1 → wS.heap[j]? = W.heap[j]? := hSw; clear hSw; have zp := (cell_to hSb (by simp) g0); have zq := (cell_to hSb (by simp) g1); go_simp; try (with_reducible rfl))
  try simp only [Act.put, List.setIfInBounds_toArray, List.set_cons_zero, List.set_cons_succ]
  refine wpAnyH_take (i := 3) (v := ?_) (by simp only [List.getElem?_toArray, List.getElem?_cons_succ, List.getElem?_cons_zero]; rfl) (by kernel_rfl) (by kernel_rfl) (by kernel_rfl) (by exact fun _ _ _ h => h) (Or.inl ⟨by rfl, ?_⟩) (by assumption) ?_
  rotate_left 1
  ·(intro wS hSw; have hSb : ∀ j, j < W.heap.size → j ≠ w.heap.size + 1 → wS.heap[j]? = W.heap[j]? := hSw; clear hSw; have zp := (cell_to hSb (by simp) g0); have zq := (cell_to hSb (by simp) g1); go_simp; try (with_reducible rfl))
  try simp only [Act.put, List.setIfInBounds_toArray, List.set_cons_zero, List.set_cons_succ]
  refine wpAnyH_take (i := 5) (v := ?_) (by simp only [List.getElem?_toArray, List.getElem?_cons_succ, List.getElem?_cons_zero]; rfl) (by kernel_rfl) (by kernel_rfl) (by kernel_rfl) (by exact fun _ _ _ h => h) (Or.inl ⟨by rfl, ?_⟩) (by assumption) ?_
  rotate_left 1
  ·(intro wS hSw; have hSb : ∀ j, j < W.heap.size → j ≠ w.heap.size + 1 → wS.heap[j]? = W.heap[j]? := hSw; clear hSw; have zp := (cell_to hSb (by simp) g0); have zq := (cell_to hSb (by simp) g1); go_simp; try (with_reducible rfl))
  try simp only [Act.put, List.setIfInBounds_toArray, List.set_cons_zero, List.set_cons_succ]
  clear hHeld
  refine wpAnyH_ready (rs := [2, 9]) (by kernel_rfl) (by simp) ?_
  refine AllReadyH.cons (i := 2) (by simp only [List.getElem?_toArray, List.getElem?_cons_succ, List.getElem?_cons_zero]; rfl) (fun K hK => ?_) ?_
  ·go_simp
   (go_at_call 77; (with_reducible refine (HCA2.out _).mono ?_); rintro e v2 ⟨rfl, hb2⟩; have HBz : Hid (Below W.heap.size W v2) := bel (bel HBz.out (bel_d _)) hb2; clear hb2)
   try (go_wp2_with fail)
   refine hK.out _ _ ?_ (fun hHeld => ?_)
   ·((try dsimp only); first | exact HSE.out | exact fun j h1 _ => HBz.out.block j h1 | exact fun j _ _ => rfl)
   clear hK K
   try simp only [Act.put, List.setIfInBounds_toArray, List.set_cons_zero, List.set_cons_succ]
   clear hHeld
   refine wpAnyH_ready (rs := [4, 9]) (by kernel_rfl) (by simp) ?_
   refine AllReadyH.cons (i := 4) (by simp only [List.getElem?_toArray, List.getElem?_cons_succ, List.getElem?_cons_zero]; rfl) (fun K hK => ?_) ?_
   ·go_simp
    (go_at_call 77; (with_reducible refine (HCA4.out _).mono ?_); rintro e v4 ⟨rfl, hb4⟩; have HBz : Hid (Below W.heap.size W v4) := bel HBz.out hb4; clear hb4)
    try (go_wp2_with fail)
    refine hK.out _ _ ?_ (fun hHeld => ?_)
    ·((try dsimp only); first | exact HSE.out | exact fun j h1 _ => HBz.out.block j h1 | exact fun j _ _ => rfl)
    clear hK K
    try simp only [Act.put, List.setIfInBounds_toArray, List.set_cons_zero, List.set_cons_succ]
    clear hHeld
    refine wpAnyH_ready (rs := [6, 9]) (by kernel_rfl) (by simp) ?_
    refine AllReadyH.cons (i := 6) (by simp only [List.getElem?_toArray, List.getElem?_cons_succ, List.getElem?_cons_zero]; rfl) (fun K hK => ?_) ?_
    ·go_simp
     (go_at_call 77; (with_reducible refine (HCA6.out _).mono ?_); rintro e v6 ⟨rfl, hb6⟩; have HBz : Hid (Below W.heap.size W v6) := bel HBz.out hb6; clear hb6)
     try (go_wp2_with fail)
     refine hK.out _ _ ?_ (fun hHeld => ?_)
     ·((try dsimp only); first | exact HSE.out | exact fun j h1 _ => HBz.out.block j h1 | exact fun j _ _ => rfl)
     clear hK K
     try simp only [Act.put, List.setIfInBounds_toArray, List.set_cons_zero, List.set_cons_succ]
     clear hHeld
     refine wpAnyH_ready (rs := [7, 9]) (by kernel_rfl) (by simp) ?_
     refine AllReadyH.cons (i := 7) (by simp only [List.getElem?_toArray, List.getElem?_cons_succ, List.getElem?_cons_zero]; rfl) (fun K hK => ?_) ?_
     ·go_simp
      obtain ⟨G7, hG7⟩ : ∃ G, v6.heap.size = G := ⟨_, rfl⟩
      obtain ⟨v7, hv7⟩ : ∃ V, v6.alloc (.cells #[.int .i64 2, .string ⟨#[]⟩, .int .u32 0, .int .i64 0, .string ⟨#[]⟩, .slice none 0 0, .int .i64 a, .int .i64 2, .string ⟨#[]⟩, .int .u32 1065353216, .int .i64 0, .string ⟨#[]⟩, .slice none 0 0, .int .i64 a, .int .i64 2, .string ⟨#[]⟩, .int .u32 0, .int .i64 0, .string ⟨#[]⟩, .slice none 0 0, .int .i64 a] 29) = V := ⟨_, rfl⟩
      have hb7 : Below v6.heap.size v6 v7 := by rw [← hv7]; exact bel_alloc _ _
      have HR7 : Hid (v7.heap[G7]? = some (.cells #[.int .i64 2, .string ⟨#[]⟩, .int .u32 0, .int .i64 0, .string ⟨#[]⟩, .slice none 0 0, .int .i64 a, .int .i64 2, .string ⟨#[]⟩, .int .u32 1065353216, .int .i64 0, .string ⟨#[]⟩, .slice none 0 0, .int .i64 a, .int .i64 2, .string ⟨#[]⟩, .int .u32 0, .int .i64 0, .string ⟨#[]⟩, .slice none 0 0, .int .i64 a] 29)) := by show _ = _; rw [← hv7, ← hG7]; exact box_heapA v6 _
      have HGB7 : Hid (W.heap.size ≤ G7) := by show _ ≤ _; rw [← hG7]; exact HBz.out.size
      have HBz : Hid (Below W.heap.size W v7) := bel HBz.out hb7
      rw [hv7, hG7]
      clear hv7 hG7 hb7
      refine hK.out _ _ ?_ (fun hHeld => ?_)
      ·((try dsimp only); first | exact HSE.out | exact fun j h1 _ => HBz.out.block j h1 | exact fun j _ _ => rfl)
      clear hK K
      try simp only [Act.put, List.setIfInBounds_toArray, List.set_cons_zero, List.set_cons_succ]
      clear hHeld
      refine wpAnyH_ready (rs := [8, 9]) (by kernel_rfl) (by simp) ?_
      refine AllReadyH.cons (i := 8) (by simp only [List.getElem?_toArray, List.getElem?_cons_succ, List.getElem?_cons_zero]; rfl) (fun K hK => ?_) ?_
      ·go_simp
       (go_at_call 73; (with_reducible refine (HCA8.out _ _ _ _).mono ?_); rintro e v8 ⟨rfl, hb8⟩; have HR7 : Hid (v8.heap[G7]? = some (.cells #[.int .i64 2, .string ⟨#[]⟩, .int .u32 0, .int .i64 0, .string ⟨#[]⟩, .slice none 0 0, .int .i64 a, .int .i64 2, .string ⟨#[]⟩, .int .u32 1065353216, .int .i64 0, .string ⟨#[]⟩, .slice none 0 0, .int .i64 a, .int .i64 2, .string ⟨#[]⟩, .int .u32 0, .int .i64 0, .string ⟨#[]⟩, .slice none 0 0, .int .i64 a] 29)) := (hb8.block _ (hlt HR7.out)).trans HR7.out; have HBz : Hid (Below W.heap.size W v8) := bel HBz.out hb8; clear hb8)
       try (go_wp2_with fail)
       refine hK.out _ _ ?_ (fun hHeld => ?_)
       ·((try dsimp only); first | exact HSE.out | exact fun j h1 _ => HBz.out.block j h1 | exact fun j _ _ => rfl)
       clear hK K
       try simp only [Act.put, List.setIfInBounds_toArray, List.set_cons_zero, List.set_cons_succ]
       clear hHeld
       refine wpAnyH_ready (rs := [9]) (by kernel_rfl) (by simp) ?_
       refine AllReadyH.cons (i := 9) (by simp only [List.getElem?_toArray, List.getElem?_cons_succ, List.getElem?_cons_zero]; rfl) (fun K hK => ?_) AllReadyH.nil
       go_simp
       obtain ⟨O9, hO9⟩ : ∃ O, v8.heap.size = O := ⟨_, rfl⟩
       obtain ⟨v9, hv9⟩ : ∃ V, v8.alloc (.cells #[.int .i64 0, .string ⟨#[]⟩, .int .u32 0, .int .i64 0, .string ⟨#[]⟩, .slice none 0 0, .int .i64 0] 29) = V := ⟨_, rfl⟩
       have hb9 : Below v8.heap.size v8 v9 := by rw [← hv9]; exact bel_alloc _ _
       have HO9 : Hid (v9.heap[O9]? = some (.cells #[.int .i64 0, .string ⟨#[]⟩, .int .u32 0, .int .i64 0, .string ⟨#[]⟩, .slice none 0 0, .int .i64 0] 29)) := by show _ = _; rw [← hv9, ← hO9]; exact box_heapA v8 _
       have HOB9 : Hid (W.heap.size ≤ O9) := by show _ ≤ _; rw [← hO9]; exact HBz.out.size
       have HR7 : Hid (v9.heap[G7]? = some (.cells #[.int .i64 2, .string ⟨#[]⟩, .int .u32 0, .int .i64 0, .string ⟨#[]⟩, .slice none 0 0, .int .i64 a, .int .i64 2, .string ⟨#[]⟩, .int .u32 1065353216, .int .i64 0, .string ⟨#[]⟩, .slice none 0 0, .int .i64 a, .int .i64 2, .string ⟨#[]⟩, .int .u32 0, .int .i64 0, .string ⟨#[]⟩, .slice none 0 0, .int .i64 a] 29)) := (hb9.block _ (hlt HR7.out)).trans HR7.out
       have HBz : Hid (Below W.heap.size W v9) := bel HBz.out hb9
       rw [hv9, hO9]
       clear hv9 hO9 hb9
       refine hK.out _ _ ?_ (fun hHeld => ?_)
       ·((try dsimp only); first | exact HSE.out | exact fun j h1 _ => HBz.out.block j h1 | exact fun j _ _ => rfl)
       clear hK K
       try simp only [Act.put, List.setIfInBounds_toArray, List.set_cons_zero, List.set_cons_succ]
       clear hHeld
       refine wpAnyH_ready (rs := [10]) (by kernel_rfl) (by simp) ?_
       refine AllReadyH.cons (i := 10) (by simp only [List.getElem?_toArray, List.getElem?_cons_succ, List.getElem?_cons_zero]; rfl) (fun K hK => ?_) AllReadyH.nil
       obtain ⟨⟨s0, s1, s2, s3, s4, s5, s6⟩, r0, r1, r2, r3, r4, r5, r6⟩ := sevenA HO9.out
       go_simp
       have hoff := offS_seven v9 O9 (.int .i64 1) (.string ⟨#[115, 99, 97, 108, 101, 95, 98, 121, 95, 116, 114, 117, 115, 116, 95, 114, 97, 116, 105, 111]⟩) (.int .u32 0) (.int .i64 0) (.string ⟨#[]⟩) (.slice (some ⟨G7, 0, none⟩) 3 3) (.int .i64 a)
       have hosz := size_sevenS v9 O9 (.int .i64 1) (.string ⟨#[115, 99, 97, 108, 101, 95, 98, 121, 95, 116, 114, 117, 115, 116, 95, 114, 97, 116, 105, 111]⟩) (.int .u32 0) (.int .i64 0) (.string ⟨#[]⟩) (.slice (some ⟨G7, 0, none⟩) 3 3) (.int .i64 a)
       have hsv := put_sevenA HO9.out (.int .i64 1) (.string ⟨#[115, 99, 97, 108, 101, 95, 98, 121, 95, 116, 114, 117, 115, 116, 95, 114, 97, 116, 105, 111]⟩) (.int .u32 0) (.int .i64 0) (.string ⟨#[]⟩) (.slice (some ⟨G7, 0, none⟩) 3 3) (.int .i64 a)
       have HSzz : Hid (∀ j, j < W.heap.size → j ≠ w.heap.size + 1 → ((((((((v9.setCell ⟨O9, 0, none⟩ (.int .i64 1)).setCell ⟨O9, 1, none⟩ (.string ⟨#[115, 99, 97, 108, 101, 95, 98, 121, 95, 116, 114, 117, 115, 116, 95, 114, 97, 116, 105, 111]⟩)).setCell ⟨O9, 2, none⟩ (.int .u32 0)).setCell ⟨O9, 3, none⟩ (.int .i64 0)).setCell ⟨O9, 4, none⟩ (.string ⟨#[]⟩)).setCell ⟨O9, 5, none⟩ (.slice (some ⟨G7, 0, none⟩) 3 3)).setCell ⟨O9, 6, none⟩ (.int .i64 a))).heap[j]? = W.heap[j]?) := fun j h1 h2 => (hoff.sameSize hosz (by show ¬ j = O9; have := HOB9.out; omega)).trans (HBz.out.block j h1)
       have hbE : Below W.heap.size W ((((((((v9.setCell ⟨O9, 0, none⟩ (.int .i64 1)).setCell ⟨O9, 1, none⟩ (.string ⟨#[115, 99, 97, 108, 101, 95, 98, 121, 95, 116, 114, 117, 115, 116, 95, 114, 97, 116, 105, 111]⟩)).setCell ⟨O9, 2, none⟩ (.int .u32 0)).setCell ⟨O9, 3, none⟩ (.int .i64 0)).setCell ⟨O9, 4, none⟩ (.string ⟨#[]⟩)).setCell ⟨O9, 5, none⟩ (.slice (some ⟨G7, 0, none⟩) 3 3)).setCell ⟨O9, 6, none⟩ (.int .i64 a))) := hoff.below HBz.out (fun j hj => by have := HBz.out.size; omega) (fun j hj e => by have e : j = O9 := e; have := HOB9.out; omega)
       have hrE := (hoff.sameSize hosz (x := G7) (by intro e; have e : G7 = O9 := e; have h1 := HR7.out; rw [e, HO9.out] at h1; simp at h1)).trans HR7.out
       obtain ⟨vE, hvE⟩ : ∃ V, (((((((v9.setCell ⟨O9, 0, none⟩ (.int .i64 1)).setCell ⟨O9, 1, none⟩ (.string ⟨#[115, 99, 97, 108, 101, 95, 98, 121, 95, 116, 114, 117, 115, 116, 95, 114, 97, 116, 105, 111]⟩)).setCell ⟨O9, 2, none⟩ (.int .u32 0)).setCell ⟨O9, 3, none⟩ (.int .i64 0)).setCell ⟨O9, 4, none⟩ (.string ⟨#[]⟩)).setCell ⟨O9, 5, none⟩ (.slice (some ⟨G7, 0, none⟩) 3 3)).setCell ⟨O9, 6, none⟩ (.int .i64 a)) = V := ⟨_, rfl⟩
       rw [hvE] at hsv HSzz hbE hrE
       try rw [hvE]
       have HSE := HSzz
       have hkE := kids_at (w := vE) (S := (fun j => S j ∨ w.heap.size + 1 < j)) (R := [((⟨2, ⟨#[]⟩, 0, 0, ⟨#[]⟩, [], a⟩ : Nd), .slice none 0 0), ((⟨2, ⟨#[]⟩, 1065353216, 0, ⟨#[]⟩, [], a⟩ : Nd), .slice none 0 0), ((⟨2, ⟨#[]⟩, 0, 0, ⟨#[]⟩, [], a⟩ : Nd), .slice none 0 0)]) hrE rfl (List.forall_mem_cons.2 ⟨(kids_none _ _), List.forall_mem_cons.2 ⟨(kids_none _ _), List.forall_mem_cons.2 ⟨(kids_none _ _), fun r h => by cases h⟩⟩⟩) (.inr (by have := HGB7.out; have := HSZ.out; omega)) (by simp)
       have HEND : Hid (Below W.heap.size W vE ∧ W.heap.size ≤ O9 ∧ vE.heap[O9]? = some (.cells #[.int .i64 1, .string ⟨#[115, 99, 97, 108, 101, 95, 98, 121, 95, 116, 114, 117, 115, 116, 95, 114, 97, 116, 105, 111]⟩, .int .u32 0, .int .i64 0, .string ⟨#[]⟩, .slice (some ⟨G7, 0, none⟩) 3 3, .int .i64 a] 29) ∧ Kids vE (inH (fun j => S j ∨ w.heap.size + 1 < j)) (.slice (some ⟨G7, 0, none⟩) 3 3) [(⟨2, ⟨#[]⟩, 0, 0, ⟨#[]⟩, [], a⟩ : Nd), (⟨2, ⟨#[]⟩, 1065353216, 0, ⟨#[]⟩, [], a⟩ : Nd), (⟨2, ⟨#[]⟩, 0, 0, ⟨#[]⟩, [], a⟩ : Nd)]) := ⟨hbE, HOB9.out, hsv, hkE⟩
       clear hoff hosz hsv hbE hkE hrE hvE s0 s1 s2 s3 s4 s5 s6 r0 r1 r2 r3 r4 r5 r6
       refine hK.out _ _ ?_ (fun hHeld => ?_)
       ·((try dsimp only); first | exact HSE.out | exact fun j h1 _ => HBz.out.block j h1 | exact fun j _ _ => rfl)
       clear hK K
       try simp only [Act.put, List.setIfInBounds_toArray, List.set_cons_zero, List.set_cons_succ]
       refine wpAnyH_done (by kernel_rfl) ?_ _
       go_wp2_with fail
       go_meet
       exact ⟨O9, G7, rfl, HEND.out⟩
      refine AllReadyH.cons (i := 9) (by simp only [List.getElem?_toArray, List.getElem?_cons_succ, List.getElem?_cons_zero]; rfl) (fun K hK => ?_) AllReadyH.nil
      go_simp
      obtain ⟨O9, hO9⟩ : ∃ O, v7.heap.size = O := ⟨_, rfl⟩
      obtain ⟨v9, hv9⟩ : ∃ V, v7.alloc (.cells #[.int .i64 0, .string ⟨#[]⟩, .int .u32 0, .int .i64 0, .string ⟨#[]⟩, .slice none 0 0, .int .i64 0] 29) = V := ⟨_, rfl⟩
      have hb9 : Below v7.heap.size v7 v9 := by rw [← hv9]; exact bel_alloc _ _
      have HO9 : Hid (v9.heap[O9]? = some (.cells #[.int .i64 0, .string ⟨#[]⟩, .int .u32 0, .int .i64 0, .string ⟨#[]⟩, .slice none 0 0, .int .i64 0] 29)) := by show _ = _; rw [← hv9, ← hO9]; exact box_heapA v7 _
      have HOB9 : Hid (W.heap.size ≤ O9) := by show _ ≤ _; rw [← hO9]; exact HBz.out.size
      have HR7 : Hid (v9.heap[G7]? = some (.cells #[.int .i64 2, .string ⟨#[]⟩, .int .u32 0, .int .i64 0, .string ⟨#[]⟩, .slice none 0 0, .int .i64 a, .int .i64 2, .string ⟨#[]⟩, .int .u32 1065353216, .int .i64 0, .string ⟨#[]⟩, .slice none 0 0, .int .i64 a, .int .i64 2, .string ⟨#[]⟩, .int .u32 0, .int .i64 0, .string ⟨#[]⟩, .slice none 0 0, .int .i64 a] 29)) := (hb9.block _ (hlt HR7.out)).trans HR7.out
      have HBz : Hid (Below W.heap.size W v9) := bel HBz.out hb9
      rw [hv9, hO9]
      clear hv9 hO9 hb9
      refine hK.out _ _ ?_ (fun hHeld => ?_)
      ·((try dsimp only); first | exact HSE.out | exact fun j h1 _ => HBz.out.block j h1 | exact fun j _ _ => rfl)
      clear hK K
      try simp only [Act.put, List.setIfInBounds_toArray, List.set_cons_zero, List.set_cons_succ]
      clear hHeld
      refine wpAnyH_ready (rs := [8]) (by kernel_rfl) (by simp) ?_
      refine AllReadyH.cons (i := 8) (by simp only [List.getElem?_toArray, List.getElem?_cons_succ, List.getElem?_cons_zero]; rfl) (fun K hK => ?_) AllReadyH.nil
      go_simp
      (go_at_call 73; (with_reducible refine (HCA8.out _ _ _ _).mono ?_); rintro e v8 ⟨rfl, hb8⟩; have HR7 : Hid (v8.heap[G7]? = some (.cells #[.int .i64 2, .string ⟨#[]⟩, .int .u32 0, .int .i64 0, .string ⟨#[]⟩, .slice none 0 0, .int .i64 a, .int .i64 2, .string ⟨#[]⟩, .int .u32 1065353216, .int .i64 0, .string ⟨#[]⟩, .slice none 0 0, .int .i64 a, .int .i64 2, .string ⟨#[]⟩, .int .u32 0, .int .i64 0, .string ⟨#[]⟩, .slice none 0 0, .int .i64 a] 29)) := (hb8.block _ (hlt HR7.out)).trans HR7.out; have HO9 : Hid (v8.heap[O9]? = some (.cells #[.int .i64 0, .string ⟨#[]⟩, .int .u32 0, .int .i64 0, .string ⟨#[]⟩, .slice none 0 0, .int .i64 0] 29)) := (hb8.block _ (hlt HO9.out)).trans HO9.out; have HBz : Hid (Below W.heap.size W v8) := bel HBz.out hb8; clear hb8)
      try (go_wp2_with fail)
      refine hK.out _ _ ?_ (fun hHeld => ?_)
      ·((try dsimp only); first | exact HSE.out | exact fun j h1 _ => HBz.out.block j h1 | exact fun j _ _ => rfl)
      clear hK K
      try simp only [Act.put, List.setIfInBounds_toArray, List.set_cons_zero, List.set_cons_succ]
      clear hHeld
      refine wpAnyH_ready (rs := [10]) (by kernel_rfl) (by simp) ?_
      refine AllReadyH.cons (i := 10) (by simp only [List.getElem?_toArray, List.getElem?_cons_succ, List.getElem?_cons_zero]; rfl) (fun K hK => ?_) AllReadyH.nil
      obtain ⟨⟨s0, s1, s2, s3, s4, s5, s6⟩, r0, r1, r2, r3, r4, r5, r6⟩ := sevenA HO9.out
      go_simp
      have hoff := offS_seven v8 O9 (.int .i64 1) (.string ⟨#[115, 99, 97, 108, 101, 95, 98, 121, 95, 116, 114, 117, 115, 116, 95, 114, 97, 116, 105, 111]⟩) (.int .u32 0) (.int .i64 0) (.string ⟨#[]⟩) (.slice (some ⟨G7, 0, none⟩) 3 3) (.int .i64 a)
      have hosz := size_sevenS v8 O9 (.int .i64 1) (.string ⟨#[115, 99, 97, 108, 101, 95, 98, 121, 95, 116, 114, 117, 115, 116, 95, 114, 97, 116, 105, 111]⟩) (.int .u32 0) (.int .i64 0) (.string ⟨#[]⟩) (.slice (some ⟨G7, 0, none⟩) 3 3) (.int .i64 a)
      have hsv := put_sevenA HO9.out (.int .i64 1) (.string ⟨#[115, 99, 97, 108, 101, 95, 98, 121, 95, 116, 114, 117, 115, 116, 95, 114, 97, 116, 105, 111]⟩) (.int .u32 0) (.int .i64 0) (.string ⟨#[]⟩) (.slice (some ⟨G7, 0, none⟩) 3 3) (.int .i64 a)
      have HSzz : Hid (∀ j, j < W.heap.size → j ≠ w.heap.size + 1 → ((((((((v8.setCell ⟨O9, 0, none⟩ (.int .i64 1)).setCell ⟨O9, 1, none⟩ (.string ⟨#[115, 99, 97, 108, 101, 95, 98, 121, 95, 116, 114, 117, 115, 116, 95, 114, 97, 116, 105, 111]⟩)).setCell ⟨O9, 2, none⟩ (.int .u32 0)).setCell ⟨O9, 3, none⟩ (.int .i64 0)).setCell ⟨O9, 4, none⟩ (.string ⟨#[]⟩)).setCell ⟨O9, 5, none⟩ (.slice (some ⟨G7, 0, none⟩) 3 3)).setCell ⟨O9, 6, none⟩ (.int .i64 a))).heap[j]? = W.heap[j]?) := fun j h1 h2 => (hoff.sameSize hosz (by show ¬ j = O9; have := HOB9.out; omega)).trans (HBz.out.block j h1)
      have hbE : Below W.heap.size W ((((((((v8.setCell ⟨O9, 0, none⟩ (.int .i64 1)).setCell ⟨O9, 1, none⟩ (.string ⟨#[115, 99, 97, 108, 101, 95, 98, 121, 95, 116, 114, 117, 115, 116, 95, 114, 97, 116, 105, 111]⟩)).setCell ⟨O9, 2, none⟩ (.int .u32 0)).setCell ⟨O9, 3, none⟩ (.int .i64 0)).setCell ⟨O9, 4, none⟩ (.string ⟨#[]⟩)).setCell ⟨O9, 5, none⟩ (.slice (some ⟨G7, 0, none⟩) 3 3)).setCell ⟨O9, 6, none⟩ (.int .i64 a))) := hoff.below HBz.out (fun j hj => by have := HBz.out.size; omega) (fun j hj e => by have e : j = O9 := e; have := HOB9.out; omega)
      have hrE := (hoff.sameSize hosz (x := G7) (by intro e; have e : G7 = O9 := e; have h1 := HR7.out; rw [e, HO9.out] at h1; simp at h1)).trans HR7.out
      obtain ⟨vE, hvE⟩ : ∃ V, (((((((v8.setCell ⟨O9, 0, none⟩ (.int .i64 1)).setCell ⟨O9, 1, none⟩ (.string ⟨#[115, 99, 97, 108, 101, 95, 98, 121, 95, 116, 114, 117, 115, 116, 95, 114, 97, 116, 105, 111]⟩)).setCell ⟨O9, 2, none⟩ (.int .u32 0)).setCell ⟨O9, 3, none⟩ (.int .i64 0)).setCell ⟨O9, 4, none⟩ (.string ⟨#[]⟩)).setCell ⟨O9, 5, none⟩ (.slice (some ⟨G7, 0, none⟩) 3 3)).setCell ⟨O9, 6, none⟩ (.int .i64 a)) = V := ⟨_, rfl⟩
      rw [hvE] at hsv HSzz hbE hrE
      try rw [hvE]
      have HSE := HSzz
      have hkE := kids_at (w := vE) (S := (fun j => S j ∨ w.heap.size + 1 < j)) (R := [((⟨2, ⟨#[]⟩, 0, 0, ⟨#[]⟩, [], a⟩ : Nd), .slice none 0 0), ((⟨2, ⟨#[]⟩, 1065353216, 0, ⟨#[]⟩, [], a⟩ : Nd), .slice none 0 0), ((⟨2, ⟨#[]⟩, 0, 0, ⟨#[]⟩, [], a⟩ : Nd), .slice none 0 0)]) hrE rfl (List.forall_mem_cons.2 ⟨(kids_none _ _), List.forall_mem_cons.2 ⟨(kids_none _ _), List.forall_mem_cons.2 ⟨(kids_none _ _), fun r h => by cases h⟩⟩⟩) (.inr (by have := HGB7.out; have := HSZ.out; omega)) (by simp)
      have HEND : Hid (Below W.heap.size W vE ∧ W.heap.size ≤ O9 ∧ vE.heap[O9]? = some (.cells #[.int .i64 1, .string ⟨#[115, 99, 97, 108, 101, 95, 98, 121, 95, 116, 114, 117, 115, 116, 95, 114, 97, 116, 105, 111]⟩, .int .u32 0, .int .i64 0, .string ⟨#[]⟩, .slice (some ⟨G7, 0, none⟩) 3 3, .int .i64 a] 29) ∧ Kids vE (inH (fun j => S j ∨ w.heap.size + 1 < j)) (.slice (some ⟨G7, 0, none⟩) 3 3) [(⟨2, ⟨#[]⟩, 0, 0, ⟨#[]⟩, [], a⟩ : Nd), (⟨2, ⟨#[]⟩, 1065353216, 0, ⟨#[]⟩, [], a⟩ : Nd), (⟨2, ⟨#[]⟩, 0, 0, ⟨#[]⟩, [], a⟩ : Nd)]) := ⟨hbE, HOB9.out, hsv, hkE⟩
      clear hoff hosz hsv hbE hkE hrE hvE s0 s1 s2 s3 s4 s5 s6 r0 r1 r2 r3 r4 r5 r6
      refine hK.out _ _ ?_ (fun hHeld => ?_)
      ·((try dsimp only); first | exact HSE.out | exact fun j h1 _ => HBz.out.block j h1 | exact fun j _ _ => rfl)
      clear hK K
      try simp only [Act.put, List.setIfInBounds_toArray, List.set_cons_zero, List.set_cons_succ]
      refine wpAnyH_done (by kernel_rfl) ?_ _
      go_wp2_with fail
      go_meet
      exact ⟨O9, G7, rfl, HEND.out⟩
     refine AllReadyH.cons (i := 9) (by simp only [List.getElem?_toArray, List.getElem?_cons_succ, List.getElem?_cons_zero]; rfl) (fun K hK => ?_) AllReadyH.nil
     go_simp
     obtain ⟨O9, hO9⟩ : ∃ O, v6.heap.size = O := ⟨_, rfl⟩
     obtain ⟨v9, hv9⟩ : ∃ V, v6.alloc (.cells #[.int .i64 0, .string ⟨#[]⟩, .int .u32 0, .int .i64 0, .string ⟨#[]⟩, .slice none 0 0, .int .i64 0] 29) = V := ⟨_, rfl⟩
     have hb9 : Below v6.heap.size v6 v9 := by rw [← hv9]; exact bel_alloc _ _
     have HO9 : Hid (v9.heap[O9]? = some (.cells #[.int .i64 0, .string ⟨#[]⟩, .int .u32 0, .int .i64 0, .string ⟨#[]⟩, .slice none 0 0, .int .i64 0] 29)) := by show _ = _; rw [← hv9, ← hO9]; exact box_heapA v6 _
     have HOB9 : Hid (W.heap.size ≤ O9) := by show _ ≤ _; rw [← hO9]; exact HBz.out.size
     have HBz : Hid (Below W.heap.size W v9) := bel HBz.out hb9
     rw [hv9, hO9]
     clear hv9 hO9 hb9
     refine hK.out _ _ ?_ (fun hHeld => ?_)
     ·((try dsimp only); first | exact HSE.out | exact fun j h1 _ => HBz.out.block j h1 | exact fun j _ _ => rfl)
     clear hK K
     try simp only [Act.put, List.setIfInBounds_toArray, List.set_cons_zero, List.set_cons_succ]
     clear hHeld
     refine wpAnyH_ready (rs := [7]) (by kernel_rfl) (by simp) ?_
     refine AllReadyH.cons (i := 7) (by simp only [List.getElem?_toArray, List.getElem?_cons_succ, List.getElem?_cons_zero]; rfl) (fun K hK => ?_) AllReadyH.nil
     go_simp
     obtain ⟨G7, hG7⟩ : ∃ G, v9.heap.size = G := ⟨_, rfl⟩
     obtain ⟨v7, hv7⟩ : ∃ V, v9.alloc (.cells #[.int .i64 2, .string ⟨#[]⟩, .int .u32 0, .int .i64 0, .string ⟨#[]⟩, .slice none 0 0, .int .i64 a, .int .i64 2, .string ⟨#[]⟩, .int .u32 1065353216, .int .i64 0, .string ⟨#[]⟩, .slice none 0 0, .int .i64 a, .int .i64 2, .string ⟨#[]⟩, .int .u32 0, .int .i64 0, .string ⟨#[]⟩, .slice none 0 0, .int .i64 a] 29) = V := ⟨_, rfl⟩
     have hb7 : Below v9.heap.size v9 v7 := by rw [← hv7]; exact bel_alloc _ _
     have HR7 : Hid (v7.heap[G7]? = some (.cells #[.int .i64 2, .string ⟨#[]⟩, .int .u32 0, .int .i64 0, .string ⟨#[]⟩, .slice none 0 0, .int .i64 a, .int .i64 2, .string ⟨#[]⟩, .int .u32 1065353216, .int .i64 0, .string ⟨#[]⟩, .slice none 0 0, .int .i64 a, .int .i64 2, .string ⟨#[]⟩, .int .u32 0, .int .i64 0, .string ⟨#[]⟩, .slice none 0 0, .int .i64 a] 29)) := by show _ = _; rw [← hv7, ← hG7]; exact box_heapA v9 _
     have HGB7 : Hid (W.heap.size ≤ G7) := by show _ ≤ _; rw [← hG7]; exact HBz.out.size
     have HO9 : Hid (v7.heap[O9]? = some (.cells #[.int .i64 0, .string ⟨#[]⟩, .int .u32 0, .int .i64 0, .string ⟨#[]⟩, .slice none 0 0, .int .i64 0] 29)) := (hb7.block _ (hlt HO9.out)).trans HO9.out
     have HBz : Hid (Below W.heap.size W v7) := bel HBz.out hb7
     rw [hv7, hG7]
     clear hv7 hG7 hb7
     refine hK.out _ _ ?_ (fun hHeld => ?_)
     ·((try dsimp only); first | exact HSE.out | exact fun j h1 _ => HBz.out.block j h1 | exact fun j _ _ => rfl)
     clear hK K
     try simp only [Act.put, List.setIfInBounds_toArray, List.set_cons_zero, List.set_cons_succ]
     clear hHeld
     refine wpAnyH_ready (rs := [8]) (by kernel_rfl) (by simp) ?_
     refine AllReadyH.cons (i := 8) (by simp only [List.getElem?_toArray, List.getElem?_cons_succ, List.getElem?_cons_zero]; rfl) (fun K hK => ?_) AllReadyH.nil
     go_simp
     (go_at_call 73; (with_reducible refine (HCA8.out _ _ _ _).mono ?_); rintro e v8 ⟨rfl, hb8⟩; have HO9 : Hid (v8.heap[O9]? = some (.cells #[.int .i64 0, .string ⟨#[]⟩, .int .u32 0, .int .i64 0, .string ⟨#[]⟩, .slice none 0 0, .int .i64 0] 29)) := (hb8.block _ (hlt HO9.out)).trans HO9.out; have HR7 : Hid (v8.heap[G7]? = some (.cells #[.int .i64 2, .string ⟨#[]⟩, .int .u32 0, .int .i64 0, .string ⟨#[]⟩, .slice none 0 0, .int .i64 a, .int .i64 2, .string ⟨#[]⟩, .int .u32 1065353216, .int .i64 0, .string ⟨#[]⟩, .slice none 0 0, .int .i64 a, .int .i64 2, .string ⟨#[]⟩, .int .u32 0, .int .i64 0, .string ⟨#[]⟩, .slice none 0 0, .int .i64 a] 29)) := (hb8.block _ (hlt HR7.out)).trans HR7.out; have HBz : Hid (Below W.heap.size W v8) := bel HBz.out hb8; clear hb8)
     try (go_wp2_with fail)
     refine hK.out _ _ ?_ (fun hHeld => ?_)
     ·((try dsimp only); first | exact HSE.out | exact fun j h1 _ => HBz.out.block j h1 | exact fun j _ _ => rfl)
     clear hK K
     try simp only [Act.put, List.setIfInBounds_toArray, List.set_cons_zero, List.set_cons_succ]
     clear hHeld
     refine wpAnyH_ready (rs := [10]) (by kernel_rfl) (by simp) ?_
     refine AllReadyH.cons (i := 10) (by simp only [List.getElem?_toArray, List.getElem?_cons_succ, List.getElem?_cons_zero]; rfl) (fun K hK => ?_) AllReadyH.nil
     obtain ⟨⟨s0, s1, s2, s3, s4, s5, s6⟩, r0, r1, r2, r3, r4, r5, r6⟩ := sevenA HO9.out
     go_simp
     have hoff := offS_seven v8 O9 (.int .i64 1) (.string ⟨#[115, 99, 97, 108, 101, 95, 98, 121, 95, 116, 114, 117, 115, 116, 95, 114, 97, 116, 105, 111]⟩) (.int .u32 0) (.int .i64 0) (.string ⟨#[]⟩) (.slice (some ⟨G7, 0, none⟩) 3 3) (.int .i64 a)
     have hosz := size_sevenS v8 O9 (.int .i64 1) (.string ⟨#[115, 99, 97, 108, 101, 95, 98, 121, 95, 116, 114, 117, 115, 116, 95, 114, 97, 116, 105, 111]⟩) (.int .u32 0) (.int .i64 0) (.string ⟨#[]⟩) (.slice (some ⟨G7, 0, none⟩) 3 3) (.int .i64 a)
     have hsv := put_sevenA HO9.out (.int .i64 1) (.string ⟨#[115, 99, 97, 108, 101, 95, 98, 121, 95, 116, 114, 117, 115, 116, 95, 114, 97, 116, 105, 111]⟩) (.int .u32 0) (.int .i64 0) (.string ⟨#[]⟩) (.slice (some ⟨G7, 0, none⟩) 3 3) (.int .i64 a)
     have HSzz : Hid (∀ j, j < W.heap.size → j ≠ w.heap.size + 1 → ((((((((v8.setCell ⟨O9, 0, none⟩ (.int .i64 1)).setCell ⟨O9, 1, none⟩ (.string ⟨#[115, 99, 97, 108, 101, 95, 98, 121, 95, 116, 114, 117, 115, 116, 95, 114, 97, 116, 105, 111]⟩)).setCell ⟨O9, 2, none⟩ (.int .u32 0)).setCell ⟨O9, 3, none⟩ (.int .i64 0)).setCell ⟨O9, 4, none⟩ (.string ⟨#[]⟩)).setCell ⟨O9, 5, none⟩ (.slice (some ⟨G7, 0, none⟩) 3 3)).setCell ⟨O9, 6, none⟩ (.int .i64 a))).heap[j]? = W.heap[j]?) := fun j h1 h2 => (hoff.sameSize hosz (by show ¬ j = O9; have := HOB9.out; omega)).trans (HBz.out.block j h1)
     have hbE : Below W.heap.size W ((((((((v8.setCell ⟨O9, 0, none⟩ (.int .i64 1)).setCell ⟨O9, 1, none⟩ (.string ⟨#[115, 99, 97, 108, 101, 95, 98, 121, 95, 116, 114, 117, 115, 116, 95, 114, 97, 116, 105, 111]⟩)).setCell ⟨O9, 2, none⟩ (.int .u32 0)).setCell ⟨O9, 3, none⟩ (.int .i64 0)).setCell ⟨O9, 4, none⟩ (.string ⟨#[]⟩)).setCell ⟨O9, 5, none⟩ (.slice (some ⟨G7, 0, none⟩) 3 3)).setCell ⟨O9, 6, none⟩ (.int .i64 a))) := hoff.below HBz.out (fun j hj => by have := HBz.out.size; omega) (fun j hj e => by have e : j = O9 := e; have := HOB9.out; omega)
     have hrE := (hoff.sameSize hosz (x := G7) (by intro e; have e : G7 = O9 := e; have h1 := HR7.out; rw [e, HO9.out] at h1; simp at h1)).trans HR7.out
     obtain ⟨vE, hvE⟩ : ∃ V, (((((((v8.setCell ⟨O9, 0, none⟩ (.int .i64 1)).setCell ⟨O9, 1, none⟩ (.string ⟨#[115, 99, 97, 108, 101, 95, 98, 121, 95, 116, 114, 117, 115, 116, 95, 114, 97, 116, 105, 111]⟩)).setCell ⟨O9, 2, none⟩ (.int .u32 0)).setCell ⟨O9, 3, none⟩ (.int .i64 0)).setCell ⟨O9, 4, none⟩ (.string ⟨#[]⟩)).setCell ⟨O9, 5, none⟩ (.slice (some ⟨G7, 0, none⟩) 3 3)).setCell ⟨O9, 6, none⟩ (.int .i64 a)) = V := ⟨_, rfl⟩
     rw [hvE] at hsv HSzz hbE hrE
     try rw [hvE]
     have HSE := HSzz
     have hkE := kids_at (w := vE) (S := (fun j => S j ∨ w.heap.size + 1 < j)) (R := [((⟨2, ⟨#[]⟩, 0, 0, ⟨#[]⟩, [], a⟩ : Nd), .slice none 0 0), ((⟨2, ⟨#[]⟩, 1065353216, 0, ⟨#[]⟩, [], a⟩ : Nd), .slice none 0 0), ((⟨2, ⟨#[]⟩, 0, 0, ⟨#[]⟩, [], a⟩ : Nd), .slice none 0 0)]) hrE rfl (List.forall_mem_cons.2 ⟨(kids_none _ _), List.forall_mem_cons.2 ⟨(kids_none _ _), List.forall_mem_cons.2 ⟨(kids_none _ _), fun r h => by cases h⟩⟩⟩) (.inr (by have := HGB7.out; have := HSZ.out; omega)) (by simp)
     have HEND : Hid (Below W.heap.size W vE ∧ W.heap.size ≤ O9 ∧ vE.heap[O9]? = some (.cells #[.int .i64 1, .string ⟨#[115, 99, 97, 108, 101, 95, 98, 121, 95, 116, 114, 117, 115, 116, 95, 114, 97, 116, 105, 111]⟩, .int .u32 0, .int .i64 0, .string ⟨#[]⟩, .slice (some ⟨G7, 0, none⟩) 3 3, .int .i64 a] 29) ∧ Kids vE (inH (fun j => S j ∨ w.heap.size + 1 < j)) (.slice (some ⟨G7, 0, none⟩) 3 3) [(⟨2, ⟨#[]⟩, 0, 0, ⟨#[]⟩, [], a⟩ : Nd), (⟨2, ⟨#[]⟩, 1065353216, 0, ⟨#[]⟩, [], a⟩ : Nd), (⟨2, ⟨#[]⟩, 0, 0, ⟨#[]⟩, [], a⟩ : Nd)]) := ⟨hbE, HOB9.out, hsv, hkE⟩
     clear hoff hosz hsv hbE hkE hrE hvE s0 s1 s2 s3 s4 s5 s6 r0 r1 r2 r3 r4 r5 r6
     refine hK.out _ _ ?_ (fun hHeld => ?_)
     ·((try dsimp only); first | exact HSE.out | exact fun j h1 _ => HBz.out.block j h1 | exact fun j _ _ => rfl)
     clear hK K
     try simp only [Act.put, List.setIfInBounds_toArray, List.set_cons_zero, List.set_cons_succ]
     refine wpAnyH_done (by kernel_rfl) ?_ _
     go_wp2_with fail
     go_meet
     exact ⟨O9, G7, rfl, HEND.out⟩
    refine AllReadyH.cons (i := 9) (by simp only [List.getElem?_toArray, List.getElem?_cons_succ, List.getElem?_cons_zero]; rfl) (fun K hK => ?_) AllReadyH.nil
    go_simp
    obtain ⟨O9, hO9⟩ : ∃ O, v4.heap.size = O := ⟨_, rfl⟩
    obtain ⟨v9, hv9⟩ : ∃ V, v4.alloc (.cells #[.int .i64 0, .string ⟨#[]⟩, .int .u32 0, .int .i64 0, .string ⟨#[]⟩, .slice none 0 0, .int .i64 0] 29) = V := ⟨_, rfl⟩
    have hb9 : Below v4.heap.size v4 v9 := by rw [← hv9]; exact bel_alloc _ _
    have HO9 : Hid (v9.heap[O9]? = some (.cells #[.int .i64 0, .string ⟨#[]⟩, .int .u32 0, .int .i64 0, .string ⟨#[]⟩, .slice none 0 0, .int .i64 0] 29)) := by show _ = _; rw [← hv9, ← hO9]; exact box_heapA v4 _
    have HOB9 : Hid (W.heap.size ≤ O9) := by show _ ≤ _; rw [← hO9]; exact HBz.out.size
    have HBz : Hid (Below W.heap.size W v9) := bel HBz.out hb9
    rw [hv9, hO9]
    clear hv9 hO9 hb9
    refine hK.out _ _ ?_ (fun hHeld => ?_)
    ·((try dsimp only); first | exact HSE.out | exact fun j h1 _ => HBz.out.block j h1 | exact fun j _ _ => rfl)
    clear hK K
    try simp only [Act.put, List.setIfInBounds_toArray, List.set_cons_zero, List.set_cons_succ]
    clear hHeld
    refine wpAnyH_ready (rs := [6]) (by kernel_rfl) (by simp) ?_
    refine AllReadyH.cons (i := 6) (by simp only [List.getElem?_toArray, List.getElem?_cons_succ, List.getElem?_cons_zero]; rfl) (fun K hK => ?_) AllReadyH.nil
    go_simp
    (go_at_call 77; (with_reducible refine (HCA6.out _).mono ?_); rintro e v6 ⟨rfl, hb6⟩; have HO9 : Hid (v6.heap[O9]? = some (.cells #[.int .i64 0, .string ⟨#[]⟩, .int .u32 0, .int .i64 0, .string ⟨#[]⟩, .slice none 0 0, .int .i64 0] 29)) := (hb6.block _ (hlt HO9.out)).trans HO9.out; have HBz : Hid (Below W.heap.size W v6) := bel HBz.out hb6; clear hb6)
    try (go_wp2_with fail)
    refine hK.out _ _ ?_ (fun hHeld => ?_)
    ·((try dsimp only); first | exact HSE.out | exact fun j h1 _ => HBz.out.block j h1 | exact fun j _ _ => rfl)
    clear hK K
    try simp only [Act.put, List.setIfInBounds_toArray, List.set_cons_zero, List.set_cons_succ]
    clear hHeld
    refine wpAnyH_ready (rs := [7]) (by kernel_rfl) (by simp) ?_
    refine AllReadyH.cons (i := 7) (by simp only [List.getElem?_toArray, List.getElem?_cons_succ, List.getElem?_cons_zero]; rfl) (fun K hK => ?_) AllReadyH.nil
    go_simp
    obtain ⟨G7, hG7⟩ : ∃ G, v6.heap.size = G := ⟨_, rfl⟩
    obtain ⟨v7, hv7⟩ : ∃ V, v6.alloc (.cells #[.int .i64 2, .string ⟨#[]⟩, .int .u32 0, .int .i64 0, .string ⟨#[]⟩, .slice none 0 0, .int .i64 a, .int .i64 2, .string ⟨#[]⟩, .int .u32 1065353216, .int .i64 0, .string ⟨#[]⟩, .slice none 0 0, .int .i64 a, .int .i64 2, .string ⟨#[]⟩, .int .u32 0, .int .i64 0, .string ⟨#[]⟩, .slice none 0 0, .int .i64 a] 29) = V := ⟨_, rfl⟩
    have hb7 : Below v6.heap.size v6 v7 := by rw [← hv7]; exact bel_alloc _ _
    have HR7 : Hid (v7.heap[G7]? = some (.cells #[.int .i64 2, .string ⟨#[]⟩, .int .u32 0, .int .i64 0, .string ⟨#[]⟩, .slice none 0 0, .int .i64 a, .int .i64 2, .string ⟨#[]⟩, .int .u32 1065353216, .int .i64 0, .string ⟨#[]⟩, .slice none 0 0, .int .i64 a, .int .i64 2, .string ⟨#[]⟩, .int .u32 0, .int .i64 0, .string ⟨#[]⟩, .slice none 0 0, .int .i64 a] 29)) := by show _ = _; rw [← hv7, ← hG7]; exact box_heapA v6 _
    have HGB7 : Hid (W.heap.size ≤ G7) := by show _ ≤ _; rw [← hG7]; exact HBz.out.size
    have HO9 : Hid (v7.heap[O9]? = some (.cells #[.int .i64 0, .string ⟨#[]⟩, .int .u32 0, .int .i64 0, .string ⟨#[]⟩, .slice none 0 0, .int .i64 0] 29)) := (hb7.block _ (hlt HO9.out)).trans HO9.out
    have HBz : Hid (Below W.heap.size W v7) := bel HBz.out hb7
    rw [hv7, hG7]
    clear hv7 hG7 hb7
    refine hK.out _ _ ?_ (fun hHeld => ?_)
    ·((try dsimp only); first | exact HSE.out | exact fun j h1 _ => HBz.out.block j h1 | exact fun j _ _ => rfl)
    clear hK K
    try simp only [Act.put, List.setIfInBounds_toArray, List.set_cons_zero, List.set_cons_succ]
    clear hHeld
    refine wpAnyH_ready (rs := [8]) (by kernel_rfl) (by simp) ?_
    refine AllReadyH.cons (i := 8) (by simp only [List.getElem?_toArray, List.getElem?_cons_succ, List.getElem?_cons_zero]; rfl) (fun K hK => ?_) AllReadyH.nil
    go_simp
    (go_at_call 73; (with_reducible refine (HCA8.out _ _ _ _).mono ?_); rintro e v8 ⟨rfl, hb8⟩; have HO9 : Hid (v8.heap[O9]? = some (.cells #[.int .i64 0, .string ⟨#[]⟩, .int .u32 0, .int .i64 0, .string ⟨#[]⟩, .slice none 0 0, .int .i64 0] 29)) := (hb8.block _ (hlt HO9.out)).trans HO9.out; have HR7 : Hid (v8.heap[G7]? = some (.cells #[.int .i64 2, .string ⟨#[]⟩, .int .u32 0, .int .i64 0, .string ⟨#[]⟩, .slice none 0 0, .int .i64 a, .int .i64 2, .string ⟨#[]⟩, .int .u32 1065353216, .int .i64 0, .string ⟨#[]⟩, .slice none 0 0, .int .i64 a, .int .i64 2, .string ⟨#[]⟩, .int .u32 0, .int .i64 0, .string ⟨#[]⟩, .slice none 0 0, .int .i64 a] 29)) := (hb8.block _ (hlt HR7.out)).trans HR7.out; have HBz : Hid (Below W.heap.size W v8) := bel HBz.out hb8; clear hb8)
    try (go_wp2_with fail)
    refine hK.out _ _ ?_ (fun hHeld => ?_)
    ·((try dsimp only); first | exact HSE.out | exact fun j h1 _ => HBz.out.block j h1 | exact fun j _ _ => rfl)
    clear hK K
    try simp only [Act.put, List.setIfInBounds_toArray, List.set_cons_zero, List.set_cons_succ]
    clear hHeld
    refine wpAnyH_ready (rs := [10]) (by kernel_rfl) (by simp) ?_
    refine AllReadyH.cons (i := 10) (by simp only [List.getElem?_toArray, List.getElem?_cons_succ, List.getElem?_cons_zero]; rfl) (fun K hK => ?_) AllReadyH.nil
    obtain ⟨⟨s0, s1, s2, s3, s4, s5, s6⟩, r0, r1, r2, r3, r4, r5, r6⟩ := sevenA HO9.out
    go_simp
    have hoff := offS_seven v8 O9 (.int .i64 1) (.string ⟨#[115, 99, 97, 108, 101, 95, 98, 121, 95, 116, 114, 117, 115, 116, 95, 114, 97, 116, 105, 111]⟩) (.int .u32 0) (.int .i64 0) (.string ⟨#[]⟩) (.slice (some ⟨G7, 0, none⟩) 3 3) (.int .i64 a)
    have hosz := size_sevenS v8 O9 (.int .i64 1) (.string ⟨#[115, 99, 97, 108, 101, 95, 98, 121, 95, 116, 114, 117, 115, 116, 95, 114, 97, 116, 105, 111]⟩) (.int .u32 0) (.int .i64 0) (.string ⟨#[]⟩) (.slice (some ⟨G7, 0, none⟩) 3 3) (.int .i64 a)
    have hsv := put_sevenA HO9.out (.int .i64 1) (.string ⟨#[115, 99, 97, 108, 101, 95, 98, 121, 95, 116, 114, 117, 115, 116, 95, 114, 97, 116, 105, 111]⟩) (.int .u32 0) (.int .i64 0) (.string ⟨#[]⟩) (.slice (some ⟨G7, 0, none⟩) 3 3) (.int .i64 a)
    have HSzz : Hid (∀ j, j < W.heap.size → j ≠ w.heap.size + 1 → ((((((((v8.setCell ⟨O9, 0, none⟩ (.int .i64 1)).setCell ⟨O9, 1, none⟩ (.string ⟨#[115, 99, 97, 108, 101, 95, 98, 121, 95, 116, 114, 117, 115, 116, 95, 114, 97, 116, 105, 111]⟩)).setCell ⟨O9, 2, none⟩ (.int .u32 0)).setCell ⟨O9, 3, none⟩ (.int .i64 0)).setCell ⟨O9, 4, none⟩ (.string ⟨#[]⟩)).setCell ⟨O9, 5, none⟩ (.slice (some ⟨G7, 0, none⟩) 3 3)).setCell ⟨O9, 6, none⟩ (.int .i64 a))).heap[j]? = W.heap[j]?) := fun j h1 h2 => (hoff.sameSize hosz (by show ¬ j = O9; have := HOB9.out; omega)).trans (HBz.out.block j h1)
    have hbE : Below W.heap.size W ((((((((v8.setCell ⟨O9, 0, none⟩ (.int .i64 1)).setCell ⟨O9, 1, none⟩ (.string ⟨#[115, 99, 97, 108, 101, 95, 98, 121, 95, 116, 114, 117, 115, 116, 95, 114, 97, 116, 105, 111]⟩)).setCell ⟨O9, 2, none⟩ (.int .u32 0)).setCell ⟨O9, 3, none⟩ (.int .i64 0)).setCell ⟨O9, 4, none⟩ (.string ⟨#[]⟩)).setCell ⟨O9, 5, none⟩ (.slice (some ⟨G7, 0, none⟩) 3 3)).setCell ⟨O9, 6, none⟩ (.int .i64 a))) := hoff.below HBz.out (fun j hj => by have := HBz.out.size; omega) (fun j hj e => by have e : j = O9 := e; have := HOB9.out; omega)
    have hrE := (hoff.sameSize hosz (x := G7) (by intro e; have e : G7 = O9 := e; have h1 := HR7.out; rw [e, HO9.out] at h1; simp at h1)).trans HR7.out
    obtain ⟨vE, hvE⟩ : ∃ V, (((((((v8.setCell ⟨O9, 0, none⟩ (.int .i64 1)).setCell ⟨O9, 1, none⟩ (.string ⟨#[115, 99, 97, 108, 101, 95, 98, 121, 95, 116, 114, 117, 115, 116, 95, 114, 97, 116, 105, 111]⟩)).setCell ⟨O9, 2, none⟩ (.int .u32 0)).setCell ⟨O9, 3, none⟩ (.int .i64 0)).setCell ⟨O9, 4, none⟩ (.string ⟨#[]⟩)).setCell ⟨O9, 5, none⟩ (.slice (some ⟨G7, 0, none⟩) 3 3)).setCell ⟨O9, 6, none⟩ (.int .i64 a)) = V := ⟨_, rfl⟩
    rw [hvE] at hsv HSzz hbE hrE
    try rw [hvE]
    have HSE := HSzz
    have hkE := kids_at (w := vE) (S := (fun j => S j ∨ w.heap.size + 1 < j)) (R := [((⟨2, ⟨#[]⟩, 0, 0, ⟨#[]⟩, [], a⟩ : Nd), .slice none 0 0), ((⟨2, ⟨#[]⟩, 1065353216, 0, ⟨#[]⟩, [], a⟩ : Nd), .slice none 0 0), ((⟨2, ⟨#[]⟩, 0, 0, ⟨#[]⟩, [], a⟩ : Nd), .slice none 0 0)]) hrE rfl (List.forall_mem_cons.2 ⟨(kids_none _ _), List.forall_mem_cons.2 ⟨(kids_none _ _), List.forall_mem_cons.2 ⟨(kids_none _ _), fun r h => by cases h⟩⟩⟩) (.inr (by have := HGB7.out; have := HSZ.out; omega)) (by simp)
    have HEND : Hid (Below W.heap.size W vE ∧ W.heap.size ≤ O9 ∧ vE.heap[O9]? = some (.cells #[.int .i64 1, .string ⟨#[115, 99, 97, 108, 101, 95, 98, 121, 95, 116, 114, 117, 115, 116, 95, 114, 97, 116, 105, 111]⟩, .int .u32 0, .int .i64 0, .string ⟨#[]⟩, .slice (some ⟨G7, 0, none⟩) 3 3, .int .i64 a] 29) ∧ Kids vE (inH (fun j => S j ∨ w.heap.size + 1 < j)) (.slice (some ⟨G7, 0, none⟩) 3 3) [(⟨2, ⟨#[]⟩, 0, 0, ⟨#[]⟩, [], a⟩ : Nd), (⟨2, ⟨#[]⟩, 1065353216, 0, ⟨#[]⟩, [], a⟩ : Nd), (⟨2, ⟨#[]⟩, 0, 0, ⟨#[]⟩, [], a⟩ : Nd)]) := ⟨hbE, HOB9.out, hsv, hkE⟩
    clear hoff hosz hsv hbE hkE hrE hvE s0 s1 s2 s3 s4 s5 s6 r0 r1 r2 r3 r4 r5 r6
    refine hK.out _ _ ?_ (fun hHeld => ?_)
    ·((try dsimp only); first | exact HSE.out | exact fun j h1 _ => HBz.out.block j h1 | exact fun j _ _ => rfl)
    clear hK K
    try simp only [Act.put, List.setIfInBounds_toArray, List.set_cons_zero, List.set_cons_succ]
    refine wpAnyH_done (by kernel_rfl) ?_ _
    go_wp2_with fail
    go_meet
    exact ⟨O9, G7, rfl, HEND.out⟩
   refine AllReadyH.cons (i := 9) (by simp only [List.getElem?_toArray, List.getElem?_cons_succ, List.getElem?_cons_zero]; rfl) (fun K hK => ?_) AllReadyH.nil
   go_simp
   obtain ⟨O9, hO9⟩ : ∃ O, v2.heap.size = O := ⟨_, rfl⟩
   obtain ⟨v9, hv9⟩ : ∃ V, v2.alloc (.cells #[.int .i64 0, .string ⟨#[]⟩, .int .u32 0, .int .i64 0, .string ⟨#[]⟩, .slice none 0 0, .int .i64 0] 29) = V := ⟨_, rfl⟩
   have hb9 : Below v2.heap.size v2 v9 := by rw [← hv9]; exact bel_alloc _ _
   have HO9 : Hid (v9.heap[O9]? = some (.cells #[.int .i64 0, .string ⟨#[]⟩, .int .u32 0, .int .i64 0, .string ⟨#[]⟩, .slice none 0 0, .int .i64 0] 29)) := by show _ = _; rw [← hv9, ← hO9]; exact box_heapA v2 _
   have HOB9 : Hid (W.heap.size ≤ O9) := by show _ ≤ _; rw [← hO9]; exact HBz.out.size
   have HBz : Hid (Below W.heap.size W v9) := bel HBz.out hb9
   rw [hv9, hO9]
   clear hv9 hO9 hb9
   refine hK.out _ _ ?_ (fun hHeld => ?_)
   ·((try dsimp only); first | exact HSE.out | exact fun j h1 _ => HBz.out.block j h1 | exact fun j _ _ => rfl)
   clear hK K
   try simp only [Act.put, List.setIfInBounds_toArray, List.set_cons_zero, List.set_cons_succ]
   clear hHeld
   refine wpAnyH_ready (rs := [4]) (by kernel_rfl) (by simp) ?_
   refine AllReadyH.cons (i := 4) (by simp only [List.getElem?_toArray, List.getElem?_cons_succ, List.getElem?_cons_zero]; rfl) (fun K hK => ?_) AllReadyH.nil
   go_simp
   (go_at_call 77; (with_reducible refine (HCA4.out _).mono ?_); rintro e v4 ⟨rfl, hb4⟩; have HO9 : Hid (v4.heap[O9]? = some (.cells #[.int .i64 0, .string ⟨#[]⟩, .int .u32 0, .int .i64 0, .string ⟨#[]⟩, .slice none 0 0, .int .i64 0] 29)) := (hb4.block _ (hlt HO9.out)).trans HO9.out; have HBz : Hid (Below W.heap.size W v4) := bel HBz.out hb4; clear hb4)
   try (go_wp2_with fail)
   refine hK.out _ _ ?_ (fun hHeld => ?_)
   ·((try dsimp only); first | exact HSE.out | exact fun j h1 _ => HBz.out.block j h1 | exact fun j _ _ => rfl)
   clear hK K
   try simp only [Act.put, List.setIfInBounds_toArray, List.set_cons_zero, List.set_cons_succ]
   clear hHeld
   refine wpAnyH_ready (rs := [6]) (by kernel_rfl) (by simp) ?_
   refine AllReadyH.cons (i := 6) (by simp only [List.getElem?_toArray, List.getElem?_cons_succ, List.getElem?_cons_zero]; rfl) (fun K hK => ?_) AllReadyH.nil
   go_simp
   (go_at_call 77; (with_reducible refine (HCA6.out _).mono ?_); rintro e v6 ⟨rfl, hb6⟩; have HO9 : Hid (v6.heap[O9]? = some (.cells #[.int .i64 0, .string ⟨#[]⟩, .int .u32 0, .int .i64 0, .string ⟨#[]⟩, .slice none 0 0, .int .i64 0] 29)) := (hb6.block _ (hlt HO9.out)).trans HO9.out; have HBz : Hid (Below W.heap.size W v6) := bel HBz.out hb6; clear hb6)
   try (go_wp2_with fail)
   refine hK.out _ _ ?_ (fun hHeld => ?_)
   ·((try dsimp only); first | exact HSE.out | exact fun j h1 _ => HBz.out.block j h1 | exact fun j _ _ => rfl)
   clear hK K
   try simp only [Act.put, List.setIfInBounds_toArray, List.set_cons_zero, List.set_cons_succ]
   clear hHeld
   refine wpAnyH_ready (rs := [7]) (by kernel_rfl) (by simp) ?_
   refine AllReadyH.cons (i := 7) (by simp only [List.getElem?_toArray, List.getElem?_cons_succ, List.getElem?_cons_zero]; rfl) (fun K hK => ?_) AllReadyH.nil
   go_simp
   obtain ⟨G7, hG7⟩ : ∃ G, v6.heap.size = G := ⟨_, rfl⟩
   obtain ⟨v7, hv7⟩ : ∃ V, v6.alloc (.cells #[.int .i64 2, .string ⟨#[]⟩, .int .u32 0, .int .i64 0, .string ⟨#[]⟩, .slice none 0 0, .int .i64 a, .int .i64 2, .string ⟨#[]⟩, .int .u32 1065353216, .int .i64 0, .string ⟨#[]⟩, .slice none 0 0, .int .i64 a, .int .i64 2, .string ⟨#[]⟩, .int .u32 0, .int .i64 0, .string ⟨#[]⟩, .slice none 0 0, .int .i64 a] 29) = V := ⟨_, rfl⟩
   have hb7 : Below v6.heap.size v6 v7 := by rw [← hv7]; exact bel_alloc _ _
   have HR7 : Hid (v7.heap[G7]? = some (.cells #[.int .i64 2, .string ⟨#[]⟩, .int .u32 0, .int .i64 0, .string ⟨#[]⟩, .slice none 0 0, .int .i64 a, .int .i64 2, .string ⟨#[]⟩, .int .u32 1065353216, .int .i64 0, .string ⟨#[]⟩, .slice none 0 0, .int .i64 a, .int .i64 2, .string ⟨#[]⟩, .int .u32 0, .int .i64 0, .string ⟨#[]⟩, .slice none 0 0, .int .i64 a] 29)) := by show _ = _; rw [← hv7, ← hG7]; exact box_heapA v6 _
   have HGB7 : Hid (W.heap.size ≤ G7) := by show _ ≤ _; rw [← hG7]; exact HBz.out.size
   have HO9 : Hid (v7.heap[O9]? = some (.cells #[.int .i64 0, .string ⟨#[]⟩, .int .u32 0, .int .i64 0, .string ⟨#[]⟩, .slice none 0 0, .int .i64 0] 29)) := (hb7.block _ (hlt HO9.out)).trans HO9.out
   have HBz : Hid (Below W.heap.size W v7) := bel HBz.out hb7
   rw [hv7, hG7]
   clear hv7 hG7 hb7
   refine hK.out _ _ ?_ (fun hHeld => ?_)
   ·((try dsimp only); first | exact HSE.out | exact fun j h1 _ => HBz.out.block j h1 | exact fun j _ _ => rfl)
   clear hK K
   try simp only [Act.put, List.setIfInBounds_toArray, List.set_cons_zero, List.set_cons_succ]
   clear hHeld
   refine wpAnyH_ready (rs := [8]) (by kernel_rfl) (by simp) ?_
   refine AllReadyH.cons (i := 8) (by simp only [List.getElem?_toArray, List.getElem?_cons_succ, List.getElem?_cons_zero]; rfl) (fun K hK => ?_) AllReadyH.nil
   go_simp
   (go_at_call 73; (with_reducible refine (HCA8.out _ _ _ _).mono ?_); rintro e v8 ⟨rfl, hb8⟩; have HO9 : Hid (v8.heap[O9]? = some (.cells #[.int .i64 0, .string ⟨#[]⟩, .int .u32 0, .int .i64 0, .string ⟨#[]⟩, .slice none 0 0, .int .i64 0] 29)) := (hb8.block _ (hlt HO9.out)).trans HO9.out; have HR7 : Hid (v8.heap[G7]? = some (.cells #[.int .i64 2, .string ⟨#[]⟩, .int .u32 0, .int .i64 0, .string ⟨#[]⟩, .slice none 0 0, .int .i64 a, .int .i64 2, .string ⟨#[]⟩, .int .u32 1065353216, .int .i64 0, .string ⟨#[]⟩, .slice none 0 0, .int .i64 a, .int .i64 2, .string ⟨#[]⟩, .int .u32 0, .int .i64 0, .string ⟨#[]⟩, .slice none 0 0, .int .i64 a] 29)) := (hb8.block _ (hlt HR7.out)).trans HR7.out; have HBz : Hid (Below W.heap.size W v8) := bel HBz.out hb8; clear hb8)
   try (go_wp2_with fail)
   refine hK.out _ _ ?_ (fun hHeld => ?_)
   ·((try dsimp only); first | exact HSE.out | exact fun j h1 _ => HBz.out.block j h1 | exact fun j _ _ => rfl)
   clear hK K
   try simp only [Act.put, List.setIfInBounds_toArray, List.set_cons_zero, List.set_cons_succ]
   clear hHeld
   refine wpAnyH_ready (rs := [10]) (by kernel_rfl) (by simp) ?_
   refine AllReadyH.cons (i := 10) (by simp only [List.getElem?_toArray, List.getElem?_cons_succ, List.getElem?_cons_zero]; rfl) (fun K hK => ?_) AllReadyH.nil
   obtain ⟨⟨s0, s1, s2, s3, s4, s5, s6⟩, r0, r1, r2, r3, r4, r5, r6⟩ := sevenA HO9.out
   go_simp
   have hoff := offS_seven v8 O9 (.int .i64 1) (.string ⟨#[115, 99, 97, 108, 101, 95, 98, 121, 95, 116, 114, 117, 115, 116, 95, 114, 97, 116, 105, 111]⟩) (.int .u32 0) (.int .i64 0) (.string ⟨#[]⟩) (.slice (some ⟨G7, 0, none⟩) 3 3) (.int .i64 a)
   have hosz := size_sevenS v8 O9 (.int .i64 1) (.string ⟨#[115, 99, 97, 108, 101, 95, 98, 121, 95, 116, 114, 117, 115, 116, 95, 114, 97, 116, 105, 111]⟩) (.int .u32 0) (.int .i64 0) (.string ⟨#[]⟩) (.slice (some ⟨G7, 0, none⟩) 3 3) (.int .i64 a)
   have hsv := put_sevenA HO9.out (.int .i64 1) (.string ⟨#[115, 99, 97, 108, 101, 95, 98, 121, 95, 116, 114, 117, 115, 116, 95, 114, 97, 116, 105, 111]⟩) (.int .u32 0) (.int .i64 0) (.string ⟨#[]⟩) (.slice (some ⟨G7, 0, none⟩) 3 3) (.int .i64 a)
   have HSzz : Hid (∀ j, j < W.heap.size → j ≠ w.heap.size + 1 → ((((((((v8.setCell ⟨O9, 0, none⟩ (.int .i64 1)).setCell ⟨O9, 1, none⟩ (.string ⟨#[115, 99, 97, 108, 101, 95, 98, 121, 95, 116, 114, 117, 115, 116, 95, 114, 97, 116, 105, 111]⟩)).setCell ⟨O9, 2, none⟩ (.int .u32 0)).setCell ⟨O9, 3, none⟩ (.int .i64 0)).setCell ⟨O9, 4, none⟩ (.string ⟨#[]⟩)).setCell ⟨O9, 5, none⟩ (.slice (some ⟨G7, 0, none⟩) 3 3)).setCell ⟨O9, 6, none⟩ (.int .i64 a))).heap[j]? = W.heap[j]?) := fun j h1 h2 => (hoff.sameSize hosz (by show ¬ j = O9; have := HOB9.out; omega)).trans (HBz.out.block j h1)
   have hbE : Below W.heap.size W ((((((((v8.setCell ⟨O9, 0, none⟩ (.int .i64 1)).setCell ⟨O9, 1, none⟩ (.string ⟨#[115, 99, 97, 108, 101, 95, 98, 121, 95, 116, 114, 117, 115, 116, 95, 114, 97, 116, 105, 111]⟩)).setCell ⟨O9, 2, none⟩ (.int .u32 0)).setCell ⟨O9, 3, none⟩ (.int .i64 0)).setCell ⟨O9, 4, none⟩ (.string ⟨#[]⟩)).setCell ⟨O9, 5, none⟩ (.slice (some ⟨G7, 0, none⟩) 3 3)).setCell ⟨O9, 6, none⟩ (.int .i64 a))) := hoff.below HBz.out (fun j hj => by have := HBz.out.size; omega) (fun j hj e => by have e : j = O9 := e; have := HOB9.out; omega)
   have hrE := (hoff.sameSize hosz (x := G7) (by intro e; have e : G7 = O9 := e; have h1 := HR7.out; rw [e, HO9.out] at h1; simp at h1)).trans HR7.out
   obtain ⟨vE, hvE⟩ : ∃ V, (((((((v8.setCell ⟨O9, 0, none⟩ (.int .i64 1)).setCell ⟨O9, 1, none⟩ (.string ⟨#[115, 99, 97, 108, 101, 95, 98, 121, 95, 116, 114, 117, 115, 116, 95, 114, 97, 116, 105, 111]⟩)).setCell ⟨O9, 2, none⟩ (.int .u32 0)).setCell ⟨O9, 3, none⟩ (.int .i64 0)).setCell ⟨O9, 4, none⟩ (.string ⟨#[]⟩)).setCell ⟨O9, 5, none⟩ (.slice (some ⟨G7, 0, none⟩) 3 3)).setCell ⟨O9, 6, none⟩ (.int .i64 a)) = V := ⟨_, rfl⟩
   rw [hvE] at hsv HSzz hbE hrE
   try rw [hvE]
   have HSE := HSzz
   have hkE := kids_at (w := vE) (S := (fun j => S j ∨ w.heap.size + 1 < j)) (R := [((⟨2, ⟨#[]⟩, 0, 0, ⟨#[]⟩, [], a⟩ : Nd), .slice none 0 0), ((⟨2, ⟨#[]⟩, 1065353216, 0, ⟨#[]⟩, [], a⟩ : Nd), .slice none 0 0), ((⟨2, ⟨#[]⟩, 0, 0, ⟨#[]⟩, [], a⟩ : Nd), .slice none 0 0)]) hrE rfl (List.forall_mem_cons.2 ⟨(kids_none _ _), List.forall_mem_cons.2 ⟨(kids_none _ _), List.forall_mem_cons.2 ⟨(kids_none _ _), fun r h => by cases h⟩⟩⟩) (.inr (by have := HGB7.out; have := HSZ.out; omega)) (by simp)
   have HEND : Hid (Below W.heap.size W vE ∧ W.heap.size ≤ O9 ∧ vE.heap[O9]? = some (.cells #[.int .i64 1, .string ⟨#[115, 99, 97, 108, 101, 95, 98, 121, 95, 116, 114, 117, 115, 116, 95, 114, 97, 116, 105, 111]⟩, .int .u32 0, .int .i64 0, .string ⟨#[]⟩, .slice (some ⟨G7, 0, none⟩) 3 3, .int .i64 a] 29) ∧ Kids vE (inH (fun j => S j ∨ w.heap.size + 1 < j)) (.slice (some ⟨G7, 0, none⟩) 3 3) [(⟨2, ⟨#[]⟩, 0, 0, ⟨#[]⟩, [], a⟩ : Nd), (⟨2, ⟨#[]⟩, 1065353216, 0, ⟨#[]⟩, [], a⟩ : Nd), (⟨2, ⟨#[]⟩, 0, 0, ⟨#[]⟩, [], a⟩ : Nd)]) := ⟨hbE, HOB9.out, hsv, hkE⟩
   clear hoff hosz hsv hbE hkE hrE hvE s0 s1 s2 s3 s4 s5 s6 r0 r1 r2 r3 r4 r5 r6
   refine hK.out _ _ ?_ (fun hHeld => ?_)
   ·((try dsimp only); first | exact HSE.out | exact fun j h1 _ => HBz.out.block j h1 | exact fun j _ _ => rfl)
   clear hK K
   try simp only [Act.put, List.setIfInBounds_toArray, List.set_cons_zero, List.set_cons_succ]
   refine wpAnyH_done (by kernel_rfl) ?_ _
   go_wp2_with fail
   go_meet
   exact ⟨O9, G7, rfl, HEND.out⟩
  refine AllReadyH.cons (i := 9) (by simp only [List.getElem?_toArray, List.getElem?_cons_succ, List.getElem?_cons_zero]; rfl) (fun K hK => ?_) AllReadyH.nil
  go_simp
  obtain ⟨O9, hO9⟩ : ∃ O, W.heap.size = O := ⟨_, rfl⟩
  obtain ⟨v9, hv9⟩ : ∃ V, (W.alloc (.cells #[.int .i64 0, .string ⟨#[]⟩, .int .u32 0, .int .i64 0, .string ⟨#[]⟩, .slice none 0 0, .int .i64 0] 29)).drew = V := ⟨_, rfl⟩
  have hb9 : Below W.heap.size W v9 := by rw [← hv9]; exact bel (bel_alloc _ _) (bel_d _)
  have HO9 : Hid (v9.heap[O9]? = some (.cells #[.int .i64 0, .string ⟨#[]⟩, .int .u32 0, .int .i64 0, .string ⟨#[]⟩, .slice none 0 0, .int .i64 0] 29)) := by show _ = _; rw [← hv9, ← hO9]; exact box_heapA W _
  have HOB9 : Hid (W.heap.size ≤ O9) := by show _ ≤ _; rw [← hO9]; exact HBz.out.size
  have HBz : Hid (Below W.heap.size W v9) := bel HBz.out hb9
  rw [hv9, hO9]
  clear hv9 hO9 hb9
  refine hK.out _ _ ?_ (fun hHeld => ?_)
  ·((try dsimp only); first | exact HSE.out | exact fun j h1 _ => HBz.out.block j h1 | exact fun j _ _ => rfl)
  clear hK K
  try simp only [Act.put, List.setIfInBounds_toArray, List.set_cons_zero, List.set_cons_succ]
  clear hHeld
  refine wpAnyH_ready (rs := [2]) (by kernel_rfl) (by simp) ?_
  refine AllReadyH.cons (i := 2) (by simp only [List.getElem?_toArray, List.getElem?_cons_succ, List.getElem?_cons_zero]; rfl) (fun K hK => ?_) AllReadyH.nil
  go_simp
  (go_at_call 77; (with_reducible refine (HCA2.out _).mono ?_); rintro e v2 ⟨rfl, hb2⟩; have HO9 : Hid (v2.heap[O9]? = some (.cells #[.int .i64 0, .string ⟨#[]⟩, .int .u32 0, .int .i64 0, .string ⟨#[]⟩, .slice none 0 0, .int .i64 0] 29)) := (hb2.block _ (hlt HO9.out)).trans HO9.out; have HBz : Hid (Below W.heap.size W v2) := bel HBz.out hb2; clear hb2)
  try (go_wp2_with fail)
  refine hK.out _ _ ?_ (fun hHeld => ?_)
  ·((try dsimp only); first | exact HSE.out | exact fun j h1 _ => HBz.out.block j h1 | exact fun j _ _ => rfl)
  clear hK K
  try simp only [Act.put, List.setIfInBounds_toArray, List.set_cons_zero, List.set_cons_succ]
  clear hHeld
  refine wpAnyH_ready (rs := [4]) (by kernel_rfl) (by simp) ?_
  refine AllReadyH.cons (i := 4) (by simp only [List.getElem?_toArray, List.getElem?_cons_succ, List.getElem?_cons_zero]; rfl) (fun K hK => ?_) AllReadyH.nil
  go_simp
  (go_at_call 77; (with_reducible refine (HCA4.out _).mono ?_); rintro e v4 ⟨rfl, hb4⟩; have HO9 : Hid (v4.heap[O9]? = some (.cells #[.int .i64 0, .string ⟨#[]⟩, .int .u32 0, .int .i64 0, .string ⟨#[]⟩, .slice none 0 0, .int .i64 0] 29)) := (hb4.block _ (hlt HO9.out)).trans HO9.out; have HBz : Hid (Below W.heap.size W v4) := bel HBz.out hb4; clear hb4)
  try (go_wp2_with fail)
  refine hK.out _ _ ?_ (fun hHeld => ?_)
  ·((try dsimp only); first | exact HSE.out | exact fun j h1 _ => HBz.out.block j h1 | exact fun j _ _ => rfl)
  clear hK K
  try simp only [Act.put, List.setIfInBounds_toArray, List.set_cons_zero, List.set_cons_succ]
  clear hHeld
  refine wpAnyH_ready (rs := [6]) (by kernel_rfl) (by simp) ?_
  refine AllReadyH.cons (i := 6) (by simp only [List.getElem?_toArray, List.getElem?_cons_succ, List.getElem?_cons_zero]; rfl) (fun K hK => ?_) AllReadyH.nil
  go_simp
  (go_at_call 77; (with_reducible refine (HCA6.out _).mono ?_); rintro e v6 ⟨rfl, hb6⟩; have HO9 : Hid (v6.heap[O9]? = some (.cells #[.int .i64 0, .string ⟨#[]⟩, .int .u32 0, .int .i64 0, .string ⟨#[]⟩, .slice none 0 0, .int .i64 0] 29)) := (hb6.block _ (hlt HO9.out)).trans HO9.out; have HBz : Hid (Below W.heap.size W v6) := bel HBz.out hb6; clear hb6)
  try (go_wp2_with fail)
  refine hK.out _ _ ?_ (fun hHeld => ?_)
  ·((try dsimp only); first | exact HSE.out | exact fun j h1 _ => HBz.out.block j h1 | exact fun j _ _ => rfl)
  clear hK K
  try simp only [Act.put, List.setIfInBounds_toArray, List.set_cons_zero, List.set_cons_succ]
  clear hHeld
  refine wpAnyH_ready (rs := [7]) (by kernel_rfl) (by simp) ?_
  refine AllReadyH.cons (i := 7) (by simp only [List.getElem?_toArray, List.getElem?_cons_succ, List.getElem?_cons_zero]; rfl) (fun K hK => ?_) AllReadyH.nil
  go_simp
  obtain ⟨G7, hG7⟩ : ∃ G, v6.heap.size = G := ⟨_, rfl⟩
  obtain ⟨v7, hv7⟩ : ∃ V, v6.alloc (.cells #[.int .i64 2, .string ⟨#[]⟩, .int .u32 0, .int .i64 0, .string ⟨#[]⟩, .slice none 0 0, .int .i64 a, .int .i64 2, .string ⟨#[]⟩, .int .u32 1065353216, .int .i64 0, .string ⟨#[]⟩, .slice none 0 0, .int .i64 a, .int .i64 2, .string ⟨#[]⟩, .int .u32 0, .int .i64 0, .string ⟨#[]⟩, .slice none 0 0, .int .i64 a] 29) = V := ⟨_, rfl⟩
  have hb7 : Below v6.heap.size v6 v7 := by rw [← hv7]; exact bel_alloc _ _
  have HR7 : Hid (v7.heap[G7]? = some (.cells #[.int .i64 2, .string ⟨#[]⟩, .int .u32 0, .int .i64 0, .string ⟨#[]⟩, .slice none 0 0, .int .i64 a, .int .i64 2, .string ⟨#[]⟩, .int .u32 1065353216, .int .i64 0, .string ⟨#[]⟩, .slice none 0 0, .int .i64 a, .int .i64 2, .string ⟨#[]⟩, .int .u32 0, .int .i64 0, .string ⟨#[]⟩, .slice none 0 0, .int .i64 a] 29)) := by show _ = _; rw [← hv7, ← hG7]; exact box_heapA v6 _
  have HGB7 : Hid (W.heap.size ≤ G7) := by show _ ≤ _; rw [← hG7]; exact HBz.out.size
  have HO9 : Hid (v7.heap[O9]? = some (.cells #[.int .i64 0, .string ⟨#[]⟩, .int .u32 0, .int .i64 0, .string ⟨#[]⟩, .slice none 0 0, .int .i64 0] 29)) := (hb7.block _ (hlt HO9.out)).trans HO9.out
  have HBz : Hid (Below W.heap.size W v7) := bel HBz.out hb7
  rw [hv7, hG7]
  clear hv7 hG7 hb7
  refine hK.out _ _ ?_ (fun hHeld => ?_)
  ·((try dsimp only); first | exact HSE.out | exact fun j h1 _ => HBz.out.block j h1 | exact fun j _ _ => rfl)
  clear hK K
  try simp only [Act.put, List.setIfInBounds_toArray, List.set_cons_zero, List.set_cons_succ]
  clear hHeld
  refine wpAnyH_ready (rs := [8]) (by kernel_rfl) (by simp) ?_
  refine AllReadyH.cons (i := 8) (by simp only [List.getElem?_toArray, List.getElem?_cons_succ, List.getElem?_cons_zero]; rfl) (fun K hK => ?_) AllReadyH.nil
  go_simp
  (go_at_call 73; (with_reducible refine (HCA8.out _ _ _ _).mono ?_); rintro e v8 ⟨rfl, hb8⟩; have HO9 : Hid (v8.heap[O9]? = some (.cells #[.int .i64 0, .string ⟨#[]⟩, .int .u32 0, .int .i64 0, .string ⟨#[]⟩, .slice none 0 0, .int .i64 0] 29)) := (hb8.block _ (hlt HO9.out)).trans HO9.out; have HR7 : Hid (v8.heap[G7]? = some (.cells #[.int .i64 2, .string ⟨#[]⟩, .int .u32 0, .int .i64 0, .string ⟨#[]⟩, .slice none 0 0, .int .i64 a, .int .i64 2, .string ⟨#[]⟩, .int .u32 1065353216, .int .i64 0, .string ⟨#[]⟩, .slice none 0 0, .int .i64 a, .int .i64 2, .string ⟨#[]⟩, .int .u32 0, .int .i64 0, .string ⟨#[]⟩, .slice none 0 0, .int .i64 a] 29)) := (hb8.block _ (hlt HR7.out)).trans HR7.out; have HBz : Hid (Below W.heap.size W v8) := bel HBz.out hb8; clear hb8)
  try (go_wp2_with fail)
  refine hK.out _ _ ?_ (fun hHeld => ?_)
  ·((try dsimp only); first | exact HSE.out | exact fun j h1 _ => HBz.out.block j h1 | exact fun j _ _ => rfl)
  clear hK K
  try simp only [Act.put, List.setIfInBounds_toArray, List.set_cons_zero, List.set_cons_succ]
  clear hHeld
  refine wpAnyH_ready (rs := [10]) (by kernel_rfl) (by simp) ?_
  refine AllReadyH.cons (i := 10) (by simp only [List.getElem?_toArray, List.getElem?_cons_succ, List.getElem?_cons_zero]; rfl) (fun K hK => ?_) AllReadyH.nil
  obtain ⟨⟨s0, s1, s2, s3, s4, s5, s6⟩, r0, r1, r2, r3, r4, r5, r6⟩ := sevenA HO9.out
  go_simp
  have hoff := offS_seven v8 O9 (.int .i64 1) (.string ⟨#[115, 99, 97, 108, 101, 95, 98, 121, 95, 116, 114, 117, 115, 116, 95, 114, 97, 116, 105, 111]⟩) (.int .u32 0) (.int .i64 0) (.string ⟨#[]⟩) (.slice (some ⟨G7, 0, none⟩) 3 3) (.int .i64 a)
  have hosz := size_sevenS v8 O9 (.int .i64 1) (.string ⟨#[115, 99, 97, 108, 101, 95, 98, 121, 95, 116, 114, 117, 115, 116, 95, 114, 97, 116, 105, 111]⟩) (.int .u32 0) (.int .i64 0) (.string ⟨#[]⟩) (.slice (some ⟨G7, 0, none⟩) 3 3) (.int .i64 a)
  have hsv := put_sevenA HO9.out (.int .i64 1) (.string ⟨#[115, 99, 97, 108, 101, 95, 98, 121, 95, 116, 114, 117, 115, 116, 95, 114, 97, 116, 105, 111]⟩) (.int .u32 0) (.int .i64 0) (.string ⟨#[]⟩) (.slice (some ⟨G7, 0, none⟩) 3 3) (.int .i64 a)
  have HSzz : Hid (∀ j, j < W.heap.size → j ≠ w.heap.size + 1 → ((((((((v8.setCell ⟨O9, 0, none⟩ (.int .i64 1)).setCell ⟨O9, 1, none⟩ (.string ⟨#[115, 99, 97, 108, 101, 95, 98, 121, 95, 116, 114, 117, 115, 116, 95, 114, 97, 116, 105, 111]⟩)).setCell ⟨O9, 2, none⟩ (.int .u32 0)).setCell ⟨O9, 3, none⟩ (.int .i64 0)).setCell ⟨O9, 4, none⟩ (.string ⟨#[]⟩)).setCell ⟨O9, 5, none⟩ (.slice (some ⟨G7, 0, none⟩) 3 3)).setCell ⟨O9, 6, none⟩ (.int .i64 a))).heap[j]? = W.heap[j]?) := fun j h1 h2 => (hoff.sameSize hosz (by show ¬ j = O9; have := HOB9.out; omega)).trans (HBz.out.block j h1)
  have hbE : Below W.heap.size W ((((((((v8.setCell ⟨O9, 0, none⟩ (.int .i64 1)).setCell ⟨O9, 1, none⟩ (.string ⟨#[115, 99, 97, 108, 101, 95, 98, 121, 95, 116, 114, 117, 115, 116, 95, 114, 97, 116, 105, 111]⟩)).setCell ⟨O9, 2, none⟩ (.int .u32 0)).setCell ⟨O9, 3, none⟩ (.int .i64 0)).setCell ⟨O9, 4, none⟩ (.string ⟨#[]⟩)).setCell ⟨O9, 5, none⟩ (.slice (some ⟨G7, 0, none⟩) 3 3)).setCell ⟨O9, 6, none⟩ (.int .i64 a))) := hoff.below HBz.out (fun j hj => by have := HBz.out.size; omega) (fun j hj e => by have e : j = O9 := e; have := HOB9.out; omega)
  have hrE := (hoff.sameSize hosz (x := G7) (by intro e; have e : G7 = O9 := e; have h1 := HR7.out; rw [e, HO9.out] at h1; simp at h1)).trans HR7.out
  obtain ⟨vE, hvE⟩ : ∃ V, (((((((v8.setCell ⟨O9, 0, none⟩ (.int .i64 1)).setCell ⟨O9, 1, none⟩ (.string ⟨#[115, 99, 97, 108, 101, 95, 98, 121, 95, 116, 114, 117, 115, 116, 95, 114, 97, 116, 105, 111]⟩)).setCell ⟨O9, 2, none⟩ (.int .u32 0)).setCell ⟨O9, 3, none⟩ (.int .i64 0)).setCell ⟨O9, 4, none⟩ (.string ⟨#[]⟩)).setCell ⟨O9, 5, none⟩ (.slice (some ⟨G7, 0, none⟩) 3 3)).setCell ⟨O9, 6, none⟩ (.int .i64 a)) = V := ⟨_, rfl⟩
  rw [hvE] at hsv HSzz hbE hrE
  try rw [hvE]
  have HSE := HSzz
  have hkE := kids_at (w := vE) (S := (fun j => S j ∨ w.heap.size + 1 < j)) (R := [((⟨2, ⟨#[]⟩, 0, 0, ⟨#[]⟩, [], a⟩ : Nd), .slice none 0 0), ((⟨2, ⟨#[]⟩, 1065353216, 0, ⟨#[]⟩, [], a⟩ : Nd), .slice none 0 0), ((⟨2, ⟨#[]⟩, 0, 0, ⟨#[]⟩, [], a⟩ : Nd), .slice none 0 0)]) hrE rfl (List.forall_mem_cons.2 ⟨(kids_none _ _), List.forall_mem_cons.2 ⟨(kids_none _ _), List.forall_mem_cons.2 ⟨(kids_none _ _), fun r h => by cases h⟩⟩⟩) (.inr (by have := HGB7.out; have := HSZ.out; omega)) (by simp)
  have HEND : Hid (Below W.heap.size W vE ∧ W.heap.size ≤ O9 ∧ vE.heap[O9]? = some (.cells #[.int .i64 1, .string ⟨#[115, 99, 97, 108, 101, 95, 98, 121, 95, 116, 114, 117, 115, 116, 95, 114, 97, 116, 105, 111]⟩, .int .u32 0, .int .i64 0, .string ⟨#[]⟩, .slice (some ⟨G7, 0, none⟩) 3 3, .int .i64 a] 29) ∧ Kids vE (inH (fun j => S j ∨ w.heap.size + 1 < j)) (.slice (some ⟨G7, 0, none⟩) 3 3) [(⟨2, ⟨#[]⟩, 0, 0, ⟨#[]⟩, [], a⟩ : Nd), (⟨2, ⟨#[]⟩, 1065353216, 0, ⟨#[]⟩, [], a⟩ : Nd), (⟨2, ⟨#[]⟩, 0, 0, ⟨#[]⟩, [], a⟩ : Nd)]) := ⟨hbE, HOB9.out, hsv, hkE⟩
  clear hoff hosz hsv hbE hkE hrE hvE s0 s1 s2 s3 s4 s5 s6 r0 r1 r2 r3 r4 r5 r6
  refine hK.out _ _ ?_ (fun hHeld => ?_)
  ·((try dsimp only); first | exact HSE.out | exact fun j h1 _ => HBz.out.block j h1 | exact fun j _ _ => rfl)
  clear hK K
  try simp only [Act.put, List.setIfInBounds_toArray, List.set_cons_zero, List.set_cons_succ]
  refine wpAnyH_done (by kernel_rfl) ?_ _
  go_wp2_with fail
  go_meet
  exact ⟨O9, G7, rfl, HEND.out⟩
 case rest =>
  obtain ⟨O, GG, rfl, HE⟩ := hcut
  have HON : Hid (O ≠ w.heap.size + 1) := by show O ≠ _; have := HE.out.2.1; have := HSZ.out; omega
  have HTW : Hid (TwoB w b a wc) := HTW.out.below HE.out.1
  have HPM : Hid (PM wc b n nd S) := HPM.out.below HE.out.1
  have HSB : Hid (∀ j, (j = b ∨ S j) → j < wc.heap.size ∧ j ≠ w.heap.size + 1) := fun j hj => ⟨by have := (HSB.out j hj).1; have := HE.out.1.size; omega, (HSB.out j hj).2⟩
  have HSZ : Hid (w.heap.size + 2 ≤ wc.heap.size) := hlt HTW.out.2.2
  have HKG0 : Hid (∀ x, Below wc.heap.size wc x → Kids x (inH (fun j => S j ∨ w.heap.size + 1 < j)) (.slice (some ⟨GG, 0, none⟩) 3 3) [(⟨2, ⟨#[]⟩, 0, 0, ⟨#[]⟩, [], a⟩ : Nd), (⟨2, ⟨#[]⟩, 1065353216, 0, ⟨#[]⟩, [], a⟩ : Nd), (⟨2, ⟨#[]⟩, 0, 0, ⟨#[]⟩, [], a⟩ : Nd)]) := fun x hx => HE.out.2.2.2.below hx
  clear g0 g1
  obtain ⟨⟨g0, g1⟩, -⟩ := twoC HTW.out.2.1
  obtain ⟨⟨q0, q1, q2, q3, q4, q5, q6⟩, -⟩ := sevenA HE.out.2.2.1
  have HBz : Hid (Below wc.heap.size wc wc) := Below.refl _ _
  obtain ⟨hrn, hrl, hok⟩ := HRN.out
  have HRT : Hid (∀ x, Below wc.heap.size wc x → Calls Tryz.prog 65 #[.agg #[.map (some b), .int .i64 a]] x fun e w' => ∃ p c, e = .returned (.agg #[.int .i64 1, .string rnm, .int .u32 0, .int .i64 0, .string ⟨#[]⟩, .slice p rl.length c, .int .i64 a]) ∧ Kids w' (inH (fun j => S j ∨ w.heap.size + 1 < j)) (.slice p rl.length c) rl ∧ Below x.heap.size x w') := fun x hx => by
   have := rated_any b n a nd S x_rate x HK_x_rate.out hok (fun j hj => by have := (HSB.out j (.inr hj)).1; have := hx.size; omega) (HPM.out.below hx)
   rw [hrn, hrl] at this
   exact this.mono fun e w' ⟨p, c, h1, h2, h3⟩ => ⟨p, c, h1, h2.weak (inH.sub fun j h => h.imp id fun h => by have := hx.size; have := HSZ.out; omega), h3⟩
  have HDC : Hid (∀ x, Below wc.heap.size wc x → Calls Tryz.prog 70 #[.agg #[.map (some b), .int .i64 a]] x fun e w' => ∃ p c, e = .returned (.agg #[.int .i64 1, .string ⟨#[109, 97, 115, 107, 101, 100]⟩, .int .u32 0, .int .i64 0, .string ⟨#[]⟩, .slice p 2 c, .int .i64 a]) ∧ Kids w' (inH (fun j => S j ∨ w.heap.size + 1 < j)) (.slice p 2 c) [x_mask, madeN a ⟨#[97, 100, 100, 95, 100, 101, 99, 97, 121, 101, 100, 95, 119, 101, 105, 103, 104, 116, 115]⟩ [x_weight_decay]] ∧ Below x.heap.size x w') := fun x hx => (decayed_any b n a nd S x_mask x_weight_decay x HK_x_mask.out HK_x_weight_decay.out (fun j hj => by have := (HSB.out j (.inr hj)).1; have := hx.size; omega) (HPM.out.below hx)).mono fun e w' ⟨p, c, h1, h2, h3⟩ => ⟨p, c, h1, h2.weak (inH.sub fun j h => h.imp id fun h => by have := hx.size; have := HSZ.out; omega), h3⟩
  clear hrn hrl hok HRN HE
  have HOF3 : Hid (∀ (q : Option Addr) (c : Nat) (x : World), Below wc.heap.size wc x → StrsA x q [⟨#[98, 49]⟩, ⟨#[98, 50]⟩, ⟨#[101, 112, 115]⟩, ⟨#[101, 112, 115, 95, 114, 111, 111, 116]⟩] → Calls Tryz.prog 69 #[.agg #[.map (some b), .int .i64 a], .string ⟨#[115, 99, 97, 108, 101, 95, 98, 121, 95, 97, 100, 97, 109]⟩, .slice q 4 c] x fun e w' => ∃ p c, e = .returned (.agg #[.int .i64 1, .string ⟨#[115, 99, 97, 108, 101, 95, 98, 121, 95, 97, 100, 97, 109]⟩, .int .u32 0, .int .i64 0, .string ⟨#[]⟩, .slice p 4 c, .int .i64 a]) ∧ Kids w' (inH (fun j => S j ∨ w.heap.size + 1 < j)) (.slice p 4 c) [x_b1, x_b2, x_eps, x_eps_root] ∧ Below x.heap.size x w') := fun q c x hx hq => (of_any b n a nd S ⟨#[115, 99, 97, 108, 101, 95, 98, 121, 95, 97, 100, 97, 109]⟩ [⟨#[98, 49]⟩, ⟨#[98, 50]⟩, ⟨#[101, 112, 115]⟩, ⟨#[101, 112, 115, 95, 114, 111, 111, 116]⟩] [x_b1, x_b2, x_eps, x_eps_root] q c x (by decide) (by decide) (by simp [HK_x_b1.out, HK_x_b2.out, HK_x_eps.out, HK_x_eps_root.out]) (fun j hj => by have := (HSB.out j (.inr hj)).1; have := hx.size; omega) (HPM.out.below hx) hq).mono fun e w' ⟨p, c, h1, h2, h3⟩ => ⟨p, c, h1, h2.weak (inH.sub fun j h => h.imp id fun h => by have := hx.size; have := HSZ.out; omega), h3⟩
  have HCA10 : Hid (∀ (q : Option Addr) (m c : Nat) (x : World), Calls Tryz.prog 68 #[.agg #[.map (some b), .int .i64 a], .slice q m c] x fun e w' => e = .returned (.agg #[.int .i64 1, .string ⟨#[99, 104, 97, 105, 110]⟩, .int .u32 0, .int .i64 0, .string ⟨#[]⟩, .slice q m c, .int .i64 a]) ∧ Below x.heap.size x w') := fun q m c x => pchain_any b a q m c x
  go_upto_region 2 with fail
  refine wp_region_held_drew (S := (fun x => ∀ j, j < wc.heap.size → j ≠ w.heap.size + 1 → x.heap[j]? = wc.heap[j]?)) (by kernel_rfl) ?_ (fun hHeld => ?_)
  ·((try dsimp only); first | exact HSE.out | exact fun j h1 _ => HBz.out.block j h1 | exact fun j _ _ => rfl)
  refine wpAnyH_take (i := 0) (v := ?_) (by simp only [List.getElem?_toArray, List.getElem?_cons_succ, List.getElem?_cons_zero]; rfl) (by kernel_rfl) (by kernel_rfl) (by kernel_rfl) (by exact fun _ _ _ h => h) (Or.inl ⟨by rfl, ?_⟩) (by assumption) ?_
  rotate_left 1
  ·(intro wS hSw; have hSb : ∀ j, j < wc.heap.size → j ≠ w.heap.size + 1 → wS.heap[j]? = wc.heap[j]? := hSw; clear hSw; have zp := (cell_to hSb (by simp) g0); have zq := (cell_to hSb (by simp) g1); have y0 := cell_to hSb HON.out q0; have y1 := cell_to hSb HON.out q1; have y2 := cell_to hSb HON.out q2; have y3 := cell_to hSb HON.out q3; have y4 := cell_to hSb HON.out q4; have y5 := cell_to hSb HON.out q5; have y6 := cell_to hSb HON.out q6; go_simp; try (with_reducible rfl))
  try simp only [Act.put, List.setIfInBounds_toArray, List.set_cons_zero, List.set_cons_succ]
  refine wpAnyH_take (i := 1) (v := ?_) (by simp only [List.getElem?_toArray, List.getElem?_cons_succ, List.getElem?_cons_zero]; rfl) (by kernel_rfl) (by kernel_rfl) (by kernel_rfl) (by exact fun _ _ _ h => h) (Or.inl ⟨by rfl, ?_⟩) (by assumption) ?_
  rotate_left 1
  ·(intro wS hSw; have hSb : ∀ j, j < wc.heap.size → j ≠ w.heap.size + 1 → wS.heap[j]? = wc.heap[j]? := hSw; clear hSw; have zp := (cell_to hSb (by simp) g0); have zq := (cell_to hSb (by simp) g1); have y0 := cell_to hSb HON.out q0; have y1 := cell_to hSb HON.out q1; have y2 := cell_to hSb HON.out q2; have y3 := cell_to hSb HON.out q3; have y4 := cell_to hSb HON.out q4; have y5 := cell_to hSb HON.out q5; have y6 := cell_to hSb HON.out q6; go_simp; try (with_reducible rfl))
  try simp only [Act.put, List.setIfInBounds_toArray, List.set_cons_zero, List.set_cons_succ]
  refine wpAnyH_take (i := 4) (v := ?_) (by simp only [List.getElem?_toArray, List.getElem?_cons_succ, List.getElem?_cons_zero]; rfl) (by kernel_rfl) (by kernel_rfl) (by kernel_rfl) (by exact fun _ _ _ h => h) (Or.inl ⟨by rfl, ?_⟩) (by assumption) ?_
  rotate_left 1
  ·(intro wS hSw; have hSb : ∀ j, j < wc.heap.size → j ≠ w.heap.size + 1 → wS.heap[j]? = wc.heap[j]? := hSw; clear hSw; have zp := (cell_to hSb (by simp) g0); have zq := (cell_to hSb (by simp) g1); have y0 := cell_to hSb HON.out q0; have y1 := cell_to hSb HON.out q1; have y2 := cell_to hSb HON.out q2; have y3 := cell_to hSb HON.out q3; have y4 := cell_to hSb HON.out q4; have y5 := cell_to hSb HON.out q5; have y6 := cell_to hSb HON.out q6; go_simp; try (with_reducible rfl))
  try simp only [Act.put, List.setIfInBounds_toArray, List.set_cons_zero, List.set_cons_succ]
  refine wpAnyH_take (i := 6) (v := ?_) (by simp only [List.getElem?_toArray, List.getElem?_cons_succ, List.getElem?_cons_zero]; rfl) (by kernel_rfl) (by kernel_rfl) (by kernel_rfl) (by exact fun _ _ _ h => h) (Or.inl ⟨by rfl, ?_⟩) (by assumption) ?_
  rotate_left 1
  ·(intro wS hSw; have hSb : ∀ j, j < wc.heap.size → j ≠ w.heap.size + 1 → wS.heap[j]? = wc.heap[j]? := hSw; clear hSw; have zp := (cell_to hSb (by simp) g0); have zq := (cell_to hSb (by simp) g1); have y0 := cell_to hSb HON.out q0; have y1 := cell_to hSb HON.out q1; have y2 := cell_to hSb HON.out q2; have y3 := cell_to hSb HON.out q3; have y4 := cell_to hSb HON.out q4; have y5 := cell_to hSb HON.out q5; have y6 := cell_to hSb HON.out q6; go_simp; try (with_reducible rfl))
  try simp only [Act.put, List.setIfInBounds_toArray, List.set_cons_zero, List.set_cons_succ]
  refine wpAnyH_take (i := 7) (v := ?_) (by simp only [List.getElem?_toArray, List.getElem?_cons_succ, List.getElem?_cons_zero]; rfl) (by kernel_rfl) (by kernel_rfl) (by kernel_rfl) (by exact fun _ _ _ h => h) (Or.inl ⟨by rfl, ?_⟩) (by assumption) ?_
  rotate_left 1
  ·(intro wS hSw; have hSb : ∀ j, j < wc.heap.size → j ≠ w.heap.size + 1 → wS.heap[j]? = wc.heap[j]? := hSw; clear hSw; have zp := (cell_to hSb (by simp) g0); have zq := (cell_to hSb (by simp) g1); have y0 := cell_to hSb HON.out q0; have y1 := cell_to hSb HON.out q1; have y2 := cell_to hSb HON.out q2; have y3 := cell_to hSb HON.out q3; have y4 := cell_to hSb HON.out q4; have y5 := cell_to hSb HON.out q5; have y6 := cell_to hSb HON.out q6; go_simp; try (with_reducible rfl))
  try simp only [Act.put, List.setIfInBounds_toArray, List.set_cons_zero, List.set_cons_succ]
  clear hHeld
  refine wpAnyH_ready (rs := [2]) (by kernel_rfl) (by simp) ?_
  refine AllReadyH.cons (i := 2) (by simp only [List.getElem?_toArray, List.getElem?_cons_succ, List.getElem?_cons_zero]; rfl) (fun K hK => ?_) AllReadyH.nil
  go_simp
  obtain ⟨G2, hG2⟩ : ∃ G, wc.heap.size = G := ⟨_, rfl⟩
  obtain ⟨v2, hv2⟩ : ∃ V, (wc.alloc (.cells #[.string ⟨#[98, 49]⟩, .string ⟨#[98, 50]⟩, .string ⟨#[101, 112, 115]⟩, .string ⟨#[101, 112, 115, 95, 114, 111, 111, 116]⟩] 9)).drew = V := ⟨_, rfl⟩
  have hb2 : Below wc.heap.size wc v2 := by rw [← hv2]; exact bel (bel_alloc _ _) (bel_d _)
  have HT2 : Hid (StrsA v2 (some ⟨G2, 0, none⟩) [⟨#[98, 49]⟩, ⟨#[98, 50]⟩, ⟨#[101, 112, 115]⟩, ⟨#[101, 112, 115, 95, 114, 111, 111, 116]⟩]) := strs_mk (by rw [← hv2, ← hG2]; exact box_heapA wc _)
  have HBz : Hid (Below wc.heap.size wc v2) := bel HBz.out hb2
  rw [hv2, hG2]
  clear hv2 hG2 hb2
  refine hK.out _ _ ?_ (fun hHeld => ?_)
  ·((try dsimp only); first | exact HSE.out | exact fun j h1 _ => HBz.out.block j h1 | exact fun j _ _ => rfl)
  clear hK K
  try simp only [Act.put, List.setIfInBounds_toArray, List.set_cons_zero, List.set_cons_succ]
  clear hHeld
  refine wpAnyH_ready (rs := [3]) (by kernel_rfl) (by simp) ?_
  refine AllReadyH.cons (i := 3) (by simp only [List.getElem?_toArray, List.getElem?_cons_succ, List.getElem?_cons_zero]; rfl) (fun K hK => ?_) AllReadyH.nil
  go_simp
  (go_at_call 69; (with_reducible refine (HOF3.out _ _ _ HBz.out HT2.out).mono ?_); rintro e v3 ⟨p3, c3, rfl, hk3, hb3⟩; have HK3 : Hid (Kids v3 (inH (fun j => S j ∨ w.heap.size + 1 < j)) (.slice p3 4 c3) [x_b1, x_b2, x_eps, x_eps_root]) := hk3; clear hk3; have HT2 : Hid (StrsA v3 (some ⟨G2, 0, none⟩) [⟨#[98, 49]⟩, ⟨#[98, 50]⟩, ⟨#[101, 112, 115]⟩, ⟨#[101, 112, 115, 95, 114, 111, 111, 116]⟩]) := HT2.out.below hb3; have HBz : Hid (Below wc.heap.size wc v3) := bel HBz.out hb3; clear hb3)
  try (go_wp2_with fail)
  refine hK.out _ _ ?_ (fun hHeld => ?_)
  ·((try dsimp only); first | exact HSE.out | exact fun j h1 _ => HBz.out.block j h1 | exact fun j _ _ => rfl)
  clear hK K
  try simp only [Act.put, List.setIfInBounds_toArray, List.set_cons_zero, List.set_cons_succ]
  clear hHeld
  refine wpAnyH_ready (rs := [5]) (by kernel_rfl) (by simp) ?_
  refine AllReadyH.cons (i := 5) (by simp only [List.getElem?_toArray, List.getElem?_cons_succ, List.getElem?_cons_zero]; rfl) (fun K hK => ?_) AllReadyH.nil
  go_simp
  (go_at_call 70; (with_reducible refine (HDC.out _ HBz.out).mono ?_); rintro e v5 ⟨p5, c5, rfl, hk5, hb5⟩; have HK5 : Hid (Kids v5 (inH (fun j => S j ∨ w.heap.size + 1 < j)) (.slice p5 2 c5) [x_mask, madeN a ⟨#[97, 100, 100, 95, 100, 101, 99, 97, 121, 101, 100, 95, 119, 101, 105, 103, 104, 116, 115]⟩ [x_weight_decay]]) := hk5; clear hk5; have HT2 : Hid (StrsA v5 (some ⟨G2, 0, none⟩) [⟨#[98, 49]⟩, ⟨#[98, 50]⟩, ⟨#[101, 112, 115]⟩, ⟨#[101, 112, 115, 95, 114, 111, 111, 116]⟩]) := HT2.out.below hb5; have HK3 : Hid (Kids v5 (inH (fun j => S j ∨ w.heap.size + 1 < j)) (.slice p3 4 c3) [x_b1, x_b2, x_eps, x_eps_root]) := HK3.out.below hb5; have HBz : Hid (Below wc.heap.size wc v5) := bel HBz.out hb5; clear hb5)
  try (go_wp2_with fail)
  refine hK.out _ _ ?_ (fun hHeld => ?_)
  ·((try dsimp only); first | exact HSE.out | exact fun j h1 _ => HBz.out.block j h1 | exact fun j _ _ => rfl)
  clear hK K
  try simp only [Act.put, List.setIfInBounds_toArray, List.set_cons_zero, List.set_cons_succ]
  clear hHeld
  refine wpAnyH_ready (rs := [8]) (by kernel_rfl) (by simp) ?_
  refine AllReadyH.cons (i := 8) (by simp only [List.getElem?_toArray, List.getElem?_cons_succ, List.getElem?_cons_zero]; rfl) (fun K hK => ?_) AllReadyH.nil
  go_simp
  (go_at_call 65; (with_reducible refine (HRT.out _ HBz.out).mono ?_); rintro e v8 ⟨p8, c8, rfl, hk8, hb8⟩; have HK8 : Hid (Kids v8 (inH (fun j => S j ∨ w.heap.size + 1 < j)) (.slice p8 rl.length c8) rl) := hk8; clear hk8; have HT2 : Hid (StrsA v8 (some ⟨G2, 0, none⟩) [⟨#[98, 49]⟩, ⟨#[98, 50]⟩, ⟨#[101, 112, 115]⟩, ⟨#[101, 112, 115, 95, 114, 111, 111, 116]⟩]) := HT2.out.below hb8; have HK3 : Hid (Kids v8 (inH (fun j => S j ∨ w.heap.size + 1 < j)) (.slice p3 4 c3) [x_b1, x_b2, x_eps, x_eps_root]) := HK3.out.below hb8; have HK5 : Hid (Kids v8 (inH (fun j => S j ∨ w.heap.size + 1 < j)) (.slice p5 2 c5) [x_mask, madeN a ⟨#[97, 100, 100, 95, 100, 101, 99, 97, 121, 101, 100, 95, 119, 101, 105, 103, 104, 116, 115]⟩ [x_weight_decay]]) := HK5.out.below hb8; have HBz : Hid (Below wc.heap.size wc v8) := bel HBz.out hb8; clear hb8)
  try (go_wp2_with fail)
  refine hK.out _ _ ?_ (fun hHeld => ?_)
  ·((try dsimp only); first | exact HSE.out | exact fun j h1 _ => HBz.out.block j h1 | exact fun j _ _ => rfl)
  clear hK K
  try simp only [Act.put, List.setIfInBounds_toArray, List.set_cons_zero, List.set_cons_succ]
  clear hHeld
  refine wpAnyH_ready (rs := [9]) (by kernel_rfl) (by simp) ?_
  refine AllReadyH.cons (i := 9) (by simp only [List.getElem?_toArray, List.getElem?_cons_succ, List.getElem?_cons_zero]; rfl) (fun K hK => ?_) AllReadyH.nil
  go_simp
  have hk9 := kids_row (w := v8) (S := (fun j => S j ∨ w.heap.size + 1 < j)) (R := [(madeN a ⟨#[115, 99, 97, 108, 101, 95, 98, 121, 95, 97, 100, 97, 109]⟩ [x_b1, x_b2, x_eps, x_eps_root], .slice p3 4 c3), (madeN a ⟨#[109, 97, 115, 107, 101, 100]⟩ [x_mask, madeN a ⟨#[97, 100, 100, 95, 100, 101, 99, 97, 121, 101, 100, 95, 119, 101, 105, 103, 104, 116, 115]⟩ [x_weight_decay]], .slice p5 2 c5), (madeN a ⟨#[115, 99, 97, 108, 101, 95, 98, 121, 95, 116, 114, 117, 115, 116, 95, 114, 97, 116, 105, 111]⟩ [(⟨2, ⟨#[]⟩, 0, 0, ⟨#[]⟩, [], a⟩ : Nd), (⟨2, ⟨#[]⟩, 1065353216, 0, ⟨#[]⟩, [], a⟩ : Nd), (⟨2, ⟨#[]⟩, 0, 0, ⟨#[]⟩, [], a⟩ : Nd)], .slice (some ⟨GG, 0, none⟩) 3 3), (madeN a rnm rl, .slice p8 rl.length c8)]) (cs := #[.int .i64 1, .string ⟨#[115, 99, 97, 108, 101, 95, 98, 121, 95, 97, 100, 97, 109]⟩, .int .u32 0, .int .i64 0, .string ⟨#[]⟩, .slice p3 4 c3, .int .i64 a, .int .i64 1, .string ⟨#[109, 97, 115, 107, 101, 100]⟩, .int .u32 0, .int .i64 0, .string ⟨#[]⟩, .slice p5 2 c5, .int .i64 a, .int .i64 1, .string ⟨#[115, 99, 97, 108, 101, 95, 98, 121, 95, 116, 114, 117, 115, 116, 95, 114, 97, 116, 105, 111]⟩, .int .u32 0, .int .i64 0, .string ⟨#[]⟩, .slice (some ⟨GG, 0, none⟩) 3 3, .int .i64 a, .int .i64 1, .string rnm, .int .u32 0, .int .i64 0, .string ⟨#[]⟩, .slice p8 rl.length c8, .int .i64 a]) rfl (List.forall_mem_cons.2 ⟨HK3.out, List.forall_mem_cons.2 ⟨HK5.out, List.forall_mem_cons.2 ⟨(HKG0.out _ HBz.out), List.forall_mem_cons.2 ⟨HK8.out, fun r h => by cases h⟩⟩⟩⟩) (.inr (by have := HBz.out.size; have := HSZ.out; omega)) (by simp)
  obtain ⟨G9, hG9⟩ : ∃ G, v8.heap.size = G := ⟨_, rfl⟩
  have hb9 : Below v8.heap.size v8 (v8.alloc (.cells #[.int .i64 1, .string ⟨#[115, 99, 97, 108, 101, 95, 98, 121, 95, 97, 100, 97, 109]⟩, .int .u32 0, .int .i64 0, .string ⟨#[]⟩, .slice p3 4 c3, .int .i64 a, .int .i64 1, .string ⟨#[109, 97, 115, 107, 101, 100]⟩, .int .u32 0, .int .i64 0, .string ⟨#[]⟩, .slice p5 2 c5, .int .i64 a, .int .i64 1, .string ⟨#[115, 99, 97, 108, 101, 95, 98, 121, 95, 116, 114, 117, 115, 116, 95, 114, 97, 116, 105, 111]⟩, .int .u32 0, .int .i64 0, .string ⟨#[]⟩, .slice (some ⟨GG, 0, none⟩) 3 3, .int .i64 a, .int .i64 1, .string rnm, .int .u32 0, .int .i64 0, .string ⟨#[]⟩, .slice p8 rl.length c8, .int .i64 a] 29)) := bel_alloc _ _
  obtain ⟨v9, hv9⟩ : ∃ V, v8.alloc (.cells #[.int .i64 1, .string ⟨#[115, 99, 97, 108, 101, 95, 98, 121, 95, 97, 100, 97, 109]⟩, .int .u32 0, .int .i64 0, .string ⟨#[]⟩, .slice p3 4 c3, .int .i64 a, .int .i64 1, .string ⟨#[109, 97, 115, 107, 101, 100]⟩, .int .u32 0, .int .i64 0, .string ⟨#[]⟩, .slice p5 2 c5, .int .i64 a, .int .i64 1, .string ⟨#[115, 99, 97, 108, 101, 95, 98, 121, 95, 116, 114, 117, 115, 116, 95, 114, 97, 116, 105, 111]⟩, .int .u32 0, .int .i64 0, .string ⟨#[]⟩, .slice (some ⟨GG, 0, none⟩) 3 3, .int .i64 a, .int .i64 1, .string rnm, .int .u32 0, .int .i64 0, .string ⟨#[]⟩, .slice p8 rl.length c8, .int .i64 a] 29) = V := ⟨_, rfl⟩
  rw [hG9] at hk9
  rw [hv9] at hb9
  have HK9 : Hid (Kids v9 (inH (fun j => S j ∨ w.heap.size + 1 < j)) (.slice (some ⟨G9, 0, none⟩) 4 4) [madeN a ⟨#[115, 99, 97, 108, 101, 95, 98, 121, 95, 97, 100, 97, 109]⟩ [x_b1, x_b2, x_eps, x_eps_root], madeN a ⟨#[109, 97, 115, 107, 101, 100]⟩ [x_mask, madeN a ⟨#[97, 100, 100, 95, 100, 101, 99, 97, 121, 101, 100, 95, 119, 101, 105, 103, 104, 116, 115]⟩ [x_weight_decay]], madeN a ⟨#[115, 99, 97, 108, 101, 95, 98, 121, 95, 116, 114, 117, 115, 116, 95, 114, 97, 116, 105, 111]⟩ [(⟨2, ⟨#[]⟩, 0, 0, ⟨#[]⟩, [], a⟩ : Nd), (⟨2, ⟨#[]⟩, 1065353216, 0, ⟨#[]⟩, [], a⟩ : Nd), (⟨2, ⟨#[]⟩, 0, 0, ⟨#[]⟩, [], a⟩ : Nd)], madeN a rnm rl]) := by have := hk9; rw [hv9] at this; exact this
  have HT2 : Hid (StrsA v9 (some ⟨G2, 0, none⟩) [⟨#[98, 49]⟩, ⟨#[98, 50]⟩, ⟨#[101, 112, 115]⟩, ⟨#[101, 112, 115, 95, 114, 111, 111, 116]⟩]) := HT2.out.below hb9
  have HK3 : Hid (Kids v9 (inH (fun j => S j ∨ w.heap.size + 1 < j)) (.slice p3 4 c3) [x_b1, x_b2, x_eps, x_eps_root]) := HK3.out.below hb9
  have HK5 : Hid (Kids v9 (inH (fun j => S j ∨ w.heap.size + 1 < j)) (.slice p5 2 c5) [x_mask, madeN a ⟨#[97, 100, 100, 95, 100, 101, 99, 97, 121, 101, 100, 95, 119, 101, 105, 103, 104, 116, 115]⟩ [x_weight_decay]]) := HK5.out.below hb9
  have HK8 : Hid (Kids v9 (inH (fun j => S j ∨ w.heap.size + 1 < j)) (.slice p8 rl.length c8) rl) := HK8.out.below hb9
  have HBz : Hid (Below wc.heap.size wc v9) := bel HBz.out hb9
  rw [hv9, hG9]
  clear hk9 hv9 hG9 hb9
  refine hK.out _ _ ?_ (fun hHeld => ?_)
  ·((try dsimp only); first | exact HSE.out | exact fun j h1 _ => HBz.out.block j h1 | exact fun j _ _ => rfl)
  clear hK K
  try simp only [Act.put, List.setIfInBounds_toArray, List.set_cons_zero, List.set_cons_succ]
  clear hHeld
  refine wpAnyH_ready (rs := [10]) (by kernel_rfl) (by simp) ?_
  refine AllReadyH.cons (i := 10) (by simp only [List.getElem?_toArray, List.getElem?_cons_succ, List.getElem?_cons_zero]; rfl) (fun K hK => ?_) AllReadyH.nil
  go_simp
  (go_at_call 68; (with_reducible refine (HCA10.out _ _ _ _).mono ?_); rintro e v10 ⟨rfl, hb10⟩; have HT2 : Hid (StrsA v10 (some ⟨G2, 0, none⟩) [⟨#[98, 49]⟩, ⟨#[98, 50]⟩, ⟨#[101, 112, 115]⟩, ⟨#[101, 112, 115, 95, 114, 111, 111, 116]⟩]) := HT2.out.below hb10; have HK3 : Hid (Kids v10 (inH (fun j => S j ∨ w.heap.size + 1 < j)) (.slice p3 4 c3) [x_b1, x_b2, x_eps, x_eps_root]) := HK3.out.below hb10; have HK5 : Hid (Kids v10 (inH (fun j => S j ∨ w.heap.size + 1 < j)) (.slice p5 2 c5) [x_mask, madeN a ⟨#[97, 100, 100, 95, 100, 101, 99, 97, 121, 101, 100, 95, 119, 101, 105, 103, 104, 116, 115]⟩ [x_weight_decay]]) := HK5.out.below hb10; have HK8 : Hid (Kids v10 (inH (fun j => S j ∨ w.heap.size + 1 < j)) (.slice p8 rl.length c8) rl) := HK8.out.below hb10; have HK9 : Hid (Kids v10 (inH (fun j => S j ∨ w.heap.size + 1 < j)) (.slice (some ⟨G9, 0, none⟩) 4 4) [madeN a ⟨#[115, 99, 97, 108, 101, 95, 98, 121, 95, 97, 100, 97, 109]⟩ [x_b1, x_b2, x_eps, x_eps_root], madeN a ⟨#[109, 97, 115, 107, 101, 100]⟩ [x_mask, madeN a ⟨#[97, 100, 100, 95, 100, 101, 99, 97, 121, 101, 100, 95, 119, 101, 105, 103, 104, 116, 115]⟩ [x_weight_decay]], madeN a ⟨#[115, 99, 97, 108, 101, 95, 98, 121, 95, 116, 114, 117, 115, 116, 95, 114, 97, 116, 105, 111]⟩ [(⟨2, ⟨#[]⟩, 0, 0, ⟨#[]⟩, [], a⟩ : Nd), (⟨2, ⟨#[]⟩, 1065353216, 0, ⟨#[]⟩, [], a⟩ : Nd), (⟨2, ⟨#[]⟩, 0, 0, ⟨#[]⟩, [], a⟩ : Nd)], madeN a rnm rl]) := HK9.out.below hb10; have HBz : Hid (Below wc.heap.size wc v10) := bel HBz.out hb10; clear hb10)
  try (go_wp2_with fail)
  refine hK.out _ _ ?_ (fun hHeld => ?_)
  ·((try dsimp only); first | exact HSE.out | exact fun j h1 _ => HBz.out.block j h1 | exact fun j _ _ => rfl)
  clear hK K
  try simp only [Act.put, List.setIfInBounds_toArray, List.set_cons_zero, List.set_cons_succ]
  clear hHeld
  refine wpAnyH_ready (rs := [11]) (by kernel_rfl) (by simp) ?_
  refine AllReadyH.cons (i := 11) (by simp only [List.getElem?_toArray, List.getElem?_cons_succ, List.getElem?_cons_zero]; rfl) (fun K hK => ?_) AllReadyH.nil
  obtain ⟨⟨s0, s1, s2, s3, s4, s5, s6⟩, r0, r1, r2, r3, r4, r5, r6⟩ := sevenA (HTW.out.below HBz.out).2.2
  go_simp
  have hoff := offS_seven v10 (w.heap.size + 1) (.int .i64 1) (.string ⟨#[99, 104, 97, 105, 110]⟩) (.int .u32 0) (.int .i64 0) (.string ⟨#[]⟩) (.slice (some ⟨G9, 0, none⟩) 4 4) (.int .i64 a)
  have hosz := size_sevenS v10 (w.heap.size + 1) (.int .i64 1) (.string ⟨#[99, 104, 97, 105, 110]⟩) (.int .u32 0) (.int .i64 0) (.string ⟨#[]⟩) (.slice (some ⟨G9, 0, none⟩) 4 4) (.int .i64 a)
  have hdone := (HTW.out.below HBz.out).done (.int .i64 1) (.string ⟨#[99, 104, 97, 105, 110]⟩) (.int .u32 0) (.int .i64 0) (.string ⟨#[]⟩) (.slice (some ⟨G9, 0, none⟩) 4 4) (.int .i64 a)
  have hsv := put_sevenA (HTW.out.below HBz.out).2.2 (.int .i64 1) (.string ⟨#[99, 104, 97, 105, 110]⟩) (.int .u32 0) (.int .i64 0) (.string ⟨#[]⟩) (.slice (some ⟨G9, 0, none⟩) 4 4) (.int .i64 a)
  have HSzz : Hid (∀ j, j < wc.heap.size → j ≠ w.heap.size + 1 → ((((((((v10.setCell ⟨w.heap.size + 1, 0, none⟩ (.int .i64 1)).setCell ⟨w.heap.size + 1, 1, none⟩ (.string ⟨#[99, 104, 97, 105, 110]⟩)).setCell ⟨w.heap.size + 1, 2, none⟩ (.int .u32 0)).setCell ⟨w.heap.size + 1, 3, none⟩ (.int .i64 0)).setCell ⟨w.heap.size + 1, 4, none⟩ (.string ⟨#[]⟩)).setCell ⟨w.heap.size + 1, 5, none⟩ (.slice (some ⟨G9, 0, none⟩) 4 4)).setCell ⟨w.heap.size + 1, 6, none⟩ (.int .i64 a))).heap[j]? = wc.heap[j]?) := fun j h1 h2 => (hoff.sameSize hosz (by exact h2)).trans (HBz.out.block j h1)
  obtain ⟨vE, hvE⟩ : ∃ V, (((((((v10.setCell ⟨w.heap.size + 1, 0, none⟩ (.int .i64 1)).setCell ⟨w.heap.size + 1, 1, none⟩ (.string ⟨#[99, 104, 97, 105, 110]⟩)).setCell ⟨w.heap.size + 1, 2, none⟩ (.int .u32 0)).setCell ⟨w.heap.size + 1, 3, none⟩ (.int .i64 0)).setCell ⟨w.heap.size + 1, 4, none⟩ (.string ⟨#[]⟩)).setCell ⟨w.heap.size + 1, 5, none⟩ (.slice (some ⟨G9, 0, none⟩) 4 4)).setCell ⟨w.heap.size + 1, 6, none⟩ (.int .i64 a)) = V := ⟨_, rfl⟩
  rw [hvE] at hdone hsv HSzz
  try rw [hvE]
  have HSE := HSzz
  have HEND : Hid (Below w.heap.size w vE ∧ Kids vE (inH (fun j => S j ∨ w.heap.size + 1 < j)) (.slice (some ⟨G9, 0, none⟩) 4 4) [madeN a ⟨#[115, 99, 97, 108, 101, 95, 98, 121, 95, 97, 100, 97, 109]⟩ [x_b1, x_b2, x_eps, x_eps_root], madeN a ⟨#[109, 97, 115, 107, 101, 100]⟩ [x_mask, madeN a ⟨#[97, 100, 100, 95, 100, 101, 99, 97, 121, 101, 100, 95, 119, 101, 105, 103, 104, 116, 115]⟩ [x_weight_decay]], madeN a ⟨#[115, 99, 97, 108, 101, 95, 98, 121, 95, 116, 114, 117, 115, 116, 95, 114, 97, 116, 105, 111]⟩ [(⟨2, ⟨#[]⟩, 0, 0, ⟨#[]⟩, [], a⟩ : Nd), (⟨2, ⟨#[]⟩, 1065353216, 0, ⟨#[]⟩, [], a⟩ : Nd), (⟨2, ⟨#[]⟩, 0, 0, ⟨#[]⟩, [], a⟩ : Nd)], madeN a rnm rl] ∧ vE.heap[w.heap.size + 1]? = some (.cells #[.int .i64 1, .string ⟨#[99, 104, 97, 105, 110]⟩, .int .u32 0, .int .i64 0, .string ⟨#[]⟩, .slice (some ⟨G9, 0, none⟩) 4 4, .int .i64 a] 29)) := ⟨hdone.1, hdone.2 _ _ _ (fun j h => by rcases h with h | h; (have := (HSB.out j (.inr h)).2; omega); omega) HK9.out, hsv⟩
  clear hoff hosz hdone hsv hvE s0 s1 s2 s3 s4 s5 s6 r0 r1 r2 r3 r4 r5 r6
  refine hK.out _ _ ?_ (fun hHeld => ?_)
  ·((try dsimp only); first | exact HSE.out | exact fun j h1 _ => HBz.out.block j h1 | exact fun j _ _ => rfl)
  clear hK K
  try simp only [Act.put, List.setIfInBounds_toArray, List.set_cons_zero, List.set_cons_succ]
  refine wpAnyH_done (by kernel_rfl) ?_ _
  go_wp2
  obtain ⟨⟨s0, s1, s2, s3, s4, s5, s6⟩, r0, r1, r2, r3, r4, r5, r6⟩ := sevenA HEND.out.2.2
  refine bodyPost_ret (by simp [results, Tryz.results76, go_sem, s0, s1, s2, s3, s4, s5, s6]; try rfl) rfl ?_
  exact ⟨_, _, rfl, HEND.out.2.1, HEND.out.1⟩
end Go.Proofs.YtmiidhgbdecdkaaGreat
