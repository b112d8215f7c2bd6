import Derived.Test.YtmiidhgbdecdkaaGreatPart13
namespace Go.Proofs.YtmiidhgbdecdkaaGreat
open Go.RowKit
set_option linter.unusedVariables false
set_option linter.unusedSimpArgs false
set_option maxRecDepth 100000 in
set_option maxHeartbeats 4000000 in
theorem bec_lars (b n : Nat) (a : Int) (nd : ByteArray → Option Nd) (S : Blk) (x_rate : Nd) (x_weight_decay : Nd) (x_trust_coefficient : Nd) (x_eps : Nd) (x_momentum : Nd) (x_nesterov : Nd) (w : World) (h_rate : nd ⟨#[114, 97, 116, 101]⟩ = some x_rate) (h_weight_decay : nd ⟨#[119, 101, 105, 103, 104, 116, 95, 100, 101, 99, 97, 121]⟩ = some x_weight_decay) (h_trust_coefficient : nd ⟨#[116, 114, 117, 115, 116, 95, 99, 111, 101, 102, 102, 105, 99, 105, 101, 110, 116]⟩ = some x_trust_coefficient) (h_eps : nd ⟨#[101, 112, 115]⟩ = some x_eps) (h_momentum : nd ⟨#[109, 111, 109, 101, 110, 116, 117, 109]⟩ = some x_momentum) (h_nesterov : nd ⟨#[110, 101, 115, 116, 101, 114, 111, 118]⟩ = some x_nesterov) (hok : okR x_rate) (hS : ∀ j, S j → j < w.heap.size) (hp : PM w b n nd S) :
  Calls Tryz.prog 78 #[.agg #[.map (some b), .int .i64 a]] w fun e w' => ∃ p c, e = .returned (.agg #[.int .i64 1, .string ⟨#[99, 104, 97, 105, 110]⟩, .int .u32 0, .int .i64 0, .string ⟨#[]⟩, .slice p 4 c, .int .i64 a]) ∧ Kids w' (inH (fun j => S j ∨ w.heap.size + 1 < j)) (.slice p 4 c) [madeN a ⟨#[97, 100, 100, 95, 100, 101, 99, 97, 121, 101, 100, 95, 119, 101, 105, 103, 104, 116, 115]⟩ [x_weight_decay], madeN a ⟨#[115, 99, 97, 108, 101, 95, 98, 121, 95, 116, 114, 117, 115, 116, 95, 114, 97, 116, 105, 111]⟩ [(⟨2, ⟨#[]⟩, 0, 0, ⟨#[]⟩, [], a⟩ : Nd), x_trust_coefficient, x_eps], rateA a x_rate, madeN a ⟨#[116, 114, 97, 99, 101]⟩ [x_momentum, x_nesterov]] ∧ Below w.heap.size w w' := by
 have HK_x_rate : Hid (nd ⟨#[114, 97, 116, 101]⟩ = some x_rate) := h_rate
 have HK_x_weight_decay : Hid (nd ⟨#[119, 101, 105, 103, 104, 116, 95, 100, 101, 99, 97, 121]⟩ = some x_weight_decay) := h_weight_decay
 have HK_x_trust_coefficient : Hid (nd ⟨#[116, 114, 117, 115, 116, 95, 99, 111, 101, 102, 102, 105, 99, 105, 101, 110, 116]⟩ = some x_trust_coefficient) := h_trust_coefficient
 have HK_x_eps : Hid (nd ⟨#[101, 112, 115]⟩ = some x_eps) := h_eps
 have HK_x_momentum : Hid (nd ⟨#[109, 111, 109, 101, 110, 116, 117, 109]⟩ = some x_momentum) := h_momentum
 have HK_x_nesterov : Hid (nd ⟨#[110, 101, 115, 116, 101, 114, 111, 118]⟩ = some x_nesterov) := h_nesterov
 obtain ⟨rnm, hrn⟩ : ∃ x, rnmA x_rate = x := ⟨_, rfl⟩
 obtain ⟨rl, hrl⟩ : ∃ x, rlA a x_rate = x := ⟨_, rfl⟩
 rw [rate_made, hrn, hrl]
 obtain ⟨W, hW, hT⟩ := TwoB.start w b a
 have HTW : Hid (TwoB w b a W) := hT
 have HSZ : Hid (w.heap.size + 2 ≤ W.heap.size) := hlt hT.2.2
 have HPM : Hid (PM W b n nd S) := hp.below hT.1
 have HSB : Hid (∀ j, (j = b ∨ S j) → j < W.heap.size ∧ j ≠ w.heap.size + 1) := fun j hj => by
  have h1 := HSZ.out
  rcases hj with rfl | hj
  ·obtain ⟨f, h, _⟩ := hp; have := h.lt; omega
  ·have := hS j hj; omega
 obtain ⟨⟨g0, g1⟩, -⟩ := twoC hT.2.1
 have HBz : Hid (Below W.heap.size W W) := Below.refl _ _
 clear hT
 have HRN : Hid (rnmA x_rate = rnm ∧ rlA a x_rate = rl ∧ okR x_rate) := ⟨hrn, hrl, hok⟩
 have HCA2 : Hid (∀ (x : World), Calls Tryz.prog 77 #[.agg #[.map (some b), .int .i64 a], .int .u32 0] x fun e w' => e = .returned (.agg #[.int .i64 2, .string ⟨#[]⟩, .int .u32 0, .int .i64 0, .string ⟨#[]⟩, .slice none 0 0, .int .i64 a]) ∧ Below x.heap.size x w') := fun x => pnumber_any b a 0 x
 obtain ⟨pl5, cl5, hl5⟩ := HPM.out.offs (k := ⟨#[116, 114, 117, 115, 116, 95, 99, 111, 101, 102, 102, 105, 99, 105, 101, 110, 116]⟩) (by decide) HK_x_trust_coefficient.out
 have HL5 : Hid (∀ x, (∀ j, j < W.heap.size → j ≠ w.heap.size + 1 → x.heap[j]? = W.heap[j]?) → (Instr.lookup 89 (.map (some b)) (.string ⟨#[116, 114, 117, 115, 116, 95, 99, 111, 101, 102, 102, 105, 99, 105, 101, 110, 116]⟩) false).run Tryz.prog x = .ok (.agg #[.int .i64 x_trust_coefficient.kind, .string x_trust_coefficient.name, .int .u32 x_trust_coefficient.num, .int .i64 x_trust_coefficient.int_, .string x_trust_coefficient.key, .slice pl5 x_trust_coefficient.args.length cl5, .int .i64 x_trust_coefficient.at_]) x ∧ Kids x (inH S) (.slice pl5 x_trust_coefficient.args.length cl5) x_trust_coefficient.args) := fun x hx => hl5 x fun j hj => hx j (HSB.out j hj).1 (HSB.out j hj).2
 clear hl5
 obtain ⟨pl8, cl8, hl8⟩ := HPM.out.offs (k := ⟨#[101, 112, 115]⟩) (by decide) HK_x_eps.out
 have HL8 : Hid (∀ x, (∀ j, j < W.heap.size → j ≠ w.heap.size + 1 → x.heap[j]? = W.heap[j]?) → (Instr.lookup 89 (.map (some b)) (.string ⟨#[101, 112, 115]⟩) false).run Tryz.prog x = .ok (.agg #[.int .i64 x_eps.kind, .string x_eps.name, .int .u32 x_eps.num, .int .i64 x_eps.int_, .string x_eps.key, .slice pl8 x_eps.args.length cl8, .int .i64 x_eps.at_]) x ∧ Kids x (inH S) (.slice pl8 x_eps.args.length cl8) x_eps.args) := fun x hx => hl8 x fun j hj => hx j (HSB.out j hj).1 (HSB.out j hj).2
 clear hl8
 have HCA10 : Hid (∀ (q : Option Addr) (m c : Nat) (x : World), Calls Tryz.prog 73 #[.agg #[.map (some b), .int .i64 a], .string ⟨#[115, 99, 97, 108, 101, 95, 98, 121, 95, 116, 114, 117, 115, 116, 95, 114, 97, 116, 105, 111]⟩, .slice q m c] x fun e w' => e = .returned (.agg #[.int .i64 1, .string ⟨#[115, 99, 97, 108, 101, 95, 98, 121, 95, 116, 114, 117, 115, 116, 95, 114, 97, 116, 105, 111]⟩, .int .u32 0, .int .i64 0, .string ⟨#[]⟩, .slice q m c, .int .i64 a]) ∧ Below x.heap.size x w') := fun q m c x => pcall_any b a ⟨#[115, 99, 97, 108, 101, 95, 98, 121, 95, 116, 114, 117, 115, 116, 95, 114, 97, 116, 105, 111]⟩ q m c x
 clear h_rate h_weight_decay h_trust_coefficient h_eps h_momentum h_nesterov hp hS hok hrn hrl
 go_enter Tryz.func78, Tryz.ntmps78
 go_upto_region 1 with fail
 go_cut [3] (fun gv wx => ∃ O GG, gv = .pointer (some ⟨O, 0, none⟩) ∧ Hid (Below W.heap.size W wx ∧ W.heap.size ≤ O ∧ wx.heap[O]? = some (.cells #[.int .i64 1, .string ⟨#[115, 99, 97, 108, 101, 95, 98, 121, 95, 116, 114, 117, 115, 116, 95, 114, 97, 116, 105, 111]⟩, .int .u32 0, .int .i64 0, .string ⟨#[]⟩, .slice (some ⟨GG, 0, none⟩) 3 3, .int .i64 a] 29) ∧ Kids wx (inH (fun j => S j ∨ w.heap.size + 1 < j)) (.slice (some ⟨GG, 0, none⟩) 3 3) [(⟨2, ⟨#[]⟩, 0, 0, ⟨#[]⟩, [], a⟩ : Nd), x_trust_coefficient, x_eps]))
 case first =>
  refine wp_region_held_drew (S := (fun x => ∀ j, j < W.heap.size → j ≠ w.heap.size + 1 → x.heap[j]? = W.heap[j]?)) (by kernel_rfl) ?_ (fun hHeld => ?_)
  ·((try dsimp only); first | exact HSE.out | exact fun j h1 _ => HBz.out.block j h1 | exact fun j _ _ => rfl)
  refine wpAnyH_take (i := 0) (v := ?_) (by simp only [List.getElem?_toArray, List.getElem?_cons_succ, List.getElem?_cons_zero]; rfl) (by kernel_rfl) (by kernel_rfl) (by kernel_rfl) (by exact fun _ _ _ h => h) (Or.inl ⟨by rfl, ?_⟩) (by assumption) ?_
  rotate_left 1
  ·(intro wS hSw; have hSb : ∀ j, j < W.heap.size → j ≠ w.heap.size + 1 → wS.heap[j]? = W.heap[j]? := hSw; clear hSw; have zp := (cell_to hSb (by simp) g0); have zq := (cell_to hSb (by simp) g1); have l5 := (HL5.out _ hSb).1; have l8 := (HL8.out _ hSb).1; go_simp; try (with_reducible rfl))
  try simp only [Act.put, List.setIfInBounds_toArray, List.set_cons_zero, List.set_cons_succ]
  refine wpAnyH_take (i := 1) (v := ?_) (by simp only [List.getElem?_toArray, List.getElem?_cons_succ, List.getElem?_cons_zero]; rfl) (by kernel_rfl) (by kernel_rfl) (by kernel_rfl) (by exact fun _ _ _ h => h) (Or.inl ⟨by rfl, ?_⟩) (by assumption) ?_
  rotate_left 1
  ·(intro wS hSw; have hSb : ∀ j, j < W.heap.size → j ≠ w.heap.size + 1 → wS.heap[j]? = W.heap[j]? := hSw; clear hSw; have zp := (cell_to hSb (by simp) g0); have zq := (cell_to hSb (by simp) g1); have l5 := (HL5.out _ hSb).1; have l8 := (HL8.out _ hSb).1; go_simp; try (with_reducible rfl))
  try simp only [Act.put, List.setIfInBounds_toArray, List.set_cons_zero, List.set_cons_succ]
  refine wpAnyH_take (i := 3) (v := ?_) (by simp only [List.getElem?_toArray, List.getElem?_cons_succ, List.getElem?_cons_zero]; rfl) (by kernel_rfl) (by kernel_rfl) (by kernel_rfl) (by exact fun _ _ _ h => h) (Or.inl ⟨by rfl, ?_⟩) (by assumption) ?_
  rotate_left 1
  ·(intro wS hSw; have hSb : ∀ j, j < W.heap.size → j ≠ w.heap.size + 1 → wS.heap[j]? = W.heap[j]? := hSw; clear hSw; have zp := (cell_to hSb (by simp) g0); have zq := (cell_to hSb (by simp) g1); have l5 := (HL5.out _ hSb).1; have l8 := (HL8.out _ hSb).1; go_simp; try (with_reducible rfl))
  try simp only [Act.put, List.setIfInBounds_toArray, List.set_cons_zero, List.set_cons_succ]
  refine wpAnyH_take (i := 4) (v := ?_) (by simp only [List.getElem?_toArray, List.getElem?_cons_succ, List.getElem?_cons_zero]; rfl) (by kernel_rfl) (by kernel_rfl) (by kernel_rfl) (by exact fun _ _ _ h => h) (Or.inl ⟨by rfl, ?_⟩) (by assumption) ?_
  rotate_left 1
  ·(intro wS hSw; have hSb : ∀ j, j < W.heap.size → j ≠ w.heap.size + 1 → wS.heap[j]? = W.heap[j]? := hSw; clear hSw; have zp := (cell_to hSb (by simp) g0); have zq := (cell_to hSb (by simp) g1); have l5 := (HL5.out _ hSb).1; have l8 := (HL8.out _ hSb).1; go_simp; try (with_reducible rfl))
  try simp only [Act.put, List.setIfInBounds_toArray, List.set_cons_zero, List.set_cons_succ]
  refine wpAnyH_take (i := 5) (v := ?_) (by simp only [List.getElem?_toArray, List.getElem?_cons_succ, List.getElem?_cons_zero]; rfl) (by kernel_rfl) (by kernel_rfl) (by kernel_rfl) (by exact fun _ _ _ h => h) (Or.inl ⟨by rfl, ?_⟩) (by assumption) ?_
  rotate_left 1
  ·(intro wS hSw; have hSb : ∀ j, j < W.heap.size → j ≠ w.heap.size + 1 → wS.heap[j]? = W.heap[j]? := hSw; clear hSw; have zp := (cell_to hSb (by simp) g0); have zq := (cell_to hSb (by simp) g1); have l5 := (HL5.out _ hSb).1; have l8 := (HL8.out _ hSb).1; go_simp; try (with_reducible rfl))
  try simp only [Act.put, List.setIfInBounds_toArray, List.set_cons_zero, List.set_cons_succ]
  refine wpAnyH_take (i := 6) (v := ?_) (by simp only [List.getElem?_toArray, List.getElem?_cons_succ, List.getElem?_cons_zero]; rfl) (by kernel_rfl) (by kernel_rfl) (by kernel_rfl) (by exact fun _ _ _ h => h) (Or.inl ⟨by rfl, ?_⟩) (by assumption) ?_
  rotate_left 1
  ·(intro wS hSw; have hSb : ∀ j, j < W.heap.size → j ≠ w.heap.size + 1 → wS.heap[j]? = W.heap[j]? := hSw; clear hSw; have zp := (cell_to hSb (by simp) g0); have zq := (cell_to hSb (by simp) g1); have l5 := (HL5.out _ hSb).1; have l8 := (HL8.out _ hSb).1; go_simp; try (with_reducible rfl))
  try simp only [Act.put, List.setIfInBounds_toArray, List.set_cons_zero, List.set_cons_succ]
  refine wpAnyH_take (i := 7) (v := ?_) (by simp only [List.getElem?_toArray, List.getElem?_cons_succ, List.getElem?_cons_zero]; rfl) (by kernel_rfl) (by kernel_rfl) (by kernel_rfl) (by exact fun _ _ _ h => h) (Or.inl ⟨by rfl, ?_⟩) (by assumption) ?_
  rotate_left 1
  ·(intro wS hSw; have hSb : ∀ j, j < W.heap.size → j ≠ w.heap.size + 1 → wS.heap[j]? = W.heap[j]? := hSw; clear hSw; have zp := (cell_to hSb (by simp) g0); have zq := (cell_to hSb (by simp) g1); have l5 := (HL5.out _ hSb).1; have l8 := (HL8.out _ hSb).1; go_simp; try (with_reducible rfl))
  try simp only [Act.put, List.setIfInBounds_toArray, List.set_cons_zero, List.set_cons_succ]
  refine wpAnyH_take (i := 8) (v := ?_) (by simp only [List.getElem?_toArray, List.getElem?_cons_succ, List.getElem?_cons_zero]; rfl) (by kernel_rfl) (by kernel_rfl) (by kernel_rfl) (by exact fun _ _ _ h => h) (Or.inl ⟨by rfl, ?_⟩) (by assumption) ?_
  rotate_left 1
  ·(intro wS hSw; have hSb : ∀ j, j < W.heap.size → j ≠ w.heap.size + 1 → wS.heap[j]? = W.heap[j]? := hSw; clear hSw; have zp := (cell_to hSb (by simp) g0); have zq := (cell_to hSb (by simp) g1); have l5 := (HL5.out _ hSb).1; have l8 := (HL8.out _ hSb).1; go_simp; try (with_reducible rfl))
  try simp only [Act.put, List.setIfInBounds_toArray, List.set_cons_zero, List.set_cons_succ]
  clear hHeld
  refine wpAnyH_ready (rs := [2, 11]) (by kernel_rfl) (by simp) ?_
  refine AllReadyH.cons (i := 2) (by simp only [List.getElem?_toArray, List.getElem?_cons_succ, List.getElem?_cons_zero]; rfl) (fun K hK => ?_) ?_
  ·go_simp
   (go_at_call 77; (with_reducible refine (HCA2.out _).mono ?_); rintro e v2 ⟨rfl, hb2⟩; have HBz : Hid (Below W.heap.size W v2) := bel (bel HBz.out (bel_d _)) hb2; clear hb2)
   try (go_wp2_with fail)
   refine hK.out _ _ ?_ (fun hHeld => ?_)
   ·((try dsimp only); first | exact HSE.out | exact fun j h1 _ => HBz.out.block j h1 | exact fun j _ _ => rfl)
   clear hK K
   try simp only [Act.put, List.setIfInBounds_toArray, List.set_cons_zero, List.set_cons_succ]
   clear hHeld
   refine wpAnyH_ready (rs := [9, 11]) (by kernel_rfl) (by simp) ?_
   refine AllReadyH.cons (i := 9) (by simp only [List.getElem?_toArray, List.getElem?_cons_succ, List.getElem?_cons_zero]; rfl) (fun K hK => ?_) ?_
   ·go_simp
    obtain ⟨G9, hG9⟩ : ∃ G, v2.heap.size = G := ⟨_, rfl⟩
    obtain ⟨v9, hv9⟩ : ∃ V, v2.alloc (.cells #[.int .i64 2, .string ⟨#[]⟩, .int .u32 0, .int .i64 0, .string ⟨#[]⟩, .slice none 0 0, .int .i64 a, .int .i64 x_trust_coefficient.kind, .string x_trust_coefficient.name, .int .u32 x_trust_coefficient.num, .int .i64 x_trust_coefficient.int_, .string x_trust_coefficient.key, .slice pl5 x_trust_coefficient.args.length cl5, .int .i64 x_trust_coefficient.at_, .int .i64 x_eps.kind, .string x_eps.name, .int .u32 x_eps.num, .int .i64 x_eps.int_, .string x_eps.key, .slice pl8 x_eps.args.length cl8, .int .i64 x_eps.at_] 29) = V := ⟨_, rfl⟩
    have hb9 : Below v2.heap.size v2 v9 := by rw [← hv9]; exact bel_alloc _ _
    have HR9 : Hid (v9.heap[G9]? = some (.cells #[.int .i64 2, .string ⟨#[]⟩, .int .u32 0, .int .i64 0, .string ⟨#[]⟩, .slice none 0 0, .int .i64 a, .int .i64 x_trust_coefficient.kind, .string x_trust_coefficient.name, .int .u32 x_trust_coefficient.num, .int .i64 x_trust_coefficient.int_, .string x_trust_coefficient.key, .slice pl5 x_trust_coefficient.args.length cl5, .int .i64 x_trust_coefficient.at_, .int .i64 x_eps.kind, .string x_eps.name, .int .u32 x_eps.num, .int .i64 x_eps.int_, .string x_eps.key, .slice pl8 x_eps.args.length cl8, .int .i64 x_eps.at_] 29)) := by show _ = _; rw [← hv9, ← hG9]; exact box_heapA v2 _
    have HGB9 : Hid (W.heap.size ≤ G9) := by show _ ≤ _; rw [← hG9]; exact HBz.out.size
    have HBz : Hid (Below W.heap.size W v9) := bel HBz.out hb9
    rw [hv9, hG9]
    clear hv9 hG9 hb9
    refine hK.out _ _ ?_ (fun hHeld => ?_)
    ·((try dsimp only); first | exact HSE.out | exact fun j h1 _ => HBz.out.block j h1 | exact fun j _ _ => rfl)
    clear hK K
    try simp only [Act.put, List.setIfInBounds_toArray, List.set_cons_zero, List.set_cons_succ]
    clear hHeld
    refine wpAnyH_ready (rs := [10, 11]) (by kernel_rfl) (by simp) ?_
    refine AllReadyH.cons (i := 10) (by simp only [List.getElem?_toArray, List.getElem?_cons_succ, List.getElem?_cons_zero]; rfl) (fun K hK => ?_) ?_
    ·go_simp
     (go_at_call 73; (with_reducible refine (HCA10.out _ _ _ _).mono ?_); rintro e v10 ⟨rfl, hb10⟩; have HR9 : Hid (v10.heap[G9]? = some (.cells #[.int .i64 2, .string ⟨#[]⟩, .int .u32 0, .int .i64 0, .string ⟨#[]⟩, .slice none 0 0, .int .i64 a, .int .i64 x_trust_coefficient.kind, .string x_trust_coefficient.name, .int .u32 x_trust_coefficient.num, .int .i64 x_trust_coefficient.int_, .string x_trust_coefficient.key, .slice pl5 x_trust_coefficient.args.length cl5, .int .i64 x_trust_coefficient.at_, .int .i64 x_eps.kind, .string x_eps.name, .int .u32 x_eps.num, .int .i64 x_eps.int_, .string x_eps.key, .slice pl8 x_eps.args.length cl8, .int .i64 x_eps.at_] 29)) := (hb10.block _ (hlt HR9.out)).trans HR9.out; have HBz : Hid (Below W.heap.size W v10) := bel HBz.out hb10; clear hb10)
     try (go_wp2_with fail)
     refine hK.out _ _ ?_ (fun hHeld => ?_)
     ·((try dsimp only); first | exact HSE.out | exact fun j h1 _ => HBz.out.block j h1 | exact fun j _ _ => rfl)
     clear hK K
     try simp only [Act.put, List.setIfInBounds_toArray, List.set_cons_zero, List.set_cons_succ]
     clear hHeld
     refine wpAnyH_ready (rs := [11]) (by kernel_rfl) (by simp) ?_
     refine AllReadyH.cons (i := 11) (by simp only [List.getElem?_toArray, List.getElem?_cons_succ, List.getElem?_cons_zero]; rfl) (fun K hK => ?_) AllReadyH.nil
     go_simp
     obtain ⟨O11, hO11⟩ : ∃ O, v10.heap.size = O := ⟨_, rfl⟩
     obtain ⟨v11, hv11⟩ : ∃ V, v10.alloc (.cells #[.int .i64 0, .string ⟨#[]⟩, .int .u32 0, .int .i64 0, .string ⟨#[]⟩, .slice none 0 0, .int .i64 0] 29) = V := ⟨_, rfl⟩
     have hb11 : Below v10.heap.size v10 v11 := by rw [← hv11]; exact bel_alloc _ _
     have HO11 : Hid (v11.heap[O11]? = some (.cells #[.int .i64 0, .string ⟨#[]⟩, .int .u32 0, .int .i64 0, .string ⟨#[]⟩, .slice none 0 0, .int .i64 0] 29)) := by show _ = _; rw [← hv11, ← hO11]; exact box_heapA v10 _
     have HOB11 : Hid (W.heap.size ≤ O11) := by show _ ≤ _; rw [← hO11]; exact HBz.out.size
     have HR9 : Hid (v11.heap[G9]? = some (.cells #[.int .i64 2, .string ⟨#[]⟩, .int .u32 0, .int .i64 0, .string ⟨#[]⟩, .slice none 0 0, .int .i64 a, .int .i64 x_trust_coefficient.kind, .string x_trust_coefficient.name, .int .u32 x_trust_coefficient.num, .int .i64 x_trust_coefficient.int_, .string x_trust_coefficient.key, .slice pl5 x_trust_coefficient.args.length cl5, .int .i64 x_trust_coefficient.at_, .int .i64 x_eps.kind, .string x_eps.name, .int .u32 x_eps.num, .int .i64 x_eps.int_, .string x_eps.key, .slice pl8 x_eps.args.length cl8, .int .i64 x_eps.at_] 29)) := (hb11.block _ (hlt HR9.out)).trans HR9.out
     have HBz : Hid (Below W.heap.size W v11) := bel HBz.out hb11
     rw [hv11, hO11]
     clear hv11 hO11 hb11
     refine hK.out _ _ ?_ (fun hHeld => ?_)
     ·((try dsimp only); first | exact HSE.out | exact fun j h1 _ => HBz.out.block j h1 | exact fun j _ _ => rfl)
     clear hK K
     try simp only [Act.put, List.setIfInBounds_toArray, List.set_cons_zero, List.set_cons_succ]
     clear hHeld
     refine wpAnyH_ready (rs := [12]) (by kernel_rfl) (by simp) ?_
     refine AllReadyH.cons (i := 12) (by simp only [List.getElem?_toArray, List.getElem?_cons_succ, List.getElem?_cons_zero]; rfl) (fun K hK => ?_) AllReadyH.nil
     obtain ⟨⟨s0, s1, s2, s3, s4, s5, s6⟩, r0, r1, r2, r3, r4, r5, r6⟩ := sevenA HO11.out
     go_simp
     have hoff := offS_seven v11 O11 (.int .i64 1) (.string ⟨#[115, 99, 97, 108, 101, 95, 98, 121, 95, 116, 114, 117, 115, 116, 95, 114, 97, 116, 105, 111]⟩) (.int .u32 0) (.int .i64 0) (.string ⟨#[]⟩) (.slice (some ⟨G9, 0, none⟩) 3 3) (.int .i64 a)
     have hosz := size_sevenS v11 O11 (.int .i64 1) (.string ⟨#[115, 99, 97, 108, 101, 95, 98, 121, 95, 116, 114, 117, 115, 116, 95, 114, 97, 116, 105, 111]⟩) (.int .u32 0) (.int .i64 0) (.string ⟨#[]⟩) (.slice (some ⟨G9, 0, none⟩) 3 3) (.int .i64 a)
     have hsv := put_sevenA HO11.out (.int .i64 1) (.string ⟨#[115, 99, 97, 108, 101, 95, 98, 121, 95, 116, 114, 117, 115, 116, 95, 114, 97, 116, 105, 111]⟩) (.int .u32 0) (.int .i64 0) (.string ⟨#[]⟩) (.slice (some ⟨G9, 0, none⟩) 3 3) (.int .i64 a)
     have HSzz : Hid (∀ j, j < W.heap.size → j ≠ w.heap.size + 1 → ((((((((v11.setCell ⟨O11, 0, none⟩ (.int .i64 1)).setCell ⟨O11, 1, none⟩ (.string ⟨#[115, 99, 97, 108, 101, 95, 98, 121, 95, 116, 114, 117, 115, 116, 95, 114, 97, 116, 105, 111]⟩)).setCell ⟨O11, 2, none⟩ (.int .u32 0)).setCell ⟨O11, 3, none⟩ (.int .i64 0)).setCell ⟨O11, 4, none⟩ (.string ⟨#[]⟩)).setCell ⟨O11, 5, none⟩ (.slice (some ⟨G9, 0, none⟩) 3 3)).setCell ⟨O11, 6, none⟩ (.int .i64 a))).heap[j]? = W.heap[j]?) := fun j h1 h2 => (hoff.sameSize hosz (by show ¬ j = O11; have := HOB11.out; omega)).trans (HBz.out.block j h1)
     have hbE : Below W.heap.size W ((((((((v11.setCell ⟨O11, 0, none⟩ (.int .i64 1)).setCell ⟨O11, 1, none⟩ (.string ⟨#[115, 99, 97, 108, 101, 95, 98, 121, 95, 116, 114, 117, 115, 116, 95, 114, 97, 116, 105, 111]⟩)).setCell ⟨O11, 2, none⟩ (.int .u32 0)).setCell ⟨O11, 3, none⟩ (.int .i64 0)).setCell ⟨O11, 4, none⟩ (.string ⟨#[]⟩)).setCell ⟨O11, 5, none⟩ (.slice (some ⟨G9, 0, none⟩) 3 3)).setCell ⟨O11, 6, none⟩ (.int .i64 a))) := hoff.below HBz.out (fun j hj => by have := HBz.out.size; omega) (fun j hj e => by have e : j = O11 := e; have := HOB11.out; omega)
     have hrE := (hoff.sameSize hosz (x := G9) (by intro e; have e : G9 = O11 := e; have h1 := HR9.out; rw [e, HO11.out] at h1; simp at h1)).trans HR9.out
     obtain ⟨vE, hvE⟩ : ∃ V, (((((((v11.setCell ⟨O11, 0, none⟩ (.int .i64 1)).setCell ⟨O11, 1, none⟩ (.string ⟨#[115, 99, 97, 108, 101, 95, 98, 121, 95, 116, 114, 117, 115, 116, 95, 114, 97, 116, 105, 111]⟩)).setCell ⟨O11, 2, none⟩ (.int .u32 0)).setCell ⟨O11, 3, none⟩ (.int .i64 0)).setCell ⟨O11, 4, none⟩ (.string ⟨#[]⟩)).setCell ⟨O11, 5, none⟩ (.slice (some ⟨G9, 0, none⟩) 3 3)).setCell ⟨O11, 6, none⟩ (.int .i64 a)) = V := ⟨_, rfl⟩
     rw [hvE] at hsv HSzz hbE hrE
     try rw [hvE]
     have HSE := HSzz
     have hkE := kids_at (w := vE) (S := (fun j => S j ∨ w.heap.size + 1 < j)) (R := [((⟨2, ⟨#[]⟩, 0, 0, ⟨#[]⟩, [], a⟩ : Nd), .slice none 0 0), (x_trust_coefficient, .slice pl5 x_trust_coefficient.args.length cl5), (x_eps, .slice pl8 x_eps.args.length cl8)]) hrE rfl (List.forall_mem_cons.2 ⟨(kids_none _ _), List.forall_mem_cons.2 ⟨((HL5.out _ HSE.out).2.weak (inH.sub fun j h => .inl h)), List.forall_mem_cons.2 ⟨((HL8.out _ HSE.out).2.weak (inH.sub fun j h => .inl h)), fun r h => by cases h⟩⟩⟩) (.inr (by have := HGB9.out; have := HSZ.out; omega)) (by simp)
     have HEND : Hid (Below W.heap.size W vE ∧ W.heap.size ≤ O11 ∧ vE.heap[O11]? = some (.cells #[.int .i64 1, .string ⟨#[115, 99, 97, 108, 101, 95, 98, 121, 95, 116, 114, 117, 115, 116, 95, 114, 97, 116, 105, 111]⟩, .int .u32 0, .int .i64 0, .string ⟨#[]⟩, .slice (some ⟨G9, 0, none⟩) 3 3, .int .i64 a] 29) ∧ Kids vE (inH (fun j => S j ∨ w.heap.size + 1 < j)) (.slice (some ⟨G9, 0, none⟩) 3 3) [(⟨2, ⟨#[]⟩, 0, 0, ⟨#[]⟩, [], a⟩ : Nd), x_trust_coefficient, x_eps]) := ⟨hbE, HOB11.out, hsv, hkE⟩
     clear hoff hosz hsv hbE hkE hrE hvE s0 s1 s2 s3 s4 s5 s6 r0 r1 r2 r3 r4 r5 r6
     refine hK.out _ _ ?_ (fun hHeld => ?_)
     ·((try dsimp only); first | exact HSE.out | exact fun j h1 _ => HBz.out.block j h1 | exact fun j _ _ => rfl)
     clear hK K
     try simp only [Act.put, List.setIfInBounds_toArray, List.set_cons_zero, List.set_cons_succ]
     refine wpAnyH_done (by kernel_rfl) ?_ _
     go_wp2_with fail
     go_meet
     exact ⟨O11, G9, rfl, HEND.out⟩
    refine AllReadyH.cons (i := 11) (by simp only [List.getElem?_toArray, List.getElem?_cons_succ, List.getElem?_cons_zero]; rfl) (fun K hK => ?_) AllReadyH.nil
    go_simp
    obtain ⟨O11, hO11⟩ : ∃ O, v9.heap.size = O := ⟨_, rfl⟩
    obtain ⟨v11, hv11⟩ : ∃ V, v9.alloc (.cells #[.int .i64 0, .string ⟨#[]⟩, .int .u32 0, .int .i64 0, .string ⟨#[]⟩, .slice none 0 0, .int .i64 0] 29) = V := ⟨_, rfl⟩
    have hb11 : Below v9.heap.size v9 v11 := by rw [← hv11]; exact bel_alloc _ _
    have HO11 : Hid (v11.heap[O11]? = some (.cells #[.int .i64 0, .string ⟨#[]⟩, .int .u32 0, .int .i64 0, .string ⟨#[]⟩, .slice none 0 0, .int .i64 0] 29)) := by show _ = _; rw [← hv11, ← hO11]; exact box_heapA v9 _
    have HOB11 : Hid (W.heap.size ≤ O11) := by show _ ≤ _; rw [← hO11]; exact HBz.out.size
    have HR9 : Hid (v11.heap[G9]? = some (.cells #[.int .i64 2, .string ⟨#[]⟩, .int .u32 0, .int .i64 0, .string ⟨#[]⟩, .slice none 0 0, .int .i64 a, .int .i64 x_trust_coefficient.kind, .string x_trust_coefficient.name, .int .u32 x_trust_coefficient.num, .int .i64 x_trust_coefficient.int_, .string x_trust_coefficient.key, .slice pl5 x_trust_coefficient.args.length cl5, .int .i64 x_trust_coefficient.at_, .int .i64 x_eps.kind, .string x_eps.name, .int .u32 x_eps.num, .int .i64 x_eps.int_, .string x_eps.key, .slice pl8 x_eps.args.length cl8, .int .i64 x_eps.at_] 29)) := (hb11.block _ (hlt HR9.out)).trans HR9.out
    have HBz : Hid (Below W.heap.size W v11) := bel HBz.out hb11
    rw [hv11, hO11]
    clear hv11 hO11 hb11
    refine hK.out _ _ ?_ (fun hHeld => ?_)
    ·((try dsimp only); first | exact HSE.out | exact fun j h1 _ => HBz.out.block j h1 | exact fun j _ _ => rfl)
    clear hK K
    try simp only [Act.put, List.setIfInBounds_toArray, List.set_cons_zero, List.set_cons_succ]
    clear hHeld
    refine wpAnyH_ready (rs := [10]) (by kernel_rfl) (by simp) ?_
    refine AllReadyH.cons (i := 10) (by simp only [List.getElem?_toArray, List.getElem?_cons_succ, List.getElem?_cons_zero]; rfl) (fun K hK => ?_) AllReadyH.nil
    go_simp
    (go_at_call 73; (with_reducible refine (HCA10.out _ _ _ _).mono ?_); rintro e v10 ⟨rfl, hb10⟩; have HR9 : Hid (v10.heap[G9]? = some (.cells #[.int .i64 2, .string ⟨#[]⟩, .int .u32 0, .int .i64 0, .string ⟨#[]⟩, .slice none 0 0, .int .i64 a, .int .i64 x_trust_coefficient.kind, .string x_trust_coefficient.name, .int .u32 x_trust_coefficient.num, .int .i64 x_trust_coefficient.int_, .string x_trust_coefficient.key, .slice pl5 x_trust_coefficient.args.length cl5, .int .i64 x_trust_coefficient.at_, .int .i64 x_eps.kind, .string x_eps.name, .int .u32 x_eps.num, .int .i64 x_eps.int_, .string x_eps.key, .slice pl8 x_eps.args.length cl8, .int .i64 x_eps.at_] 29)) := (hb10.block _ (hlt HR9.out)).trans HR9.out; have HO11 : Hid (v10.heap[O11]? = some (.cells #[.int .i64 0, .string ⟨#[]⟩, .int .u32 0, .int .i64 0, .string ⟨#[]⟩, .slice none 0 0, .int .i64 0] 29)) := (hb10.block _ (hlt HO11.out)).trans HO11.out; have HBz : Hid (Below W.heap.size W v10) := bel HBz.out hb10; clear hb10)
    try (go_wp2_with fail)
    refine hK.out _ _ ?_ (fun hHeld => ?_)
    ·((try dsimp only); first | exact HSE.out | exact fun j h1 _ => HBz.out.block j h1 | exact fun j _ _ => rfl)
    clear hK K
    try simp only [Act.put, List.setIfInBounds_toArray, List.set_cons_zero, List.set_cons_succ]
    clear hHeld
    refine wpAnyH_ready (rs := [12]) (by kernel_rfl) (by simp) ?_
    refine AllReadyH.cons (i := 12) (by simp only [List.getElem?_toArray, List.getElem?_cons_succ, List.getElem?_cons_zero]; rfl) (fun K hK => ?_) AllReadyH.nil
    obtain ⟨⟨s0, s1, s2, s3, s4, s5, s6⟩, r0, r1, r2, r3, r4, r5, r6⟩ := sevenA HO11.out
    go_simp
    have hoff := offS_seven v10 O11 (.int .i64 1) (.string ⟨#[115, 99, 97, 108, 101, 95, 98, 121, 95, 116, 114, 117, 115, 116, 95, 114, 97, 116, 105, 111]⟩) (.int .u32 0) (.int .i64 0) (.string ⟨#[]⟩) (.slice (some ⟨G9, 0, none⟩) 3 3) (.int .i64 a)
    have hosz := size_sevenS v10 O11 (.int .i64 1) (.string ⟨#[115, 99, 97, 108, 101, 95, 98, 121, 95, 116, 114, 117, 115, 116, 95, 114, 97, 116, 105, 111]⟩) (.int .u32 0) (.int .i64 0) (.string ⟨#[]⟩) (.slice (some ⟨G9, 0, none⟩) 3 3) (.int .i64 a)
    have hsv := put_sevenA HO11.out (.int .i64 1) (.string ⟨#[115, 99, 97, 108, 101, 95, 98, 121, 95, 116, 114, 117, 115, 116, 95, 114, 97, 116, 105, 111]⟩) (.int .u32 0) (.int .i64 0) (.string ⟨#[]⟩) (.slice (some ⟨G9, 0, none⟩) 3 3) (.int .i64 a)
    have HSzz : Hid (∀ j, j < W.heap.size → j ≠ w.heap.size + 1 → ((((((((v10.setCell ⟨O11, 0, none⟩ (.int .i64 1)).setCell ⟨O11, 1, none⟩ (.string ⟨#[115, 99, 97, 108, 101, 95, 98, 121, 95, 116, 114, 117, 115, 116, 95, 114, 97, 116, 105, 111]⟩)).setCell ⟨O11, 2, none⟩ (.int .u32 0)).setCell ⟨O11, 3, none⟩ (.int .i64 0)).setCell ⟨O11, 4, none⟩ (.string ⟨#[]⟩)).setCell ⟨O11, 5, none⟩ (.slice (some ⟨G9, 0, none⟩) 3 3)).setCell ⟨O11, 6, none⟩ (.int .i64 a))).heap[j]? = W.heap[j]?) := fun j h1 h2 => (hoff.sameSize hosz (by show ¬ j = O11; have := HOB11.out; omega)).trans (HBz.out.block j h1)
    have hbE : Below W.heap.size W ((((((((v10.setCell ⟨O11, 0, none⟩ (.int .i64 1)).setCell ⟨O11, 1, none⟩ (.string ⟨#[115, 99, 97, 108, 101, 95, 98, 121, 95, 116, 114, 117, 115, 116, 95, 114, 97, 116, 105, 111]⟩)).setCell ⟨O11, 2, none⟩ (.int .u32 0)).setCell ⟨O11, 3, none⟩ (.int .i64 0)).setCell ⟨O11, 4, none⟩ (.string ⟨#[]⟩)).setCell ⟨O11, 5, none⟩ (.slice (some ⟨G9, 0, none⟩) 3 3)).setCell ⟨O11, 6, none⟩ (.int .i64 a))) := hoff.below HBz.out (fun j hj => by have := HBz.out.size; omega) (fun j hj e => by have e : j = O11 := e; have := HOB11.out; omega)
    have hrE := (hoff.sameSize hosz (x := G9) (by intro e; have e : G9 = O11 := e; have h1 := HR9.out; rw [e, HO11.out] at h1; simp at h1)).trans HR9.out
    obtain ⟨vE, hvE⟩ : ∃ V, (((((((v10.setCell ⟨O11, 0, none⟩ (.int .i64 1)).setCell ⟨O11, 1, none⟩ (.string ⟨#[115, 99, 97, 108, 101, 95, 98, 121, 95, 116, 114, 117, 115, 116, 95, 114, 97, 116, 105, 111]⟩)).setCell ⟨O11, 2, none⟩ (.int .u32 0)).setCell ⟨O11, 3, none⟩ (.int .i64 0)).setCell ⟨O11, 4, none⟩ (.string ⟨#[]⟩)).setCell ⟨O11, 5, none⟩ (.slice (some ⟨G9, 0, none⟩) 3 3)).setCell ⟨O11, 6, none⟩ (.int .i64 a)) = V := ⟨_, rfl⟩
    rw [hvE] at hsv HSzz hbE hrE
    try rw [hvE]
    have HSE := HSzz
    have hkE := kids_at (w := vE) (S := (fun j => S j ∨ w.heap.size + 1 < j)) (R := [((⟨2, ⟨#[]⟩, 0, 0, ⟨#[]⟩, [], a⟩ : Nd), .slice none 0 0), (x_trust_coefficient, .slice pl5 x_trust_coefficient.args.length cl5), (x_eps, .slice pl8 x_eps.args.length cl8)]) hrE rfl (List.forall_mem_cons.2 ⟨(kids_none _ _), List.forall_mem_cons.2 ⟨((HL5.out _ HSE.out).2.weak (inH.sub fun j h => .inl h)), List.forall_mem_cons.2 ⟨((HL8.out _ HSE.out).2.weak (inH.sub fun j h => .inl h)), fun r h => by cases h⟩⟩⟩) (.inr (by have := HGB9.out; have := HSZ.out; omega)) (by simp)
    have HEND : Hid (Below W.heap.size W vE ∧ W.heap.size ≤ O11 ∧ vE.heap[O11]? = some (.cells #[.int .i64 1, .string ⟨#[115, 99, 97, 108, 101, 95, 98, 121, 95, 116, 114, 117, 115, 116, 95, 114, 97, 116, 105, 111]⟩, .int .u32 0, .int .i64 0, .string ⟨#[]⟩, .slice (some ⟨G9, 0, none⟩) 3 3, .int .i64 a] 29) ∧ Kids vE (inH (fun j => S j ∨ w.heap.size + 1 < j)) (.slice (some ⟨G9, 0, none⟩) 3 3) [(⟨2, ⟨#[]⟩, 0, 0, ⟨#[]⟩, [], a⟩ : Nd), x_trust_coefficient, x_eps]) := ⟨hbE, HOB11.out, hsv, hkE⟩
    clear hoff hosz hsv hbE hkE hrE hvE s0 s1 s2 s3 s4 s5 s6 r0 r1 r2 r3 r4 r5 r6
    refine hK.out _ _ ?_ (fun hHeld => ?_)
    ·((try dsimp only); first | exact HSE.out | exact fun j h1 _ => HBz.out.block j h1 | exact fun j _ _ => rfl)
    clear hK K
    try simp only [Act.put, List.setIfInBounds_toArray, List.set_cons_zero, List.set_cons_succ]
    refine wpAnyH_done (by kernel_rfl) ?_ _
    go_wp2_with fail
    go_meet
    exact ⟨O11, G9, rfl, HEND.out⟩
   refine AllReadyH.cons (i := 11) (by simp only [List.getElem?_toArray, List.getElem?_cons_succ, List.getElem?_cons_zero]; rfl) (fun K hK => ?_) AllReadyH.nil
   go_simp
   obtain ⟨O11, hO11⟩ : ∃ O, v2.heap.size = O := ⟨_, rfl⟩
   obtain ⟨v11, hv11⟩ : ∃ V, v2.alloc (.cells #[.int .i64 0, .string ⟨#[]⟩, .int .u32 0, .int .i64 0, .string ⟨#[]⟩, .slice none 0 0, .int .i64 0] 29) = V := ⟨_, rfl⟩
   have hb11 : Below v2.heap.size v2 v11 := by rw [← hv11]; exact bel_alloc _ _
   have HO11 : Hid (v11.heap[O11]? = some (.cells #[.int .i64 0, .string ⟨#[]⟩, .int .u32 0, .int .i64 0, .string ⟨#[]⟩, .slice none 0 0, .int .i64 0] 29)) := by show _ = _; rw [← hv11, ← hO11]; exact box_heapA v2 _
   have HOB11 : Hid (W.heap.size ≤ O11) := by show _ ≤ _; rw [← hO11]; exact HBz.out.size
   have HBz : Hid (Below W.heap.size W v11) := bel HBz.out hb11
   rw [hv11, hO11]
   clear hv11 hO11 hb11
   refine hK.out _ _ ?_ (fun hHeld => ?_)
   ·((try dsimp only); first | exact HSE.out | exact fun j h1 _ => HBz.out.block j h1 | exact fun j _ _ => rfl)
   clear hK K
   try simp only [Act.put, List.setIfInBounds_toArray, List.set_cons_zero, List.set_cons_succ]
   clear hHeld
   refine wpAnyH_ready (rs := [9]) (by kernel_rfl) (by simp) ?_
   refine AllReadyH.cons (i := 9) (by simp only [List.getElem?_toArray, List.getElem?_cons_succ, List.getElem?_cons_zero]; rfl) (fun K hK => ?_) AllReadyH.nil
   go_simp
   obtain ⟨G9, hG9⟩ : ∃ G, v11.heap.size = G := ⟨_, rfl⟩
   obtain ⟨v9, hv9⟩ : ∃ V, v11.alloc (.cells #[.int .i64 2, .string ⟨#[]⟩, .int .u32 0, .int .i64 0, .string ⟨#[]⟩, .slice none 0 0, .int .i64 a, .int .i64 x_trust_coefficient.kind, .string x_trust_coefficient.name, .int .u32 x_trust_coefficient.num, .int .i64 x_trust_coefficient.int_, .string x_trust_coefficient.key, .slice pl5 x_trust_coefficient.args.length cl5, .int .i64 x_trust_coefficient.at_, .int .i64 x_eps.kind, .string x_eps.name, .int .u32 x_eps.num, .int .i64 x_eps.int_, .string x_eps.key, .slice pl8 x_eps.args.length cl8, .int .i64 x_eps.at_] 29) = V := ⟨_, rfl⟩
   have hb9 : Below v11.heap.size v11 v9 := by rw [← hv9]; exact bel_alloc _ _
   have HR9 : Hid (v9.heap[G9]? = some (.cells #[.int .i64 2, .string ⟨#[]⟩, .int .u32 0, .int .i64 0, .string ⟨#[]⟩, .slice none 0 0, .int .i64 a, .int .i64 x_trust_coefficient.kind, .string x_trust_coefficient.name, .int .u32 x_trust_coefficient.num, .int .i64 x_trust_coefficient.int_, .string x_trust_coefficient.key, .slice pl5 x_trust_coefficient.args.length cl5, .int .i64 x_trust_coefficient.at_, .int .i64 x_eps.kind, .string x_eps.name, .int .u32 x_eps.num, .int .i64 x_eps.int_, .string x_eps.key, .slice pl8 x_eps.args.length cl8, .int .i64 x_eps.at_] 29)) := by show _ = _; rw [← hv9, ← hG9]; exact box_heapA v11 _
   have HGB9 : Hid (W.heap.size ≤ G9) := by show _ ≤ _; rw [← hG9]; exact HBz.out.size
   have HO11 : Hid (v9.heap[O11]? = some (.cells #[.int .i64 0, .string ⟨#[]⟩, .int .u32 0, .int .i64 0, .string ⟨#[]⟩, .slice none 0 0, .int .i64 0] 29)) := (hb9.block _ (hlt HO11.out)).trans HO11.out
   have HBz : Hid (Below W.heap.size W v9) := bel HBz.out hb9
   rw [hv9, hG9]
   clear hv9 hG9 hb9
   refine hK.out _ _ ?_ (fun hHeld => ?_)
   ·((try dsimp only); first | exact HSE.out | exact fun j h1 _ => HBz.out.block j h1 | exact fun j _ _ => rfl)
   clear hK K
   try simp only [Act.put, List.setIfInBounds_toArray, List.set_cons_zero, List.set_cons_succ]
   clear hHeld
   refine wpAnyH_ready (rs := [10]) (by kernel_rfl) (by simp) ?_
   refine AllReadyH.cons (i := 10) (by simp only [List.getElem?_toArray, List.getElem?_cons_succ, List.getElem?_cons_zero]; rfl) (fun K hK => ?_) AllReadyH.nil
   go_simp
   (go_at_call 73; (with_reducible refine (HCA10.out _ _ _ _).mono ?_); rintro e v10 ⟨rfl, hb10⟩; have HO11 : Hid (v10.heap[O11]? = some (.cells #[.int .i64 0, .string ⟨#[]⟩, .int .u32 0, .int .i64 0, .string ⟨#[]⟩, .slice none 0 0, .int .i64 0] 29)) := (hb10.block _ (hlt HO11.out)).trans HO11.out; have HR9 : Hid (v10.heap[G9]? = some (.cells #[.int .i64 2, .string ⟨#[]⟩, .int .u32 0, .int .i64 0, .string ⟨#[]⟩, .slice none 0 0, .int .i64 a, .int .i64 x_trust_coefficient.kind, .string x_trust_coefficient.name, .int .u32 x_trust_coefficient.num, .int .i64 x_trust_coefficient.int_, .string x_trust_coefficient.key, .slice pl5 x_trust_coefficient.args.length cl5, .int .i64 x_trust_coefficient.at_, .int .i64 x_eps.kind, .string x_eps.name, .int .u32 x_eps.num, .int .i64 x_eps.int_, .string x_eps.key, .slice pl8 x_eps.args.length cl8, .int .i64 x_eps.at_] 29)) := (hb10.block _ (hlt HR9.out)).trans HR9.out; have HBz : Hid (Below W.heap.size W v10) := bel HBz.out hb10; clear hb10)
   try (go_wp2_with fail)
   refine hK.out _ _ ?_ (fun hHeld => ?_)
   ·((try dsimp only); first | exact HSE.out | exact fun j h1 _ => HBz.out.block j h1 | exact fun j _ _ => rfl)
   clear hK K
   try simp only [Act.put, List.setIfInBounds_toArray, List.set_cons_zero, List.set_cons_succ]
   clear hHeld
   refine wpAnyH_ready (rs := [12]) (by kernel_rfl) (by simp) ?_
   refine AllReadyH.cons (i := 12) (by simp only [List.getElem?_toArray, List.getElem?_cons_succ, List.getElem?_cons_zero]; rfl) (fun K hK => ?_) AllReadyH.nil
   obtain ⟨⟨s0, s1, s2, s3, s4, s5, s6⟩, r0, r1, r2, r3, r4, r5, r6⟩ := sevenA HO11.out
   go_simp
   have hoff := offS_seven v10 O11 (.int .i64 1) (.string ⟨#[115, 99, 97, 108, 101, 95, 98, 121, 95, 116, 114, 117, 115, 116, 95, 114, 97, 116, 105, 111]⟩) (.int .u32 0) (.int .i64 0) (.string ⟨#[]⟩) (.slice (some ⟨G9, 0, none⟩) 3 3) (.int .i64 a)
   have hosz := size_sevenS v10 O11 (.int .i64 1) (.string ⟨#[115, 99, 97, 108, 101, 95, 98, 121, 95, 116, 114, 117, 115, 116, 95, 114, 97, 116, 105, 111]⟩) (.int .u32 0) (.int .i64 0) (.string ⟨#[]⟩) (.slice (some ⟨G9, 0, none⟩) 3 3) (.int .i64 a)
   have hsv := put_sevenA HO11.out (.int .i64 1) (.string ⟨#[115, 99, 97, 108, 101, 95, 98, 121, 95, 116, 114, 117, 115, 116, 95, 114, 97, 116, 105, 111]⟩) (.int .u32 0) (.int .i64 0) (.string ⟨#[]⟩) (.slice (some ⟨G9, 0, none⟩) 3 3) (.int .i64 a)
   have HSzz : Hid (∀ j, j < W.heap.size → j ≠ w.heap.size + 1 → ((((((((v10.setCell ⟨O11, 0, none⟩ (.int .i64 1)).setCell ⟨O11, 1, none⟩ (.string ⟨#[115, 99, 97, 108, 101, 95, 98, 121, 95, 116, 114, 117, 115, 116, 95, 114, 97, 116, 105, 111]⟩)).setCell ⟨O11, 2, none⟩ (.int .u32 0)).setCell ⟨O11, 3, none⟩ (.int .i64 0)).setCell ⟨O11, 4, none⟩ (.string ⟨#[]⟩)).setCell ⟨O11, 5, none⟩ (.slice (some ⟨G9, 0, none⟩) 3 3)).setCell ⟨O11, 6, none⟩ (.int .i64 a))).heap[j]? = W.heap[j]?) := fun j h1 h2 => (hoff.sameSize hosz (by show ¬ j = O11; have := HOB11.out; omega)).trans (HBz.out.block j h1)
   have hbE : Below W.heap.size W ((((((((v10.setCell ⟨O11, 0, none⟩ (.int .i64 1)).setCell ⟨O11, 1, none⟩ (.string ⟨#[115, 99, 97, 108, 101, 95, 98, 121, 95, 116, 114, 117, 115, 116, 95, 114, 97, 116, 105, 111]⟩)).setCell ⟨O11, 2, none⟩ (.int .u32 0)).setCell ⟨O11, 3, none⟩ (.int .i64 0)).setCell ⟨O11, 4, none⟩ (.string ⟨#[]⟩)).setCell ⟨O11, 5, none⟩ (.slice (some ⟨G9, 0, none⟩) 3 3)).setCell ⟨O11, 6, none⟩ (.int .i64 a))) := hoff.below HBz.out (fun j hj => by have := HBz.out.size; omega) (fun j hj e => by have e : j = O11 := e; have := HOB11.out; omega)
   have hrE := (hoff.sameSize hosz (x := G9) (by intro e; have e : G9 = O11 := e; have h1 := HR9.out; rw [e, HO11.out] at h1; simp at h1)).trans HR9.out
   obtain ⟨vE, hvE⟩ : ∃ V, (((((((v10.setCell ⟨O11, 0, none⟩ (.int .i64 1)).setCell ⟨O11, 1, none⟩ (.string ⟨#[115, 99, 97, 108, 101, 95, 98, 121, 95, 116, 114, 117, 115, 116, 95, 114, 97, 116, 105, 111]⟩)).setCell ⟨O11, 2, none⟩ (.int .u32 0)).setCell ⟨O11, 3, none⟩ (.int .i64 0)).setCell ⟨O11, 4, none⟩ (.string ⟨#[]⟩)).setCell ⟨O11, 5, none⟩ (.slice (some ⟨G9, 0, none⟩) 3 3)).setCell ⟨O11, 6, none⟩ (.int .i64 a)) = V := ⟨_, rfl⟩
   rw [hvE] at hsv HSzz hbE hrE
   try rw [hvE]
   have HSE := HSzz
   have hkE := kids_at (w := vE) (S := (fun j => S j ∨ w.heap.size + 1 < j)) (R := [((⟨2, ⟨#[]⟩, 0, 0, ⟨#[]⟩, [], a⟩ : Nd), .slice none 0 0), (x_trust_coefficient, .slice pl5 x_trust_coefficient.args.length cl5), (x_eps, .slice pl8 x_eps.args.length cl8)]) hrE rfl (List.forall_mem_cons.2 ⟨(kids_none _ _), List.forall_mem_cons.2 ⟨((HL5.out _ HSE.out).2.weak (inH.sub fun j h => .inl h)), List.forall_mem_cons.2 ⟨((HL8.out _ HSE.out).2.weak (inH.sub fun j h => .inl h)), fun r h => by cases h⟩⟩⟩) (.inr (by have := HGB9.out; have := HSZ.out; omega)) (by simp)
   have HEND : Hid (Below W.heap.size W vE ∧ W.heap.size ≤ O11 ∧ vE.heap[O11]? = some (.cells #[.int .i64 1, .string ⟨#[115, 99, 97, 108, 101, 95, 98, 121, 95, 116, 114, 117, 115, 116, 95, 114, 97, 116, 105, 111]⟩, .int .u32 0, .int .i64 0, .string ⟨#[]⟩, .slice (some ⟨G9, 0, none⟩) 3 3, .int .i64 a] 29) ∧ Kids vE (inH (fun j => S j ∨ w.heap.size + 1 < j)) (.slice (some ⟨G9, 0, none⟩) 3 3) [(⟨2, ⟨#[]⟩, 0, 0, ⟨#[]⟩, [], a⟩ : Nd), x_trust_coefficient, x_eps]) := ⟨hbE, HOB11.out, hsv, hkE⟩
   clear hoff hosz hsv hbE hkE hrE hvE s0 s1 s2 s3 s4 s5 s6 r0 r1 r2 r3 r4 r5 r6
   refine hK.out _ _ ?_ (fun hHeld => ?_)
   ·((try dsimp only); first | exact HSE.out | exact fun j h1 _ => HBz.out.block j h1 | exact fun j _ _ => rfl)
   clear hK K
   try simp only [Act.put, List.setIfInBounds_toArray, List.set_cons_zero, List.set_cons_succ]
   refine wpAnyH_done (by kernel_rfl) ?_ _
   go_wp2_with fail
   go_meet
   exact ⟨O11, G9, rfl, HEND.out⟩
  refine AllReadyH.cons (i := 11) (by simp only [List.getElem?_toArray, List.getElem?_cons_succ, List.getElem?_cons_zero]; rfl) (fun K hK => ?_) AllReadyH.nil
  go_simp
  obtain ⟨O11, hO11⟩ : ∃ O, W.heap.size = O := ⟨_, rfl⟩
  obtain ⟨v11, hv11⟩ : ∃ V, (W.alloc (.cells #[.int .i64 0, .string ⟨#[]⟩, .int .u32 0, .int .i64 0, .string ⟨#[]⟩, .slice none 0 0, .int .i64 0] 29)).drew = V := ⟨_, rfl⟩
  have hb11 : Below W.heap.size W v11 := by rw [← hv11]; exact bel (bel_alloc _ _) (bel_d _)
  have HO11 : Hid (v11.heap[O11]? = some (.cells #[.int .i64 0, .string ⟨#[]⟩, .int .u32 0, .int .i64 0, .string ⟨#[]⟩, .slice none 0 0, .int .i64 0] 29)) := by show _ = _; rw [← hv11, ← hO11]; exact box_heapA W _
  have HOB11 : Hid (W.heap.size ≤ O11) := by show _ ≤ _; rw [← hO11]; exact HBz.out.size
  have HBz : Hid (Below W.heap.size W v11) := bel HBz.out hb11
  rw [hv11, hO11]
  clear hv11 hO11 hb11
  refine hK.out _ _ ?_ (fun hHeld => ?_)
  ·((try dsimp only); first | exact HSE.out | exact fun j h1 _ => HBz.out.block j h1 | exact fun j _ _ => rfl)
  clear hK K
  try simp only [Act.put, List.setIfInBounds_toArray, List.set_cons_zero, List.set_cons_succ]
  clear hHeld
  refine wpAnyH_ready (rs := [2]) (by kernel_rfl) (by simp) ?_
  refine AllReadyH.cons (i := 2) (by simp only [List.getElem?_toArray, List.getElem?_cons_succ, List.getElem?_cons_zero]; rfl) (fun K hK => ?_) AllReadyH.nil
  go_simp
  (go_at_call 77; (with_reducible refine (HCA2.out _).mono ?_); rintro e v2 ⟨rfl, hb2⟩; have HO11 : Hid (v2.heap[O11]? = some (.cells #[.int .i64 0, .string ⟨#[]⟩, .int .u32 0, .int .i64 0, .string ⟨#[]⟩, .slice none 0 0, .int .i64 0] 29)) := (hb2.block _ (hlt HO11.out)).trans HO11.out; have HBz : Hid (Below W.heap.size W v2) := bel HBz.out hb2; clear hb2)
  try (go_wp2_with fail)
  refine hK.out _ _ ?_ (fun hHeld => ?_)
  ·((try dsimp only); first | exact HSE.out | exact fun j h1 _ => HBz.out.block j h1 | exact fun j _ _ => rfl)
  clear hK K
  try simp only [Act.put, List.setIfInBounds_toArray, List.set_cons_zero, List.set_cons_succ]
  clear hHeld
  refine wpAnyH_ready (rs := [9]) (by kernel_rfl) (by simp) ?_
  refine AllReadyH.cons (i := 9) (by simp only [List.getElem?_toArray, List.getElem?_cons_succ, List.getElem?_cons_zero]; rfl) (fun K hK => ?_) AllReadyH.nil
  go_simp
  obtain ⟨G9, hG9⟩ : ∃ G, v2.heap.size = G := ⟨_, rfl⟩
  obtain ⟨v9, hv9⟩ : ∃ V, v2.alloc (.cells #[.int .i64 2, .string ⟨#[]⟩, .int .u32 0, .int .i64 0, .string ⟨#[]⟩, .slice none 0 0, .int .i64 a, .int .i64 x_trust_coefficient.kind, .string x_trust_coefficient.name, .int .u32 x_trust_coefficient.num, .int .i64 x_trust_coefficient.int_, .string x_trust_coefficient.key, .slice pl5 x_trust_coefficient.args.length cl5, .int .i64 x_trust_coefficient.at_, .int .i64 x_eps.kind, .string x_eps.name, .int .u32 x_eps.num, .int .i64 x_eps.int_, .string x_eps.key, .slice pl8 x_eps.args.length cl8, .int .i64 x_eps.at_] 29) = V := ⟨_, rfl⟩
  have hb9 : Below v2.heap.size v2 v9 := by rw [← hv9]; exact bel_alloc _ _
  have HR9 : Hid (v9.heap[G9]? = some (.cells #[.int .i64 2, .string ⟨#[]⟩, .int .u32 0, .int .i64 0, .string ⟨#[]⟩, .slice none 0 0, .int .i64 a, .int .i64 x_trust_coefficient.kind, .string x_trust_coefficient.name, .int .u32 x_trust_coefficient.num, .int .i64 x_trust_coefficient.int_, .string x_trust_coefficient.key, .slice pl5 x_trust_coefficient.args.length cl5, .int .i64 x_trust_coefficient.at_, .int .i64 x_eps.kind, .string x_eps.name, .int .u32 x_eps.num, .int .i64 x_eps.int_, .string x_eps.key, .slice pl8 x_eps.args.length cl8, .int .i64 x_eps.at_] 29)) := by show _ = _; rw [← hv9, ← hG9]; exact box_heapA v2 _
  have HGB9 : Hid (W.heap.size ≤ G9) := by show _ ≤ _; rw [← hG9]; exact HBz.out.size
  have HO11 : Hid (v9.heap[O11]? = some (.cells #[.int .i64 0, .string ⟨#[]⟩, .int .u32 0, .int .i64 0, .string ⟨#[]⟩, .slice none 0 0, .int .i64 0] 29)) := (hb9.block _ (hlt HO11.out)).trans HO11.out
  have HBz : Hid (Below W.heap.size W v9) := bel HBz.out hb9
  rw [hv9, hG9]
  clear hv9 hG9 hb9
  refine hK.out _ _ ?_ (fun hHeld => ?_)
  ·((try dsimp only); first | exact HSE.out | exact fun j h1 _ => HBz.out.block j h1 | exact fun j _ _ => rfl)
  clear hK K
  try simp only [Act.put, List.setIfInBounds_toArray, List.set_cons_zero, List.set_cons_succ]
  clear hHeld
  refine wpAnyH_ready (rs := [10]) (by kernel_rfl) (by simp) ?_
  refine AllReadyH.cons (i := 10) (by simp only [List.getElem?_toArray, List.getElem?_cons_succ, List.getElem?_cons_zero]; rfl) (fun K hK => ?_) AllReadyH.nil
  go_simp
  (go_at_call 73; (with_reducible refine (HCA10.out _ _ _ _).mono ?_); rintro e v10 ⟨rfl, hb10⟩; have HO11 : Hid (v10.heap[O11]? = some (.cells #[.int .i64 0, .string ⟨#[]⟩, .int .u32 0, .int .i64 0, .string ⟨#[]⟩, .slice none 0 0, .int .i64 0] 29)) := (hb10.block _ (hlt HO11.out)).trans HO11.out; have HR9 : Hid (v10.heap[G9]? = some (.cells #[.int .i64 2, .string ⟨#[]⟩, .int .u32 0, .int .i64 0, .string ⟨#[]⟩, .slice none 0 0, .int .i64 a, .int .i64 x_trust_coefficient.kind, .string x_trust_coefficient.name, .int .u32 x_trust_coefficient.num, .int .i64 x_trust_coefficient.int_, .string x_trust_coefficient.key, .slice pl5 x_trust_coefficient.args.length cl5, .int .i64 x_trust_coefficient.at_, .int .i64 x_eps.kind, .string x_eps.name, .int .u32 x_eps.num, .int .i64 x_eps.int_, .string x_eps.key, .slice pl8 x_eps.args.length cl8, .int .i64 x_eps.at_] 29)) := (hb10.block _ (hlt HR9.out)).trans HR9.out; have HBz : Hid (Below W.heap.size W v10) := bel HBz.out hb10; clear hb10)
  try (go_wp2_with fail)
  refine hK.out _ _ ?_ (fun hHeld => ?_)
  ·((try dsimp only); first | exact HSE.out | exact fun j h1 _ => HBz.out.block j h1 | exact fun j _ _ => rfl)
  clear hK K
  try simp only [Act.put, List.setIfInBounds_toArray, List.set_cons_zero, List.set_cons_succ]
  clear hHeld
  refine wpAnyH_ready (rs := [12]) (by kernel_rfl) (by simp) ?_
  refine AllReadyH.cons (i := 12) (by simp only [List.getElem?_toArray, List.getElem?_cons_succ, List.getElem?_cons_zero]; rfl) (fun K hK => ?_) AllReadyH.nil
  obtain ⟨⟨s0, s1, s2, s3, s4, s5, s6⟩, r0, r1, r2, r3, r4, r5, r6⟩ := sevenA HO11.out
  go_simp
  have hoff := offS_seven v10 O11 (.int .i64 1) (.string ⟨#[115, 99, 97, 108, 101, 95, 98, 121, 95, 116, 114, 117, 115, 116, 95, 114, 97, 116, 105, 111]⟩) (.int .u32 0) (.int .i64 0) (.string ⟨#[]⟩) (.slice (some ⟨G9, 0, none⟩) 3 3) (.int .i64 a)
  have hosz := size_sevenS v10 O11 (.int .i64 1) (.string ⟨#[115, 99, 97, 108, 101, 95, 98, 121, 95, 116, 114, 117, 115, 116, 95, 114, 97, 116, 105, 111]⟩) (.int .u32 0) (.int .i64 0) (.string ⟨#[]⟩) (.slice (some ⟨G9, 0, none⟩) 3 3) (.int .i64 a)
  have hsv := put_sevenA HO11.out (.int .i64 1) (.string ⟨#[115, 99, 97, 108, 101, 95, 98, 121, 95, 116, 114, 117, 115, 116, 95, 114, 97, 116, 105, 111]⟩) (.int .u32 0) (.int .i64 0) (.string ⟨#[]⟩) (.slice (some ⟨G9, 0, none⟩) 3 3) (.int .i64 a)
  have HSzz : Hid (∀ j, j < W.heap.size → j ≠ w.heap.size + 1 → ((((((((v10.setCell ⟨O11, 0, none⟩ (.int .i64 1)).setCell ⟨O11, 1, none⟩ (.string ⟨#[115, 99, 97, 108, 101, 95, 98, 121, 95, 116, 114, 117, 115, 116, 95, 114, 97, 116, 105, 111]⟩)).setCell ⟨O11, 2, none⟩ (.int .u32 0)).setCell ⟨O11, 3, none⟩ (.int .i64 0)).setCell ⟨O11, 4, none⟩ (.string ⟨#[]⟩)).setCell ⟨O11, 5, none⟩ (.slice (some ⟨G9, 0, none⟩) 3 3)).setCell ⟨O11, 6, none⟩ (.int .i64 a))).heap[j]? = W.heap[j]?) := fun j h1 h2 => (hoff.sameSize hosz (by show ¬ j = O11; have := HOB11.out; omega)).trans (HBz.out.block j h1)
  have hbE : Below W.heap.size W ((((((((v10.setCell ⟨O11, 0, none⟩ (.int .i64 1)).setCell ⟨O11, 1, none⟩ (.string ⟨#[115, 99, 97, 108, 101, 95, 98, 121, 95, 116, 114, 117, 115, 116, 95, 114, 97, 116, 105, 111]⟩)).setCell ⟨O11, 2, none⟩ (.int .u32 0)).setCell ⟨O11, 3, none⟩ (.int .i64 0)).setCell ⟨O11, 4, none⟩ (.string ⟨#[]⟩)).setCell ⟨O11, 5, none⟩ (.slice (some ⟨G9, 0, none⟩) 3 3)).setCell ⟨O11, 6, none⟩ (.int .i64 a))) := hoff.below HBz.out (fun j hj => by have := HBz.out.size; omega) (fun j hj e => by have e : j = O11 := e; have := HOB11.out; omega)
  have hrE := (hoff.sameSize hosz (x := G9) (by intro e; have e : G9 = O11 := e; have h1 := HR9.out; rw [e, HO11.out] at h1; simp at h1)).trans HR9.out
  obtain ⟨vE, hvE⟩ : ∃ V, (((((((v10.setCell ⟨O11, 0, none⟩ (.int .i64 1)).setCell ⟨O11, 1, none⟩ (.string ⟨#[115, 99, 97, 108, 101, 95, 98, 121, 95, 116, 114, 117, 115, 116, 95, 114, 97, 116, 105, 111]⟩)).setCell ⟨O11, 2, none⟩ (.int .u32 0)).setCell ⟨O11, 3, none⟩ (.int .i64 0)).setCell ⟨O11, 4, none⟩ (.string ⟨#[]⟩)).setCell ⟨O11, 5, none⟩ (.slice (some ⟨G9, 0, none⟩) 3 3)).setCell ⟨O11, 6, none⟩ (.int .i64 a)) = V := ⟨_, rfl⟩
  rw [hvE] at hsv HSzz hbE hrE
  try rw [hvE]
  have HSE := HSzz
  have hkE := kids_at (w := vE) (S := (fun j => S j ∨ w.heap.size + 1 < j)) (R := [((⟨2, ⟨#[]⟩, 0, 0, ⟨#[]⟩, [], a⟩ : Nd), .slice none 0 0), (x_trust_coefficient, .slice pl5 x_trust_coefficient.args.length cl5), (x_eps, .slice pl8 x_eps.args.length cl8)]) hrE rfl (List.forall_mem_cons.2 ⟨(kids_none _ _), List.forall_mem_cons.2 ⟨((HL5.out _ HSE.out).2.weak (inH.sub fun j h => .inl h)), List.forall_mem_cons.2 ⟨((HL8.out _ HSE.out).2.weak (inH.sub fun j h => .inl h)), fun r h => by cases h⟩⟩⟩) (.inr (by have := HGB9.out; have := HSZ.out; omega)) (by simp)
  have HEND : Hid (Below W.heap.size W vE ∧ W.heap.size ≤ O11 ∧ vE.heap[O11]? = some (.cells #[.int .i64 1, .string ⟨#[115, 99, 97, 108, 101, 95, 98, 121, 95, 116, 114, 117, 115, 116, 95, 114, 97, 116, 105, 111]⟩, .int .u32 0, .int .i64 0, .string ⟨#[]⟩, .slice (some ⟨G9, 0, none⟩) 3 3, .int .i64 a] 29) ∧ Kids vE (inH (fun j => S j ∨ w.heap.size + 1 < j)) (.slice (some ⟨G9, 0, none⟩) 3 3) [(⟨2, ⟨#[]⟩, 0, 0, ⟨#[]⟩, [], a⟩ : Nd), x_trust_coefficient, x_eps]) := ⟨hbE, HOB11.out, hsv, hkE⟩
  clear hoff hosz hsv hbE hkE hrE hvE s0 s1 s2 s3 s4 s5 s6 r0 r1 r2 r3 r4 r5 r6
  refine hK.out _ _ ?_ (fun hHeld => ?_)
  ·((try dsimp only); first | exact HSE.out | exact fun j h1 _ => HBz.out.block j h1 | exact fun j _ _ => rfl)
  clear hK K
  try simp only [Act.put, List.setIfInBounds_toArray, List.set_cons_zero, List.set_cons_succ]
  refine wpAnyH_done (by kernel_rfl) ?_ _
  go_wp2_with fail
  go_meet
  exact ⟨O11, G9, rfl, HEND.out⟩
 case rest =>
  obtain ⟨O, GG, rfl, HE⟩ := hcut
  have HON : Hid (O ≠ w.heap.size + 1) := by show O ≠ _; have := HE.out.2.1; have := HSZ.out; omega
  have HTW : Hid (TwoB w b a wc) := HTW.out.below HE.out.1
  have HPM : Hid (PM wc b n nd S) := HPM.out.below HE.out.1
  have HSB : Hid (∀ j, (j = b ∨ S j) → j < wc.heap.size ∧ j ≠ w.heap.size + 1) := fun j hj => ⟨by have := (HSB.out j hj).1; have := HE.out.1.size; omega, (HSB.out j hj).2⟩
  have HSZ : Hid (w.heap.size + 2 ≤ wc.heap.size) := hlt HTW.out.2.2
  have HKG0 : Hid (∀ x, Below wc.heap.size wc x → Kids x (inH (fun j => S j ∨ w.heap.size + 1 < j)) (.slice (some ⟨GG, 0, none⟩) 3 3) [(⟨2, ⟨#[]⟩, 0, 0, ⟨#[]⟩, [], a⟩ : Nd), x_trust_coefficient, x_eps]) := fun x hx => HE.out.2.2.2.below hx
  clear g0 g1
  obtain ⟨⟨g0, g1⟩, -⟩ := twoC HTW.out.2.1
  obtain ⟨⟨q0, q1, q2, q3, q4, q5, q6⟩, -⟩ := sevenA HE.out.2.2.1
  have HBz : Hid (Below wc.heap.size wc wc) := Below.refl _ _
  obtain ⟨hrn, hrl, hok⟩ := HRN.out
  have HRT : Hid (∀ x, Below wc.heap.size wc x → Calls Tryz.prog 65 #[.agg #[.map (some b), .int .i64 a]] x fun e w' => ∃ p c, e = .returned (.agg #[.int .i64 1, .string rnm, .int .u32 0, .int .i64 0, .string ⟨#[]⟩, .slice p rl.length c, .int .i64 a]) ∧ Kids w' (inH (fun j => S j ∨ w.heap.size + 1 < j)) (.slice p rl.length c) rl ∧ Below x.heap.size x w') := fun x hx => by
   have := rated_any b n a nd S x_rate x HK_x_rate.out hok (fun j hj => by have := (HSB.out j (.inr hj)).1; have := hx.size; omega) (HPM.out.below hx)
   rw [hrn, hrl] at this
   exact this.mono fun e w' ⟨p, c, h1, h2, h3⟩ => ⟨p, c, h1, h2.weak (inH.sub fun j h => h.imp id fun h => by have := hx.size; have := HSZ.out; omega), h3⟩
  clear hrn hrl hok HRN HE
  have HOF3 : Hid (∀ (q : Option Addr) (c : Nat) (x : World), Below wc.heap.size wc x → StrsA x q [⟨#[119, 101, 105, 103, 104, 116, 95, 100, 101, 99, 97, 121]⟩] → Calls Tryz.prog 69 #[.agg #[.map (some b), .int .i64 a], .string ⟨#[97, 100, 100, 95, 100, 101, 99, 97, 121, 101, 100, 95, 119, 101, 105, 103, 104, 116, 115]⟩, .slice q 1 c] x fun e w' => ∃ p c, e = .returned (.agg #[.int .i64 1, .string ⟨#[97, 100, 100, 95, 100, 101, 99, 97, 121, 101, 100, 95, 119, 101, 105, 103, 104, 116, 115]⟩, .int .u32 0, .int .i64 0, .string ⟨#[]⟩, .slice p 1 c, .int .i64 a]) ∧ Kids w' (inH (fun j => S j ∨ w.heap.size + 1 < j)) (.slice p 1 c) [x_weight_decay] ∧ Below x.heap.size x w') := fun q c x hx hq => (of_any b n a nd S ⟨#[97, 100, 100, 95, 100, 101, 99, 97, 121, 101, 100, 95, 119, 101, 105, 103, 104, 116, 115]⟩ [⟨#[119, 101, 105, 103, 104, 116, 95, 100, 101, 99, 97, 121]⟩] [x_weight_decay] q c x (by decide) (by decide) (by simp [HK_x_weight_decay.out]) (fun j hj => by have := (HSB.out j (.inr hj)).1; have := hx.size; omega) (HPM.out.below hx) hq).mono fun e w' ⟨p, c, h1, h2, h3⟩ => ⟨p, c, h1, h2.weak (inH.sub fun j h => h.imp id fun h => by have := hx.size; have := HSZ.out; omega), h3⟩
  have HOF9 : Hid (∀ (q : Option Addr) (c : Nat) (x : World), Below wc.heap.size wc x → StrsA x q [⟨#[109, 111, 109, 101, 110, 116, 117, 109]⟩, ⟨#[110, 101, 115, 116, 101, 114, 111, 118]⟩] → Calls Tryz.prog 69 #[.agg #[.map (some b), .int .i64 a], .string ⟨#[116, 114, 97, 99, 101]⟩, .slice q 2 c] x fun e w' => ∃ p c, e = .returned (.agg #[.int .i64 1, .string ⟨#[116, 114, 97, 99, 101]⟩, .int .u32 0, .int .i64 0, .string ⟨#[]⟩, .slice p 2 c, .int .i64 a]) ∧ Kids w' (inH (fun j => S j ∨ w.heap.size + 1 < j)) (.slice p 2 c) [x_momentum, x_nesterov] ∧ Below x.heap.size x w') := fun q c x hx hq => (of_any b n a nd S ⟨#[116, 114, 97, 99, 101]⟩ [⟨#[109, 111, 109, 101, 110, 116, 117, 109]⟩, ⟨#[110, 101, 115, 116, 101, 114, 111, 118]⟩] [x_momentum, x_nesterov] q c x (by decide) (by decide) (by simp [HK_x_momentum.out, HK_x_nesterov.out]) (fun j hj => by have := (HSB.out j (.inr hj)).1; have := hx.size; omega) (HPM.out.below hx) hq).mono fun e w' ⟨p, c, h1, h2, h3⟩ => ⟨p, c, h1, h2.weak (inH.sub fun j h => h.imp id fun h => by have := hx.size; have := HSZ.out; omega), h3⟩
  have HCA11 : Hid (∀ (q : Option Addr) (m c : Nat) (x : World), Calls Tryz.prog 68 #[.agg #[.map (some b), .int .i64 a], .slice q m c] x fun e w' => e = .returned (.agg #[.int .i64 1, .string ⟨#[99, 104, 97, 105, 110]⟩, .int .u32 0, .int .i64 0, .string ⟨#[]⟩, .slice q m c, .int .i64 a]) ∧ Below x.heap.size x w') := fun q m c x => pchain_any b a q m c x
  go_upto_region 2 with fail
  refine wp_region_held_drew (S := (fun x => ∀ j, j < wc.heap.size → j ≠ w.heap.size + 1 → x.heap[j]? = wc.heap[j]?)) (by kernel_rfl) ?_ (fun hHeld => ?_)
  ·((try dsimp only); first | exact HSE.out | exact fun j h1 _ => HBz.out.block j h1 | exact fun j _ _ => rfl)
  refine wpAnyH_take (i := 0) (v := ?_) (by simp only [List.getElem?_toArray, List.getElem?_cons_succ, List.getElem?_cons_zero]; rfl) (by kernel_rfl) (by kernel_rfl) (by kernel_rfl) (by exact fun _ _ _ h => h) (Or.inl ⟨by rfl, ?_⟩) (by assumption) ?_
  rotate_left 1
  ·(intro wS hSw; have hSb : ∀ j, j < wc.heap.size → j ≠ w.heap.size + 1 → wS.heap[j]? = wc.heap[j]? := hSw; clear hSw; have zp := (cell_to hSb (by simp) g0); have zq := (cell_to hSb (by simp) g1); have y0 := cell_to hSb HON.out q0; have y1 := cell_to hSb HON.out q1; have y2 := cell_to hSb HON.out q2; have y3 := cell_to hSb HON.out q3; have y4 := cell_to hSb HON.out q4; have y5 := cell_to hSb HON.out q5; have y6 := cell_to hSb HON.out q6; go_simp; try (with_reducible rfl))
  try simp only [Act.put, List.setIfInBounds_toArray, List.set_cons_zero, List.set_cons_succ]
  refine wpAnyH_take (i := 1) (v := ?_) (by simp only [List.getElem?_toArray, List.getElem?_cons_succ, List.getElem?_cons_zero]; rfl) (by kernel_rfl) (by kernel_rfl) (by kernel_rfl) (by exact fun _ _ _ h => h) (Or.inl ⟨by rfl, ?_⟩) (by assumption) ?_
  rotate_left 1
  ·(intro wS hSw; have hSb : ∀ j, j < wc.heap.size → j ≠ w.heap.size + 1 → wS.heap[j]? = wc.heap[j]? := hSw; clear hSw; have zp := (cell_to hSb (by simp) g0); have zq := (cell_to hSb (by simp) g1); have y0 := cell_to hSb HON.out q0; have y1 := cell_to hSb HON.out q1; have y2 := cell_to hSb HON.out q2; have y3 := cell_to hSb HON.out q3; have y4 := cell_to hSb HON.out q4; have y5 := cell_to hSb HON.out q5; have y6 := cell_to hSb HON.out q6; go_simp; try (with_reducible rfl))
  try simp only [Act.put, List.setIfInBounds_toArray, List.set_cons_zero, List.set_cons_succ]
  refine wpAnyH_take (i := 4) (v := ?_) (by simp only [List.getElem?_toArray, List.getElem?_cons_succ, List.getElem?_cons_zero]; rfl) (by kernel_rfl) (by kernel_rfl) (by kernel_rfl) (by exact fun _ _ _ h => h) (Or.inl ⟨by rfl, ?_⟩) (by assumption) ?_
  rotate_left 1
  ·(intro wS hSw; have hSb : ∀ j, j < wc.heap.size → j ≠ w.heap.size + 1 → wS.heap[j]? = wc.heap[j]? := hSw; clear hSw; have zp := (cell_to hSb (by simp) g0); have zq := (cell_to hSb (by simp) g1); have y0 := cell_to hSb HON.out q0; have y1 := cell_to hSb HON.out q1; have y2 := cell_to hSb HON.out q2; have y3 := cell_to hSb HON.out q3; have y4 := cell_to hSb HON.out q4; have y5 := cell_to hSb HON.out q5; have y6 := cell_to hSb HON.out q6; go_simp; try (with_reducible rfl))
  try simp only [Act.put, List.setIfInBounds_toArray, List.set_cons_zero, List.set_cons_succ]
  refine wpAnyH_take (i := 5) (v := ?_) (by simp only [List.getElem?_toArray, List.getElem?_cons_succ, List.getElem?_cons_zero]; rfl) (by kernel_rfl) (by kernel_rfl) (by kernel_rfl) (by exact fun _ _ _ h => h) (Or.inl ⟨by rfl, ?_⟩) (by assumption) ?_
  rotate_left 1
  ·(intro wS hSw; have hSb : ∀ j, j < wc.heap.size → j ≠ w.heap.size + 1 → wS.heap[j]? = wc.heap[j]? := hSw; clear hSw; have zp := (cell_to hSb (by simp) g0); have zq := (cell_to hSb (by simp) g1); have y0 := cell_to hSb HON.out q0; have y1 := cell_to hSb HON.out q1; have y2 := cell_to hSb HON.out q2; have y3 := cell_to hSb HON.out q3; have y4 := cell_to hSb HON.out q4; have y5 := cell_to hSb HON.out q5; have y6 := cell_to hSb HON.out q6; go_simp; try (with_reducible rfl))
  try simp only [Act.put, List.setIfInBounds_toArray, List.set_cons_zero, List.set_cons_succ]
  refine wpAnyH_take (i := 7) (v := ?_) (by simp only [List.getElem?_toArray, List.getElem?_cons_succ, List.getElem?_cons_zero]; rfl) (by kernel_rfl) (by kernel_rfl) (by kernel_rfl) (by exact fun _ _ _ h => h) (Or.inl ⟨by rfl, ?_⟩) (by assumption) ?_
  rotate_left 1
  ·(intro wS hSw; have hSb : ∀ j, j < wc.heap.size → j ≠ w.heap.size + 1 → wS.heap[j]? = wc.heap[j]? := hSw; clear hSw; have zp := (cell_to hSb (by simp) g0); have zq := (cell_to hSb (by simp) g1); have y0 := cell_to hSb HON.out q0; have y1 := cell_to hSb HON.out q1; have y2 := cell_to hSb HON.out q2; have y3 := cell_to hSb HON.out q3; have y4 := cell_to hSb HON.out q4; have y5 := cell_to hSb HON.out q5; have y6 := cell_to hSb HON.out q6; go_simp; try (with_reducible rfl))
  try simp only [Act.put, List.setIfInBounds_toArray, List.set_cons_zero, List.set_cons_succ]
  clear hHeld
  refine wpAnyH_ready (rs := [2, 8]) (by kernel_rfl) (by simp) ?_
  refine AllReadyH.cons (i := 2) (by simp only [List.getElem?_toArray, List.getElem?_cons_succ, List.getElem?_cons_zero]; rfl) (fun K hK => ?_) ?_
  ·go_simp
   obtain ⟨G2, hG2⟩ : ∃ G, wc.heap.size = G := ⟨_, rfl⟩
   obtain ⟨v2, hv2⟩ : ∃ V, (wc.alloc (.cells #[.string ⟨#[119, 101, 105, 103, 104, 116, 95, 100, 101, 99, 97, 121]⟩] 9)).drew = V := ⟨_, rfl⟩
   have hb2 : Below wc.heap.size wc v2 := by rw [← hv2]; exact bel (bel_alloc _ _) (bel_d _)
   have HT2 : Hid (StrsA v2 (some ⟨G2, 0, none⟩) [⟨#[119, 101, 105, 103, 104, 116, 95, 100, 101, 99, 97, 121]⟩]) := strs_mk (by rw [← hv2, ← hG2]; exact box_heapA wc _)
   have HBz : Hid (Below wc.heap.size wc v2) := bel HBz.out hb2
   rw [hv2, hG2]
   clear hv2 hG2 hb2
   refine hK.out _ _ ?_ (fun hHeld => ?_)
   ·((try dsimp only); first | exact HSE.out | exact fun j h1 _ => HBz.out.block j h1 | exact fun j _ _ => rfl)
   clear hK K
   try simp only [Act.put, List.setIfInBounds_toArray, List.set_cons_zero, List.set_cons_succ]
   clear hHeld
   refine wpAnyH_ready (rs := [3, 8]) (by kernel_rfl) (by simp) ?_
   refine AllReadyH.cons (i := 3) (by simp only [List.getElem?_toArray, List.getElem?_cons_succ, List.getElem?_cons_zero]; rfl) (fun K hK => ?_) ?_
   ·go_simp
    (go_at_call 69; (with_reducible refine (HOF3.out _ _ _ HBz.out HT2.out).mono ?_); rintro e v3 ⟨p3, c3, rfl, hk3, hb3⟩; have HK3 : Hid (Kids v3 (inH (fun j => S j ∨ w.heap.size + 1 < j)) (.slice p3 1 c3) [x_weight_decay]) := hk3; clear hk3; have HT2 : Hid (StrsA v3 (some ⟨G2, 0, none⟩) [⟨#[119, 101, 105, 103, 104, 116, 95, 100, 101, 99, 97, 121]⟩]) := HT2.out.below hb3; have HBz : Hid (Below wc.heap.size wc v3) := bel HBz.out hb3; clear hb3)
    try (go_wp2_with fail)
    refine hK.out _ _ ?_ (fun hHeld => ?_)
    ·((try dsimp only); first | exact HSE.out | exact fun j h1 _ => HBz.out.block j h1 | exact fun j _ _ => rfl)
    clear hK K
    try simp only [Act.put, List.setIfInBounds_toArray, List.set_cons_zero, List.set_cons_succ]
    clear hHeld
    refine wpAnyH_ready (rs := [6, 8]) (by kernel_rfl) (by simp) ?_
    refine AllReadyH.cons (i := 6) (by simp only [List.getElem?_toArray, List.getElem?_cons_succ, List.getElem?_cons_zero]; rfl) (fun K hK => ?_) ?_
    ·go_simp
     (go_at_call 65; (with_reducible refine (HRT.out _ HBz.out).mono ?_); rintro e v6 ⟨p6, c6, rfl, hk6, hb6⟩; have HK6 : Hid (Kids v6 (inH (fun j => S j ∨ w.heap.size + 1 < j)) (.slice p6 rl.length c6) rl) := hk6; clear hk6; have HT2 : Hid (StrsA v6 (some ⟨G2, 0, none⟩) [⟨#[119, 101, 105, 103, 104, 116, 95, 100, 101, 99, 97, 121]⟩]) := HT2.out.below hb6; have HK3 : Hid (Kids v6 (inH (fun j => S j ∨ w.heap.size + 1 < j)) (.slice p3 1 c3) [x_weight_decay]) := HK3.out.below hb6; have HBz : Hid (Below wc.heap.size wc v6) := bel HBz.out hb6; clear hb6)
     try (go_wp2_with fail)
     refine hK.out _ _ ?_ (fun hHeld => ?_)
     ·((try dsimp only); first | exact HSE.out | exact fun j h1 _ => HBz.out.block j h1 | exact fun j _ _ => rfl)
     clear hK K
     try simp only [Act.put, List.setIfInBounds_toArray, List.set_cons_zero, List.set_cons_succ]
     clear hHeld
     refine wpAnyH_ready (rs := [8]) (by kernel_rfl) (by simp) ?_
     refine AllReadyH.cons (i := 8) (by simp only [List.getElem?_toArray, List.getElem?_cons_succ, List.getElem?_cons_zero]; rfl) (fun K hK => ?_) AllReadyH.nil
     go_simp
     obtain ⟨G8, hG8⟩ : ∃ G, v6.heap.size = G := ⟨_, rfl⟩
     obtain ⟨v8, hv8⟩ : ∃ V, v6.alloc (.cells #[.string ⟨#[109, 111, 109, 101, 110, 116, 117, 109]⟩, .string ⟨#[110, 101, 115, 116, 101, 114, 111, 118]⟩] 9) = V := ⟨_, rfl⟩
     have hb8 : Below v6.heap.size v6 v8 := by rw [← hv8]; exact bel_alloc _ _
     have HT8 : Hid (StrsA v8 (some ⟨G8, 0, none⟩) [⟨#[109, 111, 109, 101, 110, 116, 117, 109]⟩, ⟨#[110, 101, 115, 116, 101, 114, 111, 118]⟩]) := strs_mk (by rw [← hv8, ← hG8]; exact box_heapA v6 _)
     have HT2 : Hid (StrsA v8 (some ⟨G2, 0, none⟩) [⟨#[119, 101, 105, 103, 104, 116, 95, 100, 101, 99, 97, 121]⟩]) := HT2.out.below hb8
     have HK3 : Hid (Kids v8 (inH (fun j => S j ∨ w.heap.size + 1 < j)) (.slice p3 1 c3) [x_weight_decay]) := HK3.out.below hb8
     have HK6 : Hid (Kids v8 (inH (fun j => S j ∨ w.heap.size + 1 < j)) (.slice p6 rl.length c6) rl) := HK6.out.below hb8
     have HBz : Hid (Below wc.heap.size wc v8) := bel HBz.out hb8
     rw [hv8, hG8]
     clear hv8 hG8 hb8
     refine hK.out _ _ ?_ (fun hHeld => ?_)
     ·((try dsimp only); first | exact HSE.out | exact fun j h1 _ => HBz.out.block j h1 | exact fun j _ _ => rfl)
     clear hK K
     try simp only [Act.put, List.setIfInBounds_toArray, List.set_cons_zero, List.set_cons_succ]
     clear hHeld
     refine wpAnyH_ready (rs := [9]) (by kernel_rfl) (by simp) ?_
     refine AllReadyH.cons (i := 9) (by simp only [List.getElem?_toArray, List.getElem?_cons_succ, List.getElem?_cons_zero]; rfl) (fun K hK => ?_) AllReadyH.nil
     go_simp
     (go_at_call 69; (with_reducible refine (HOF9.out _ _ _ HBz.out HT8.out).mono ?_); rintro e v9 ⟨p9, c9, rfl, hk9, hb9⟩; have HK9 : Hid (Kids v9 (inH (fun j => S j ∨ w.heap.size + 1 < j)) (.slice p9 2 c9) [x_momentum, x_nesterov]) := hk9; clear hk9; have HT2 : Hid (StrsA v9 (some ⟨G2, 0, none⟩) [⟨#[119, 101, 105, 103, 104, 116, 95, 100, 101, 99, 97, 121]⟩]) := HT2.out.below hb9; have HK3 : Hid (Kids v9 (inH (fun j => S j ∨ w.heap.size + 1 < j)) (.slice p3 1 c3) [x_weight_decay]) := HK3.out.below hb9; have HK6 : Hid (Kids v9 (inH (fun j => S j ∨ w.heap.size + 1 < j)) (.slice p6 rl.length c6) rl) := HK6.out.below hb9; have HT8 : Hid (StrsA v9 (some ⟨G8, 0, none⟩) [⟨#[109, 111, 109, 101, 110, 116, 117, 109]⟩, ⟨#[110, 101, 115, 116, 101, 114, 111, 118]⟩]) := HT8.out.below hb9; have HBz : Hid (Below wc.heap.size wc v9) := bel HBz.out hb9; clear hb9)
     try (go_wp2_with fail)
     refine hK.out _ _ ?_ (fun hHeld => ?_)
     ·((try dsimp only); first | exact HSE.out | exact fun j h1 _ => HBz.out.block j h1 | exact fun j _ _ => rfl)
     clear hK K
     try simp only [Act.put, List.setIfInBounds_toArray, List.set_cons_zero, List.set_cons_succ]
     clear hHeld
     refine wpAnyH_ready (rs := [10]) (by kernel_rfl) (by simp) ?_
     refine AllReadyH.cons (i := 10) (by simp only [List.getElem?_toArray, List.getElem?_cons_succ, List.getElem?_cons_zero]; rfl) (fun K hK => ?_) AllReadyH.nil
     go_simp
     have hk10 := kids_row (w := v9) (S := (fun j => S j ∨ w.heap.size + 1 < j)) (R := [(madeN a ⟨#[97, 100, 100, 95, 100, 101, 99, 97, 121, 101, 100, 95, 119, 101, 105, 103, 104, 116, 115]⟩ [x_weight_decay], .slice p3 1 c3), (madeN a ⟨#[115, 99, 97, 108, 101, 95, 98, 121, 95, 116, 114, 117, 115, 116, 95, 114, 97, 116, 105, 111]⟩ [(⟨2, ⟨#[]⟩, 0, 0, ⟨#[]⟩, [], a⟩ : Nd), x_trust_coefficient, x_eps], .slice (some ⟨GG, 0, none⟩) 3 3), (madeN a rnm rl, .slice p6 rl.length c6), (madeN a ⟨#[116, 114, 97, 99, 101]⟩ [x_momentum, x_nesterov], .slice p9 2 c9)]) (cs := #[.int .i64 1, .string ⟨#[97, 100, 100, 95, 100, 101, 99, 97, 121, 101, 100, 95, 119, 101, 105, 103, 104, 116, 115]⟩, .int .u32 0, .int .i64 0, .string ⟨#[]⟩, .slice p3 1 c3, .int .i64 a, .int .i64 1, .string ⟨#[115, 99, 97, 108, 101, 95, 98, 121, 95, 116, 114, 117, 115, 116, 95, 114, 97, 116, 105, 111]⟩, .int .u32 0, .int .i64 0, .string ⟨#[]⟩, .slice (some ⟨GG, 0, none⟩) 3 3, .int .i64 a, .int .i64 1, .string rnm, .int .u32 0, .int .i64 0, .string ⟨#[]⟩, .slice p6 rl.length c6, .int .i64 a, .int .i64 1, .string ⟨#[116, 114, 97, 99, 101]⟩, .int .u32 0, .int .i64 0, .string ⟨#[]⟩, .slice p9 2 c9, .int .i64 a]) rfl (List.forall_mem_cons.2 ⟨HK3.out, List.forall_mem_cons.2 ⟨(HKG0.out _ HBz.out), List.forall_mem_cons.2 ⟨HK6.out, List.forall_mem_cons.2 ⟨HK9.out, fun r h => by cases h⟩⟩⟩⟩) (.inr (by have := HBz.out.size; have := HSZ.out; omega)) (by simp)
     obtain ⟨G10, hG10⟩ : ∃ G, v9.heap.size = G := ⟨_, rfl⟩
     have hb10 : Below v9.heap.size v9 (v9.alloc (.cells #[.int .i64 1, .string ⟨#[97, 100, 100, 95, 100, 101, 99, 97, 121, 101, 100, 95, 119, 101, 105, 103, 104, 116, 115]⟩, .int .u32 0, .int .i64 0, .string ⟨#[]⟩, .slice p3 1 c3, .int .i64 a, .int .i64 1, .string ⟨#[115, 99, 97, 108, 101, 95, 98, 121, 95, 116, 114, 117, 115, 116, 95, 114, 97, 116, 105, 111]⟩, .int .u32 0, .int .i64 0, .string ⟨#[]⟩, .slice (some ⟨GG, 0, none⟩) 3 3, .int .i64 a, .int .i64 1, .string rnm, .int .u32 0, .int .i64 0, .string ⟨#[]⟩, .slice p6 rl.length c6, .int .i64 a, .int .i64 1, .string ⟨#[116, 114, 97, 99, 101]⟩, .int .u32 0, .int .i64 0, .string ⟨#[]⟩, .slice p9 2 c9, .int .i64 a] 29)) := bel_alloc _ _
     obtain ⟨v10, hv10⟩ : ∃ V, v9.alloc (.cells #[.int .i64 1, .string ⟨#[97, 100, 100, 95, 100, 101, 99, 97, 121, 101, 100, 95, 119, 101, 105, 103, 104, 116, 115]⟩, .int .u32 0, .int .i64 0, .string ⟨#[]⟩, .slice p3 1 c3, .int .i64 a, .int .i64 1, .string ⟨#[115, 99, 97, 108, 101, 95, 98, 121, 95, 116, 114, 117, 115, 116, 95, 114, 97, 116, 105, 111]⟩, .int .u32 0, .int .i64 0, .string ⟨#[]⟩, .slice (some ⟨GG, 0, none⟩) 3 3, .int .i64 a, .int .i64 1, .string rnm, .int .u32 0, .int .i64 0, .string ⟨#[]⟩, .slice p6 rl.length c6, .int .i64 a, .int .i64 1, .string ⟨#[116, 114, 97, 99, 101]⟩, .int .u32 0, .int .i64 0, .string ⟨#[]⟩, .slice p9 2 c9, .int .i64 a] 29) = V := ⟨_, rfl⟩
     rw [hG10] at hk10
     rw [hv10] at hb10
     have HK10 : Hid (Kids v10 (inH (fun j => S j ∨ w.heap.size + 1 < j)) (.slice (some ⟨G10, 0, none⟩) 4 4) [madeN a ⟨#[97, 100, 100, 95, 100, 101, 99, 97, 121, 101, 100, 95, 119, 101, 105, 103, 104, 116, 115]⟩ [x_weight_decay], madeN a ⟨#[115, 99, 97, 108, 101, 95, 98, 121, 95, 116, 114, 117, 115, 116, 95, 114, 97, 116, 105, 111]⟩ [(⟨2, ⟨#[]⟩, 0, 0, ⟨#[]⟩, [], a⟩ : Nd), x_trust_coefficient, x_eps], madeN a rnm rl, madeN a ⟨#[116, 114, 97, 99, 101]⟩ [x_momentum, x_nesterov]]) := by have := hk10; rw [hv10] at this; exact this
     have HT2 : Hid (StrsA v10 (some ⟨G2, 0, none⟩) [⟨#[119, 101, 105, 103, 104, 116, 95, 100, 101, 99, 97, 121]⟩]) := HT2.out.below hb10
     have HK3 : Hid (Kids v10 (inH (fun j => S j ∨ w.heap.size + 1 < j)) (.slice p3 1 c3) [x_weight_decay]) := HK3.out.below hb10
     have HK6 : Hid (Kids v10 (inH (fun j => S j ∨ w.heap.size + 1 < j)) (.slice p6 rl.length c6) rl) := HK6.out.below hb10
     have HT8 : Hid (StrsA v10 (some ⟨G8, 0, none⟩) [⟨#[109, 111, 109, 101, 110, 116, 117, 109]⟩, ⟨#[110, 101, 115, 116, 101, 114, 111, 118]⟩]) := HT8.out.below hb10
     have HK9 : Hid (Kids v10 (inH (fun j => S j ∨ w.heap.size + 1 < j)) (.slice p9 2 c9) [x_momentum, x_nesterov]) := HK9.out.below hb10
     have HBz : Hid (Below wc.heap.size wc v10) := bel HBz.out hb10
     rw [hv10, hG10]
     clear hk10 hv10 hG10 hb10
     refine hK.out _ _ ?_ (fun hHeld => ?_)
     ·((try dsimp only); first | exact HSE.out | exact fun j h1 _ => HBz.out.block j h1 | exact fun j _ _ => rfl)
     clear hK K
     try simp only [Act.put, List.setIfInBounds_toArray, List.set_cons_zero, List.set_cons_succ]
     clear hHeld
     refine wpAnyH_ready (rs := [11]) (by kernel_rfl) (by simp) ?_
     refine AllReadyH.cons (i := 11) (by simp only [List.getElem?_toArray, List.getElem?_cons_succ, List.getElem?_cons_zero]; rfl) (fun K hK => ?_) AllReadyH.nil
     go_simp
     (go_at_call 68; (with_reducible refine (HCA11.out _ _ _ _).mono ?_); rintro e v11 ⟨rfl, hb11⟩; have HT2 : Hid (StrsA v11 (some ⟨G2, 0, none⟩) [⟨#[119, 101, 105, 103, 104, 116, 95, 100, 101, 99, 97, 121]⟩]) := HT2.out.below hb11; have HK3 : Hid (Kids v11 (inH (fun j => S j ∨ w.heap.size + 1 < j)) (.slice p3 1 c3) [x_weight_decay]) := HK3.out.below hb11; have HK6 : Hid (Kids v11 (inH (fun j => S j ∨ w.heap.size + 1 < j)) (.slice p6 rl.length c6) rl) := HK6.out.below hb11; have HT8 : Hid (StrsA v11 (some ⟨G8, 0, none⟩) [⟨#[109, 111, 109, 101, 110, 116, 117, 109]⟩, ⟨#[110, 101, 115, 116, 101, 114, 111, 118]⟩]) := HT8.out.below hb11; have HK9 : Hid (Kids v11 (inH (fun j => S j ∨ w.heap.size + 1 < j)) (.slice p9 2 c9) [x_momentum, x_nesterov]) := HK9.out.below hb11; have HK10 : Hid (Kids v11 (inH (fun j => S j ∨ w.heap.size + 1 < j)) (.slice (some ⟨G10, 0, none⟩) 4 4) [madeN a ⟨#[97, 100, 100, 95, 100, 101, 99, 97, 121, 101, 100, 95, 119, 101, 105, 103, 104, 116, 115]⟩ [x_weight_decay], madeN a ⟨#[115, 99, 97, 108, 101, 95, 98, 121, 95, 116, 114, 117, 115, 116, 95, 114, 97, 116, 105, 111]⟩ [(⟨2, ⟨#[]⟩, 0, 0, ⟨#[]⟩, [], a⟩ : Nd), x_trust_coefficient, x_eps], madeN a rnm rl, madeN a ⟨#[116, 114, 97, 99, 101]⟩ [x_momentum, x_nesterov]]) := HK10.out.below hb11; have HBz : Hid (Below wc.heap.size wc v11) := bel HBz.out hb11; clear hb11)
     try (go_wp2_with fail)
     refine hK.out _ _ ?_ (fun hHeld => ?_)
     ·((try dsimp only); first | exact HSE.out | exact fun j h1 _ => HBz.out.block j h1 | exact fun j _ _ => rfl)
     clear hK K
     try simp only [Act.put, List.setIfInBounds_toArray, List.set_cons_zero, List.set_cons_succ]
     clear hHeld
     refine wpAnyH_ready (rs := [12]) (by kernel_rfl) (by simp) ?_
     refine AllReadyH.cons (i := 12) (by simp only [List.getElem?_toArray, List.getElem?_cons_succ, List.getElem?_cons_zero]; rfl) (fun K hK => ?_) AllReadyH.nil
     obtain ⟨⟨s0, s1, s2, s3, s4, s5, s6⟩, r0, r1, r2, r3, r4, r5, r6⟩ := sevenA (HTW.out.below HBz.out).2.2
     go_simp
     have hoff := offS_seven v11 (w.heap.size + 1) (.int .i64 1) (.string ⟨#[99, 104, 97, 105, 110]⟩) (.int .u32 0) (.int .i64 0) (.string ⟨#[]⟩) (.slice (some ⟨G10, 0, none⟩) 4 4) (.int .i64 a)
     have hosz := size_sevenS v11 (w.heap.size + 1) (.int .i64 1) (.string ⟨#[99, 104, 97, 105, 110]⟩) (.int .u32 0) (.int .i64 0) (.string ⟨#[]⟩) (.slice (some ⟨G10, 0, none⟩) 4 4) (.int .i64 a)
     have hdone := (HTW.out.below HBz.out).done (.int .i64 1) (.string ⟨#[99, 104, 97, 105, 110]⟩) (.int .u32 0) (.int .i64 0) (.string ⟨#[]⟩) (.slice (some ⟨G10, 0, none⟩) 4 4) (.int .i64 a)
     have hsv := put_sevenA (HTW.out.below HBz.out).2.2 (.int .i64 1) (.string ⟨#[99, 104, 97, 105, 110]⟩) (.int .u32 0) (.int .i64 0) (.string ⟨#[]⟩) (.slice (some ⟨G10, 0, none⟩) 4 4) (.int .i64 a)
     have HSzz : Hid (∀ j, j < wc.heap.size → j ≠ w.heap.size + 1 → ((((((((v11.setCell ⟨w.heap.size + 1, 0, none⟩ (.int .i64 1)).setCell ⟨w.heap.size + 1, 1, none⟩ (.string ⟨#[99, 104, 97, 105, 110]⟩)).setCell ⟨w.heap.size + 1, 2, none⟩ (.int .u32 0)).setCell ⟨w.heap.size + 1, 3, none⟩ (.int .i64 0)).setCell ⟨w.heap.size + 1, 4, none⟩ (.string ⟨#[]⟩)).setCell ⟨w.heap.size + 1, 5, none⟩ (.slice (some ⟨G10, 0, none⟩) 4 4)).setCell ⟨w.heap.size + 1, 6, none⟩ (.int .i64 a))).heap[j]? = wc.heap[j]?) := fun j h1 h2 => (hoff.sameSize hosz (by exact h2)).trans (HBz.out.block j h1)
     obtain ⟨vE, hvE⟩ : ∃ V, (((((((v11.setCell ⟨w.heap.size + 1, 0, none⟩ (.int .i64 1)).setCell ⟨w.heap.size + 1, 1, none⟩ (.string ⟨#[99, 104, 97, 105, 110]⟩)).setCell ⟨w.heap.size + 1, 2, none⟩ (.int .u32 0)).setCell ⟨w.heap.size + 1, 3, none⟩ (.int .i64 0)).setCell ⟨w.heap.size + 1, 4, none⟩ (.string ⟨#[]⟩)).setCell ⟨w.heap.size + 1, 5, none⟩ (.slice (some ⟨G10, 0, none⟩) 4 4)).setCell ⟨w.heap.size + 1, 6, none⟩ (.int .i64 a)) = V := ⟨_, rfl⟩
     rw [hvE] at hdone hsv HSzz
     try rw [hvE]
     have HSE := HSzz
     have HEND : Hid (Below w.heap.size w vE ∧ Kids vE (inH (fun j => S j ∨ w.heap.size + 1 < j)) (.slice (some ⟨G10, 0, none⟩) 4 4) [madeN a ⟨#[97, 100, 100, 95, 100, 101, 99, 97, 121, 101, 100, 95, 119, 101, 105, 103, 104, 116, 115]⟩ [x_weight_decay], madeN a ⟨#[115, 99, 97, 108, 101, 95, 98, 121, 95, 116, 114, 117, 115, 116, 95, 114, 97, 116, 105, 111]⟩ [(⟨2, ⟨#[]⟩, 0, 0, ⟨#[]⟩, [], a⟩ : Nd), x_trust_coefficient, x_eps], madeN a rnm rl, madeN a ⟨#[116, 114, 97, 99, 101]⟩ [x_momentum, x_nesterov]] ∧ vE.heap[w.heap.size + 1]? = some (.cells #[.int .i64 1, .string ⟨#[99, 104, 97, 105, 110]⟩, .int .u32 0, .int .i64 0, .string ⟨#[]⟩, .slice (some ⟨G10, 0, none⟩) 4 4, .int .i64 a] 29)) := ⟨hdone.1, hdone.2 _ _ _ (fun j h => by rcases h with h | h; (have := (HSB.out j (.inr h)).2; omega); omega) HK10.out, hsv⟩
     clear hoff hosz hdone hsv hvE s0 s1 s2 s3 s4 s5 s6 r0 r1 r2 r3 r4 r5 r6
     refine hK.out _ _ ?_ (fun hHeld => ?_)
     ·((try dsimp only); first | exact HSE.out | exact fun j h1 _ => HBz.out.block j h1 | exact fun j _ _ => rfl)
     clear hK K
     try simp only [Act.put, List.setIfInBounds_toArray, List.set_cons_zero, List.set_cons_succ]
     refine wpAnyH_done (by kernel_rfl) ?_ _
     go_wp2
     obtain ⟨⟨s0, s1, s2, s3, s4, s5, s6⟩, r0, r1, r2, r3, r4, r5, r6⟩ := sevenA HEND.out.2.2
     refine bodyPost_ret (by simp [results, Tryz.results78, go_sem, s0, s1, s2, s3, s4, s5, s6]; try rfl) rfl ?_
     exact ⟨_, _, rfl, HEND.out.2.1, HEND.out.1⟩
    refine AllReadyH.cons (i := 8) (by simp only [List.getElem?_toArray, List.getElem?_cons_succ, List.getElem?_cons_zero]; rfl) (fun K hK => ?_) AllReadyH.nil
    go_simp
    obtain ⟨G8, hG8⟩ : ∃ G, v3.heap.size = G := ⟨_, rfl⟩
    obtain ⟨v8, hv8⟩ : ∃ V, v3.alloc (.cells #[.string ⟨#[109, 111, 109, 101, 110, 116, 117, 109]⟩, .string ⟨#[110, 101, 115, 116, 101, 114, 111, 118]⟩] 9) = V := ⟨_, rfl⟩
    have hb8 : Below v3.heap.size v3 v8 := by rw [← hv8]; exact bel_alloc _ _
    have HT8 : Hid (StrsA v8 (some ⟨G8, 0, none⟩) [⟨#[109, 111, 109, 101, 110, 116, 117, 109]⟩, ⟨#[110, 101, 115, 116, 101, 114, 111, 118]⟩]) := strs_mk (by rw [← hv8, ← hG8]; exact box_heapA v3 _)
    have HT2 : Hid (StrsA v8 (some ⟨G2, 0, none⟩) [⟨#[119, 101, 105, 103, 104, 116, 95, 100, 101, 99, 97, 121]⟩]) := HT2.out.below hb8
    have HK3 : Hid (Kids v8 (inH (fun j => S j ∨ w.heap.size + 1 < j)) (.slice p3 1 c3) [x_weight_decay]) := HK3.out.below hb8
    have HBz : Hid (Below wc.heap.size wc v8) := bel HBz.out hb8
    rw [hv8, hG8]
    clear hv8 hG8 hb8
    refine hK.out _ _ ?_ (fun hHeld => ?_)
    ·((try dsimp only); first | exact HSE.out | exact fun j h1 _ => HBz.out.block j h1 | exact fun j _ _ => rfl)
    clear hK K
    try simp only [Act.put, List.setIfInBounds_toArray, List.set_cons_zero, List.set_cons_succ]
    clear hHeld
    refine wpAnyH_ready (rs := [6]) (by kernel_rfl) (by simp) ?_
    refine AllReadyH.cons (i := 6) (by simp only [List.getElem?_toArray, List.getElem?_cons_succ, List.getElem?_cons_zero]; rfl) (fun K hK => ?_) AllReadyH.nil
    go_simp
    (go_at_call 65; (with_reducible refine (HRT.out _ HBz.out).mono ?_); rintro e v6 ⟨p6, c6, rfl, hk6, hb6⟩; have HK6 : Hid (Kids v6 (inH (fun j => S j ∨ w.heap.size + 1 < j)) (.slice p6 rl.length c6) rl) := hk6; clear hk6; have HT2 : Hid (StrsA v6 (some ⟨G2, 0, none⟩) [⟨#[119, 101, 105, 103, 104, 116, 95, 100, 101, 99, 97, 121]⟩]) := HT2.out.below hb6; have HK3 : Hid (Kids v6 (inH (fun j => S j ∨ w.heap.size + 1 < j)) (.slice p3 1 c3) [x_weight_decay]) := HK3.out.below hb6; have HT8 : Hid (StrsA v6 (some ⟨G8, 0, none⟩) [⟨#[109, 111, 109, 101, 110, 116, 117, 109]⟩, ⟨#[110, 101, 115, 116, 101, 114, 111, 118]⟩]) := HT8.out.below hb6; have HBz : Hid (Below wc.heap.size wc v6) := bel HBz.out hb6; clear hb6)
    try (go_wp2_with fail)
    refine hK.out _ _ ?_ (fun hHeld => ?_)
    ·((try dsimp only); first | exact HSE.out | exact fun j h1 _ => HBz.out.block j h1 | exact fun j _ _ => rfl)
    clear hK K
    try simp only [Act.put, List.setIfInBounds_toArray, List.set_cons_zero, List.set_cons_succ]
    clear hHeld
    refine wpAnyH_ready (rs := [9]) (by kernel_rfl) (by simp) ?_
    refine AllReadyH.cons (i := 9) (by simp only [List.getElem?_toArray, List.getElem?_cons_succ, List.getElem?_cons_zero]; rfl) (fun K hK => ?_) AllReadyH.nil
    go_simp
    (go_at_call 69; (with_reducible refine (HOF9.out _ _ _ HBz.out HT8.out).mono ?_); rintro e v9 ⟨p9, c9, rfl, hk9, hb9⟩; have HK9 : Hid (Kids v9 (inH (fun j => S j ∨ w.heap.size + 1 < j)) (.slice p9 2 c9) [x_momentum, x_nesterov]) := hk9; clear hk9; have HT2 : Hid (StrsA v9 (some ⟨G2, 0, none⟩) [⟨#[119, 101, 105, 103, 104, 116, 95, 100, 101, 99, 97, 121]⟩]) := HT2.out.below hb9; have HK3 : Hid (Kids v9 (inH (fun j => S j ∨ w.heap.size + 1 < j)) (.slice p3 1 c3) [x_weight_decay]) := HK3.out.below hb9; have HT8 : Hid (StrsA v9 (some ⟨G8, 0, none⟩) [⟨#[109, 111, 109, 101, 110, 116, 117, 109]⟩, ⟨#[110, 101, 115, 116, 101, 114, 111, 118]⟩]) := HT8.out.below hb9; have HK6 : Hid (Kids v9 (inH (fun j => S j ∨ w.heap.size + 1 < j)) (.slice p6 rl.length c6) rl) := HK6.out.below hb9; have HBz : Hid (Below wc.heap.size wc v9) := bel HBz.out hb9; clear hb9)
    try (go_wp2_with fail)
    refine hK.out _ _ ?_ (fun hHeld => ?_)
    ·((try dsimp only); first | exact HSE.out | exact fun j h1 _ => HBz.out.block j h1 | exact fun j _ _ => rfl)
    clear hK K
    try simp only [Act.put, List.setIfInBounds_toArray, List.set_cons_zero, List.set_cons_succ]
    clear hHeld
    refine wpAnyH_ready (rs := [10]) (by kernel_rfl) (by simp) ?_
    refine AllReadyH.cons (i := 10) (by simp only [List.getElem?_toArray, List.getElem?_cons_succ, List.getElem?_cons_zero]; rfl) (fun K hK => ?_) AllReadyH.nil
    go_simp
    have hk10 := kids_row (w := v9) (S := (fun j => S j ∨ w.heap.size + 1 < j)) (R := [(madeN a ⟨#[97, 100, 100, 95, 100, 101, 99, 97, 121, 101, 100, 95, 119, 101, 105, 103, 104, 116, 115]⟩ [x_weight_decay], .slice p3 1 c3), (madeN a ⟨#[115, 99, 97, 108, 101, 95, 98, 121, 95, 116, 114, 117, 115, 116, 95, 114, 97, 116, 105, 111]⟩ [(⟨2, ⟨#[]⟩, 0, 0, ⟨#[]⟩, [], a⟩ : Nd), x_trust_coefficient, x_eps], .slice (some ⟨GG, 0, none⟩) 3 3), (madeN a rnm rl, .slice p6 rl.length c6), (madeN a ⟨#[116, 114, 97, 99, 101]⟩ [x_momentum, x_nesterov], .slice p9 2 c9)]) (cs := #[.int .i64 1, .string ⟨#[97, 100, 100, 95, 100, 101, 99, 97, 121, 101, 100, 95, 119, 101, 105, 103, 104, 116, 115]⟩, .int .u32 0, .int .i64 0, .string ⟨#[]⟩, .slice p3 1 c3, .int .i64 a, .int .i64 1, .string ⟨#[115, 99, 97, 108, 101, 95, 98, 121, 95, 116, 114, 117, 115, 116, 95, 114, 97, 116, 105, 111]⟩, .int .u32 0, .int .i64 0, .string ⟨#[]⟩, .slice (some ⟨GG, 0, none⟩) 3 3, .int .i64 a, .int .i64 1, .string rnm, .int .u32 0, .int .i64 0, .string ⟨#[]⟩, .slice p6 rl.length c6, .int .i64 a, .int .i64 1, .string ⟨#[116, 114, 97, 99, 101]⟩, .int .u32 0, .int .i64 0, .string ⟨#[]⟩, .slice p9 2 c9, .int .i64 a]) rfl (List.forall_mem_cons.2 ⟨HK3.out, List.forall_mem_cons.2 ⟨(HKG0.out _ HBz.out), List.forall_mem_cons.2 ⟨HK6.out, List.forall_mem_cons.2 ⟨HK9.out, fun r h => by cases h⟩⟩⟩⟩) (.inr (by have := HBz.out.size; have := HSZ.out; omega)) (by simp)
    obtain ⟨G10, hG10⟩ : ∃ G, v9.heap.size = G := ⟨_, rfl⟩
    have hb10 : Below v9.heap.size v9 (v9.alloc (.cells #[.int .i64 1, .string ⟨#[97, 100, 100, 95, 100, 101, 99, 97, 121, 101, 100, 95, 119, 101, 105, 103, 104, 116, 115]⟩, .int .u32 0, .int .i64 0, .string ⟨#[]⟩, .slice p3 1 c3, .int .i64 a, .int .i64 1, .string ⟨#[115, 99, 97, 108, 101, 95, 98, 121, 95, 116, 114, 117, 115, 116, 95, 114, 97, 116, 105, 111]⟩, .int .u32 0, .int .i64 0, .string ⟨#[]⟩, .slice (some ⟨GG, 0, none⟩) 3 3, .int .i64 a, .int .i64 1, .string rnm, .int .u32 0, .int .i64 0, .string ⟨#[]⟩, .slice p6 rl.length c6, .int .i64 a, .int .i64 1, .string ⟨#[116, 114, 97, 99, 101]⟩, .int .u32 0, .int .i64 0, .string ⟨#[]⟩, .slice p9 2 c9, .int .i64 a] 29)) := bel_alloc _ _
    obtain ⟨v10, hv10⟩ : ∃ V, v9.alloc (.cells #[.int .i64 1, .string ⟨#[97, 100, 100, 95, 100, 101, 99, 97, 121, 101, 100, 95, 119, 101, 105, 103, 104, 116, 115]⟩, .int .u32 0, .int .i64 0, .string ⟨#[]⟩, .slice p3 1 c3, .int .i64 a, .int .i64 1, .string ⟨#[115, 99, 97, 108, 101, 95, 98, 121, 95, 116, 114, 117, 115, 116, 95, 114, 97, 116, 105, 111]⟩, .int .u32 0, .int .i64 0, .string ⟨#[]⟩, .slice (some ⟨GG, 0, none⟩) 3 3, .int .i64 a, .int .i64 1, .string rnm, .int .u32 0, .int .i64 0, .string ⟨#[]⟩, .slice p6 rl.length c6, .int .i64 a, .int .i64 1, .string ⟨#[116, 114, 97, 99, 101]⟩, .int .u32 0, .int .i64 0, .string ⟨#[]⟩, .slice p9 2 c9, .int .i64 a] 29) = V := ⟨_, rfl⟩
    rw [hG10] at hk10
    rw [hv10] at hb10
    have HK10 : Hid (Kids v10 (inH (fun j => S j ∨ w.heap.size + 1 < j)) (.slice (some ⟨G10, 0, none⟩) 4 4) [madeN a ⟨#[97, 100, 100, 95, 100, 101, 99, 97, 121, 101, 100, 95, 119, 101, 105, 103, 104, 116, 115]⟩ [x_weight_decay], madeN a ⟨#[115, 99, 97, 108, 101, 95, 98, 121, 95, 116, 114, 117, 115, 116, 95, 114, 97, 116, 105, 111]⟩ [(⟨2, ⟨#[]⟩, 0, 0, ⟨#[]⟩, [], a⟩ : Nd), x_trust_coefficient, x_eps], madeN a rnm rl, madeN a ⟨#[116, 114, 97, 99, 101]⟩ [x_momentum, x_nesterov]]) := by have := hk10; rw [hv10] at this; exact this
    have HT2 : Hid (StrsA v10 (some ⟨G2, 0, none⟩) [⟨#[119, 101, 105, 103, 104, 116, 95, 100, 101, 99, 97, 121]⟩]) := HT2.out.below hb10
    have HK3 : Hid (Kids v10 (inH (fun j => S j ∨ w.heap.size + 1 < j)) (.slice p3 1 c3) [x_weight_decay]) := HK3.out.below hb10
    have HT8 : Hid (StrsA v10 (some ⟨G8, 0, none⟩) [⟨#[109, 111, 109, 101, 110, 116, 117, 109]⟩, ⟨#[110, 101, 115, 116, 101, 114, 111, 118]⟩]) := HT8.out.below hb10
    have HK6 : Hid (Kids v10 (inH (fun j => S j ∨ w.heap.size + 1 < j)) (.slice p6 rl.length c6) rl) := HK6.out.below hb10
    have HK9 : Hid (Kids v10 (inH (fun j => S j ∨ w.heap.size + 1 < j)) (.slice p9 2 c9) [x_momentum, x_nesterov]) := HK9.out.below hb10
    have HBz : Hid (Below wc.heap.size wc v10) := bel HBz.out hb10
    rw [hv10, hG10]
    clear hk10 hv10 hG10 hb10
    refine hK.out _ _ ?_ (fun hHeld => ?_)
    ·((try dsimp only); first | exact HSE.out | exact fun j h1 _ => HBz.out.block j h1 | exact fun j _ _ => rfl)
    clear hK K
    try simp only [Act.put, List.setIfInBounds_toArray, List.set_cons_zero, List.set_cons_succ]
    clear hHeld
    refine wpAnyH_ready (rs := [11]) (by kernel_rfl) (by simp) ?_
    refine AllReadyH.cons (i := 11) (by simp only [List.getElem?_toArray, List.getElem?_cons_succ, List.getElem?_cons_zero]; rfl) (fun K hK => ?_) AllReadyH.nil
    go_simp
    (go_at_call 68; (with_reducible refine (HCA11.out _ _ _ _).mono ?_); rintro e v11 ⟨rfl, hb11⟩; have HT2 : Hid (StrsA v11 (some ⟨G2, 0, none⟩) [⟨#[119, 101, 105, 103, 104, 116, 95, 100, 101, 99, 97, 121]⟩]) := HT2.out.below hb11; have HK3 : Hid (Kids v11 (inH (fun j => S j ∨ w.heap.size + 1 < j)) (.slice p3 1 c3) [x_weight_decay]) := HK3.out.below hb11; have HT8 : Hid (StrsA v11 (some ⟨G8, 0, none⟩) [⟨#[109, 111, 109, 101, 110, 116, 117, 109]⟩, ⟨#[110, 101, 115, 116, 101, 114, 111, 118]⟩]) := HT8.out.below hb11; have HK6 : Hid (Kids v11 (inH (fun j => S j ∨ w.heap.size + 1 < j)) (.slice p6 rl.length c6) rl) := HK6.out.below hb11; have HK9 : Hid (Kids v11 (inH (fun j => S j ∨ w.heap.size + 1 < j)) (.slice p9 2 c9) [x_momentum, x_nesterov]) := HK9.out.below hb11; have HK10 : Hid (Kids v11 (inH (fun j => S j ∨ w.heap.size + 1 < j)) (.slice (some ⟨G10, 0, none⟩) 4 4) [madeN a ⟨#[97, 100, 100, 95, 100, 101, 99, 97, 121, 101, 100, 95, 119, 101, 105, 103, 104, 116, 115]⟩ [x_weight_decay], madeN a ⟨#[115, 99, 97, 108, 101, 95, 98, 121, 95, 116, 114, 117, 115, 116, 95, 114, 97, 116, 105, 111]⟩ [(⟨2, ⟨#[]⟩, 0, 0, ⟨#[]⟩, [], a⟩ : Nd), x_trust_coefficient, x_eps], madeN a rnm rl, madeN a ⟨#[116, 114, 97, 99, 101]⟩ [x_momentum, x_nesterov]]) := HK10.out.below hb11; have HBz : Hid (Below wc.heap.size wc v11) := bel HBz.out hb11; clear hb11)
    try (go_wp2_with fail)
    refine hK.out _ _ ?_ (fun hHeld => ?_)
    ·((try dsimp only); first | exact HSE.out | exact fun j h1 _ => HBz.out.block j h1 | exact fun j _ _ => rfl)
    clear hK K
    try simp only [Act.put, List.setIfInBounds_toArray, List.set_cons_zero, List.set_cons_succ]
    clear hHeld
    refine wpAnyH_ready (rs := [12]) (by kernel_rfl) (by simp) ?_
    refine AllReadyH.cons (i := 12) (by simp only [List.getElem?_toArray, List.getElem?_cons_succ, List.getElem?_cons_zero]; rfl) (fun K hK => ?_) AllReadyH.nil
    obtain ⟨⟨s0, s1, s2, s3, s4, s5, s6⟩, r0, r1, r2, r3, r4, r5, r6⟩ := sevenA (HTW.out.below HBz.out).2.2
    go_simp
    have hoff := offS_seven v11 (w.heap.size + 1) (.int .i64 1) (.string ⟨#[99, 104, 97, 105, 110]⟩) (.int .u32 0) (.int .i64 0) (.string ⟨#[]⟩) (.slice (some ⟨G10, 0, none⟩) 4 4) (.int .i64 a)
    have hosz := size_sevenS v11 (w.heap.size + 1) (.int .i64 1) (.string ⟨#[99, 104, 97, 105, 110]⟩) (.int .u32 0) (.int .i64 0) (.string ⟨#[]⟩) (.slice (some ⟨G10, 0, none⟩) 4 4) (.int .i64 a)
    have hdone := (HTW.out.below HBz.out).done (.int .i64 1) (.string ⟨#[99, 104, 97, 105, 110]⟩) (.int .u32 0) (.int .i64 0) (.string ⟨#[]⟩) (.slice (some ⟨G10, 0, none⟩) 4 4) (.int .i64 a)
    have hsv := put_sevenA (HTW.out.below HBz.out).2.2 (.int .i64 1) (.string ⟨#[99, 104, 97, 105, 110]⟩) (.int .u32 0) (.int .i64 0) (.string ⟨#[]⟩) (.slice (some ⟨G10, 0, none⟩) 4 4) (.int .i64 a)
    have HSzz : Hid (∀ j, j < wc.heap.size → j ≠ w.heap.size + 1 → ((((((((v11.setCell ⟨w.heap.size + 1, 0, none⟩ (.int .i64 1)).setCell ⟨w.heap.size + 1, 1, none⟩ (.string ⟨#[99, 104, 97, 105, 110]⟩)).setCell ⟨w.heap.size + 1, 2, none⟩ (.int .u32 0)).setCell ⟨w.heap.size + 1, 3, none⟩ (.int .i64 0)).setCell ⟨w.heap.size + 1, 4, none⟩ (.string ⟨#[]⟩)).setCell ⟨w.heap.size + 1, 5, none⟩ (.slice (some ⟨G10, 0, none⟩) 4 4)).setCell ⟨w.heap.size + 1, 6, none⟩ (.int .i64 a))).heap[j]? = wc.heap[j]?) := fun j h1 h2 => (hoff.sameSize hosz (by exact h2)).trans (HBz.out.block j h1)
    obtain ⟨vE, hvE⟩ : ∃ V, (((((((v11.setCell ⟨w.heap.size + 1, 0, none⟩ (.int .i64 1)).setCell ⟨w.heap.size + 1, 1, none⟩ (.string ⟨#[99, 104, 97, 105, 110]⟩)).setCell ⟨w.heap.size + 1, 2, none⟩ (.int .u32 0)).setCell ⟨w.heap.size + 1, 3, none⟩ (.int .i64 0)).setCell ⟨w.heap.size + 1, 4, none⟩ (.string ⟨#[]⟩)).setCell ⟨w.heap.size + 1, 5, none⟩ (.slice (some ⟨G10, 0, none⟩) 4 4)).setCell ⟨w.heap.size + 1, 6, none⟩ (.int .i64 a)) = V := ⟨_, rfl⟩
    rw [hvE] at hdone hsv HSzz
    try rw [hvE]
    have HSE := HSzz
    have HEND : Hid (Below w.heap.size w vE ∧ Kids vE (inH (fun j => S j ∨ w.heap.size + 1 < j)) (.slice (some ⟨G10, 0, none⟩) 4 4) [madeN a ⟨#[97, 100, 100, 95, 100, 101, 99, 97, 121, 101, 100, 95, 119, 101, 105, 103, 104, 116, 115]⟩ [x_weight_decay], madeN a ⟨#[115, 99, 97, 108, 101, 95, 98, 121, 95, 116, 114, 117, 115, 116, 95, 114, 97, 116, 105, 111]⟩ [(⟨2, ⟨#[]⟩, 0, 0, ⟨#[]⟩, [], a⟩ : Nd), x_trust_coefficient, x_eps], madeN a rnm rl, madeN a ⟨#[116, 114, 97, 99, 101]⟩ [x_momentum, x_nesterov]] ∧ vE.heap[w.heap.size + 1]? = some (.cells #[.int .i64 1, .string ⟨#[99, 104, 97, 105, 110]⟩, .int .u32 0, .int .i64 0, .string ⟨#[]⟩, .slice (some ⟨G10, 0, none⟩) 4 4, .int .i64 a] 29)) := ⟨hdone.1, hdone.2 _ _ _ (fun j h => by rcases h with h | h; (have := (HSB.out j (.inr h)).2; omega); omega) HK10.out, hsv⟩
    clear hoff hosz hdone hsv hvE s0 s1 s2 s3 s4 s5 s6 r0 r1 r2 r3 r4 r5 r6
    refine hK.out _ _ ?_ (fun hHeld => ?_)
    ·((try dsimp only); first | exact HSE.out | exact fun j h1 _ => HBz.out.block j h1 | exact fun j _ _ => rfl)
    clear hK K
    try simp only [Act.put, List.setIfInBounds_toArray, List.set_cons_zero, List.set_cons_succ]
    refine wpAnyH_done (by kernel_rfl) ?_ _
    go_wp2
    obtain ⟨⟨s0, s1, s2, s3, s4, s5, s6⟩, r0, r1, r2, r3, r4, r5, r6⟩ := sevenA HEND.out.2.2
    refine bodyPost_ret (by simp [results, Tryz.results78, go_sem, s0, s1, s2, s3, s4, s5, s6]; try rfl) rfl ?_
    exact ⟨_, _, rfl, HEND.out.2.1, HEND.out.1⟩
   refine AllReadyH.cons (i := 8) (by simp only [List.getElem?_toArray, List.getElem?_cons_succ, List.getElem?_cons_zero]; rfl) (fun K hK => ?_) AllReadyH.nil
   go_simp
   obtain ⟨G8, hG8⟩ : ∃ G, v2.heap.size = G := ⟨_, rfl⟩
   obtain ⟨v8, hv8⟩ : ∃ V, v2.alloc (.cells #[.string ⟨#[109, 111, 109, 101, 110, 116, 117, 109]⟩, .string ⟨#[110, 101, 115, 116, 101, 114, 111, 118]⟩] 9) = V := ⟨_, rfl⟩
   have hb8 : Below v2.heap.size v2 v8 := by rw [← hv8]; exact bel_alloc _ _
   have HT8 : Hid (StrsA v8 (some ⟨G8, 0, none⟩) [⟨#[109, 111, 109, 101, 110, 116, 117, 109]⟩, ⟨#[110, 101, 115, 116, 101, 114, 111, 118]⟩]) := strs_mk (by rw [← hv8, ← hG8]; exact box_heapA v2 _)
   have HT2 : Hid (StrsA v8 (some ⟨G2, 0, none⟩) [⟨#[119, 101, 105, 103, 104, 116, 95, 100, 101, 99, 97, 121]⟩]) := HT2.out.below hb8
   have HBz : Hid (Below wc.heap.size wc v8) := bel HBz.out hb8
   rw [hv8, hG8]
   clear hv8 hG8 hb8
   refine hK.out _ _ ?_ (fun hHeld => ?_)
   ·((try dsimp only); first | exact HSE.out | exact fun j h1 _ => HBz.out.block j h1 | exact fun j _ _ => rfl)
   clear hK K
   try simp only [Act.put, List.setIfInBounds_toArray, List.set_cons_zero, List.set_cons_succ]
   clear hHeld
   refine wpAnyH_ready (rs := [3]) (by kernel_rfl) (by simp) ?_
   refine AllReadyH.cons (i := 3) (by simp only [List.getElem?_toArray, List.getElem?_cons_succ, List.getElem?_cons_zero]; rfl) (fun K hK => ?_) AllReadyH.nil
   go_simp
   (go_at_call 69; (with_reducible refine (HOF3.out _ _ _ HBz.out HT2.out).mono ?_); rintro e v3 ⟨p3, c3, rfl, hk3, hb3⟩; have HK3 : Hid (Kids v3 (inH (fun j => S j ∨ w.heap.size + 1 < j)) (.slice p3 1 c3) [x_weight_decay]) := hk3; clear hk3; have HT2 : Hid (StrsA v3 (some ⟨G2, 0, none⟩) [⟨#[119, 101, 105, 103, 104, 116, 95, 100, 101, 99, 97, 121]⟩]) := HT2.out.below hb3; have HT8 : Hid (StrsA v3 (some ⟨G8, 0, none⟩) [⟨#[109, 111, 109, 101, 110, 116, 117, 109]⟩, ⟨#[110, 101, 115, 116, 101, 114, 111, 118]⟩]) := HT8.out.below hb3; have HBz : Hid (Below wc.heap.size wc v3) := bel HBz.out hb3; clear hb3)
   try (go_wp2_with fail)
   refine hK.out _ _ ?_ (fun hHeld => ?_)
   ·((try dsimp only); first | exact HSE.out | exact fun j h1 _ => HBz.out.block j h1 | exact fun j _ _ => rfl)
   clear hK K
   try simp only [Act.put, List.setIfInBounds_toArray, List.set_cons_zero, List.set_cons_succ]
   clear hHeld
   refine wpAnyH_ready (rs := [6]) (by kernel_rfl) (by simp) ?_
   refine AllReadyH.cons (i := 6) (by simp only [List.getElem?_toArray, List.getElem?_cons_succ, List.getElem?_cons_zero]; rfl) (fun K hK => ?_) AllReadyH.nil
   go_simp
   (go_at_call 65; (with_reducible refine (HRT.out _ HBz.out).mono ?_); rintro e v6 ⟨p6, c6, rfl, hk6, hb6⟩; have HK6 : Hid (Kids v6 (inH (fun j => S j ∨ w.heap.size + 1 < j)) (.slice p6 rl.length c6) rl) := hk6; clear hk6; have HT2 : Hid (StrsA v6 (some ⟨G2, 0, none⟩) [⟨#[119, 101, 105, 103, 104, 116, 95, 100, 101, 99, 97, 121]⟩]) := HT2.out.below hb6; have HT8 : Hid (StrsA v6 (some ⟨G8, 0, none⟩) [⟨#[109, 111, 109, 101, 110, 116, 117, 109]⟩, ⟨#[110, 101, 115, 116, 101, 114, 111, 118]⟩]) := HT8.out.below hb6; have HK3 : Hid (Kids v6 (inH (fun j => S j ∨ w.heap.size + 1 < j)) (.slice p3 1 c3) [x_weight_decay]) := HK3.out.below hb6; have HBz : Hid (Below wc.heap.size wc v6) := bel HBz.out hb6; clear hb6)
   try (go_wp2_with fail)
   refine hK.out _ _ ?_ (fun hHeld => ?_)
   ·((try dsimp only); first | exact HSE.out | exact fun j h1 _ => HBz.out.block j h1 | exact fun j _ _ => rfl)
   clear hK K
   try simp only [Act.put, List.setIfInBounds_toArray, List.set_cons_zero, List.set_cons_succ]
   clear hHeld
   refine wpAnyH_ready (rs := [9]) (by kernel_rfl) (by simp) ?_
   refine AllReadyH.cons (i := 9) (by simp only [List.getElem?_toArray, List.getElem?_cons_succ, List.getElem?_cons_zero]; rfl) (fun K hK => ?_) AllReadyH.nil
   go_simp
   (go_at_call 69; (with_reducible refine (HOF9.out _ _ _ HBz.out HT8.out).mono ?_); rintro e v9 ⟨p9, c9, rfl, hk9, hb9⟩; have HK9 : Hid (Kids v9 (inH (fun j => S j ∨ w.heap.size + 1 < j)) (.slice p9 2 c9) [x_momentum, x_nesterov]) := hk9; clear hk9; have HT2 : Hid (StrsA v9 (some ⟨G2, 0, none⟩) [⟨#[119, 101, 105, 103, 104, 116, 95, 100, 101, 99, 97, 121]⟩]) := HT2.out.below hb9; have HT8 : Hid (StrsA v9 (some ⟨G8, 0, none⟩) [⟨#[109, 111, 109, 101, 110, 116, 117, 109]⟩, ⟨#[110, 101, 115, 116, 101, 114, 111, 118]⟩]) := HT8.out.below hb9; have HK3 : Hid (Kids v9 (inH (fun j => S j ∨ w.heap.size + 1 < j)) (.slice p3 1 c3) [x_weight_decay]) := HK3.out.below hb9; have HK6 : Hid (Kids v9 (inH (fun j => S j ∨ w.heap.size + 1 < j)) (.slice p6 rl.length c6) rl) := HK6.out.below hb9; have HBz : Hid (Below wc.heap.size wc v9) := bel HBz.out hb9; clear hb9)
   try (go_wp2_with fail)
   refine hK.out _ _ ?_ (fun hHeld => ?_)
   ·((try dsimp only); first | exact HSE.out | exact fun j h1 _ => HBz.out.block j h1 | exact fun j _ _ => rfl)
   clear hK K
   try simp only [Act.put, List.setIfInBounds_toArray, List.set_cons_zero, List.set_cons_succ]
   clear hHeld
   refine wpAnyH_ready (rs := [10]) (by kernel_rfl) (by simp) ?_
   refine AllReadyH.cons (i := 10) (by simp only [List.getElem?_toArray, List.getElem?_cons_succ, List.getElem?_cons_zero]; rfl) (fun K hK => ?_) AllReadyH.nil
   go_simp
   have hk10 := kids_row (w := v9) (S := (fun j => S j ∨ w.heap.size + 1 < j)) (R := [(madeN a ⟨#[97, 100, 100, 95, 100, 101, 99, 97, 121, 101, 100, 95, 119, 101, 105, 103, 104, 116, 115]⟩ [x_weight_decay], .slice p3 1 c3), (madeN a ⟨#[115, 99, 97, 108, 101, 95, 98, 121, 95, 116, 114, 117, 115, 116, 95, 114, 97, 116, 105, 111]⟩ [(⟨2, ⟨#[]⟩, 0, 0, ⟨#[]⟩, [], a⟩ : Nd), x_trust_coefficient, x_eps], .slice (some ⟨GG, 0, none⟩) 3 3), (madeN a rnm rl, .slice p6 rl.length c6), (madeN a ⟨#[116, 114, 97, 99, 101]⟩ [x_momentum, x_nesterov], .slice p9 2 c9)]) (cs := #[.int .i64 1, .string ⟨#[97, 100, 100, 95, 100, 101, 99, 97, 121, 101, 100, 95, 119, 101, 105, 103, 104, 116, 115]⟩, .int .u32 0, .int .i64 0, .string ⟨#[]⟩, .slice p3 1 c3, .int .i64 a, .int .i64 1, .string ⟨#[115, 99, 97, 108, 101, 95, 98, 121, 95, 116, 114, 117, 115, 116, 95, 114, 97, 116, 105, 111]⟩, .int .u32 0, .int .i64 0, .string ⟨#[]⟩, .slice (some ⟨GG, 0, none⟩) 3 3, .int .i64 a, .int .i64 1, .string rnm, .int .u32 0, .int .i64 0, .string ⟨#[]⟩, .slice p6 rl.length c6, .int .i64 a, .int .i64 1, .string ⟨#[116, 114, 97, 99, 101]⟩, .int .u32 0, .int .i64 0, .string ⟨#[]⟩, .slice p9 2 c9, .int .i64 a]) rfl (List.forall_mem_cons.2 ⟨HK3.out, List.forall_mem_cons.2 ⟨(HKG0.out _ HBz.out), List.forall_mem_cons.2 ⟨HK6.out, List.forall_mem_cons.2 ⟨HK9.out, fun r h => by cases h⟩⟩⟩⟩) (.inr (by have := HBz.out.size; have := HSZ.out; omega)) (by simp)
   obtain ⟨G10, hG10⟩ : ∃ G, v9.heap.size = G := ⟨_, rfl⟩
   have hb10 : Below v9.heap.size v9 (v9.alloc (.cells #[.int .i64 1, .string ⟨#[97, 100, 100, 95, 100, 101, 99, 97, 121, 101, 100, 95, 119, 101, 105, 103, 104, 116, 115]⟩, .int .u32 0, .int .i64 0, .string ⟨#[]⟩, .slice p3 1 c3, .int .i64 a, .int .i64 1, .string ⟨#[115, 99, 97, 108, 101, 95, 98, 121, 95, 116, 114, 117, 115, 116, 95, 114, 97, 116, 105, 111]⟩, .int .u32 0, .int .i64 0, .string ⟨#[]⟩, .slice (some ⟨GG, 0, none⟩) 3 3, .int .i64 a, .int .i64 1, .string rnm, .int .u32 0, .int .i64 0, .string ⟨#[]⟩, .slice p6 rl.length c6, .int .i64 a, .int .i64 1, .string ⟨#[116, 114, 97, 99, 101]⟩, .int .u32 0, .int .i64 0, .string ⟨#[]⟩, .slice p9 2 c9, .int .i64 a] 29)) := bel_alloc _ _
   obtain ⟨v10, hv10⟩ : ∃ V, v9.alloc (.cells #[.int .i64 1, .string ⟨#[97, 100, 100, 95, 100, 101, 99, 97, 121, 101, 100, 95, 119, 101, 105, 103, 104, 116, 115]⟩, .int .u32 0, .int .i64 0, .string ⟨#[]⟩, .slice p3 1 c3, .int .i64 a, .int .i64 1, .string ⟨#[115, 99, 97, 108, 101, 95, 98, 121, 95, 116, 114, 117, 115, 116, 95, 114, 97, 116, 105, 111]⟩, .int .u32 0, .int .i64 0, .string ⟨#[]⟩, .slice (some ⟨GG, 0, none⟩) 3 3, .int .i64 a, .int .i64 1, .string rnm, .int .u32 0, .int .i64 0, .string ⟨#[]⟩, .slice p6 rl.length c6, .int .i64 a, .int .i64 1, .string ⟨#[116, 114, 97, 99, 101]⟩, .int .u32 0, .int .i64 0, .string ⟨#[]⟩, .slice p9 2 c9, .int .i64 a] 29) = V := ⟨_, rfl⟩
   rw [hG10] at hk10
   rw [hv10] at hb10
   have HK10 : Hid (Kids v10 (inH (fun j => S j ∨ w.heap.size + 1 < j)) (.slice (some ⟨G10, 0, none⟩) 4 4) [madeN a ⟨#[97, 100, 100, 95, 100, 101, 99, 97, 121, 101, 100, 95, 119, 101, 105, 103, 104, 116, 115]⟩ [x_weight_decay], madeN a ⟨#[115, 99, 97, 108, 101, 95, 98, 121, 95, 116, 114, 117, 115, 116, 95, 114, 97, 116, 105, 111]⟩ [(⟨2, ⟨#[]⟩, 0, 0, ⟨#[]⟩, [], a⟩ : Nd), x_trust_coefficient, x_eps], madeN a rnm rl, madeN a ⟨#[116, 114, 97, 99, 101]⟩ [x_momentum, x_nesterov]]) := by have := hk10; rw [hv10] at this; exact this
   have HT2 : Hid (StrsA v10 (some ⟨G2, 0, none⟩) [⟨#[119, 101, 105, 103, 104, 116, 95, 100, 101, 99, 97, 121]⟩]) := HT2.out.below hb10
   have HT8 : Hid (StrsA v10 (some ⟨G8, 0, none⟩) [⟨#[109, 111, 109, 101, 110, 116, 117, 109]⟩, ⟨#[110, 101, 115, 116, 101, 114, 111, 118]⟩]) := HT8.out.below hb10
   have HK3 : Hid (Kids v10 (inH (fun j => S j ∨ w.heap.size + 1 < j)) (.slice p3 1 c3) [x_weight_decay]) := HK3.out.below hb10
   have HK6 : Hid (Kids v10 (inH (fun j => S j ∨ w.heap.size + 1 < j)) (.slice p6 rl.length c6) rl) := HK6.out.below hb10
   have HK9 : Hid (Kids v10 (inH (fun j => S j ∨ w.heap.size + 1 < j)) (.slice p9 2 c9) [x_momentum, x_nesterov]) := HK9.out.below hb10
   have HBz : Hid (Below wc.heap.size wc v10) := bel HBz.out hb10
   rw [hv10, hG10]
   clear hk10 hv10 hG10 hb10
   refine hK.out _ _ ?_ (fun hHeld => ?_)
   ·((try dsimp only); first | exact HSE.out | exact fun j h1 _ => HBz.out.block j h1 | exact fun j _ _ => rfl)
   clear hK K
   try simp only [Act.put, List.setIfInBounds_toArray, List.set_cons_zero, List.set_cons_succ]
   clear hHeld
   refine wpAnyH_ready (rs := [11]) (by kernel_rfl) (by simp) ?_
   refine AllReadyH.cons (i := 11) (by simp only [List.getElem?_toArray, List.getElem?_cons_succ, List.getElem?_cons_zero]; rfl) (fun K hK => ?_) AllReadyH.nil
   go_simp
   (go_at_call 68; (with_reducible refine (HCA11.out _ _ _ _).mono ?_); rintro e v11 ⟨rfl, hb11⟩; have HT2 : Hid (StrsA v11 (some ⟨G2, 0, none⟩) [⟨#[119, 101, 105, 103, 104, 116, 95, 100, 101, 99, 97, 121]⟩]) := HT2.out.below hb11; have HT8 : Hid (StrsA v11 (some ⟨G8, 0, none⟩) [⟨#[109, 111, 109, 101, 110, 116, 117, 109]⟩, ⟨#[110, 101, 115, 116, 101, 114, 111, 118]⟩]) := HT8.out.below hb11; have HK3 : Hid (Kids v11 (inH (fun j => S j ∨ w.heap.size + 1 < j)) (.slice p3 1 c3) [x_weight_decay]) := HK3.out.below hb11; have HK6 : Hid (Kids v11 (inH (fun j => S j ∨ w.heap.size + 1 < j)) (.slice p6 rl.length c6) rl) := HK6.out.below hb11; have HK9 : Hid (Kids v11 (inH (fun j => S j ∨ w.heap.size + 1 < j)) (.slice p9 2 c9) [x_momentum, x_nesterov]) := HK9.out.below hb11; have HK10 : Hid (Kids v11 (inH (fun j => S j ∨ w.heap.size + 1 < j)) (.slice (some ⟨G10, 0, none⟩) 4 4) [madeN a ⟨#[97, 100, 100, 95, 100, 101, 99, 97, 121, 101, 100, 95, 119, 101, 105, 103, 104, 116, 115]⟩ [x_weight_decay], madeN a ⟨#[115, 99, 97, 108, 101, 95, 98, 121, 95, 116, 114, 117, 115, 116, 95, 114, 97, 116, 105, 111]⟩ [(⟨2, ⟨#[]⟩, 0, 0, ⟨#[]⟩, [], a⟩ : Nd), x_trust_coefficient, x_eps], madeN a rnm rl, madeN a ⟨#[116, 114, 97, 99, 101]⟩ [x_momentum, x_nesterov]]) := HK10.out.below hb11; have HBz : Hid (Below wc.heap.size wc v11) := bel HBz.out hb11; clear hb11)
   try (go_wp2_with fail)
   refine hK.out _ _ ?_ (fun hHeld => ?_)
   ·((try dsimp only); first | exact HSE.out | exact fun j h1 _ => HBz.out.block j h1 | exact fun j _ _ => rfl)
   clear hK K
   try simp only [Act.put, List.setIfInBounds_toArray, List.set_cons_zero, List.set_cons_succ]
   clear hHeld
   refine wpAnyH_ready (rs := [12]) (by kernel_rfl) (by simp) ?_
   refine AllReadyH.cons (i := 12) (by simp only [List.getElem?_toArray, List.getElem?_cons_succ, List.getElem?_cons_zero]; rfl) (fun K hK => ?_) AllReadyH.nil
   obtain ⟨⟨s0, s1, s2, s3, s4, s5, s6⟩, r0, r1, r2, r3, r4, r5, r6⟩ := sevenA (HTW.out.below HBz.out).2.2
   go_simp
   have hoff := offS_seven v11 (w.heap.size + 1) (.int .i64 1) (.string ⟨#[99, 104, 97, 105, 110]⟩) (.int .u32 0) (.int .i64 0) (.string ⟨#[]⟩) (.slice (some ⟨G10, 0, none⟩) 4 4) (.int .i64 a)
   have hosz := size_sevenS v11 (w.heap.size + 1) (.int .i64 1) (.string ⟨#[99, 104, 97, 105, 110]⟩) (.int .u32 0) (.int .i64 0) (.string ⟨#[]⟩) (.slice (some ⟨G10, 0, none⟩) 4 4) (.int .i64 a)
   have hdone := (HTW.out.below HBz.out).done (.int .i64 1) (.string ⟨#[99, 104, 97, 105, 110]⟩) (.int .u32 0) (.int .i64 0) (.string ⟨#[]⟩) (.slice (some ⟨G10, 0, none⟩) 4 4) (.int .i64 a)
   have hsv := put_sevenA (HTW.out.below HBz.out).2.2 (.int .i64 1) (.string ⟨#[99, 104, 97, 105, 110]⟩) (.int .u32 0) (.int .i64 0) (.string ⟨#[]⟩) (.slice (some ⟨G10, 0, none⟩) 4 4) (.int .i64 a)
   have HSzz : Hid (∀ j, j < wc.heap.size → j ≠ w.heap.size + 1 → ((((((((v11.setCell ⟨w.heap.size + 1, 0, none⟩ (.int .i64 1)).setCell ⟨w.heap.size + 1, 1, none⟩ (.string ⟨#[99, 104, 97, 105, 110]⟩)).setCell ⟨w.heap.size + 1, 2, none⟩ (.int .u32 0)).setCell ⟨w.heap.size + 1, 3, none⟩ (.int .i64 0)).setCell ⟨w.heap.size + 1, 4, none⟩ (.string ⟨#[]⟩)).setCell ⟨w.heap.size + 1, 5, none⟩ (.slice (some ⟨G10, 0, none⟩) 4 4)).setCell ⟨w.heap.size + 1, 6, none⟩ (.int .i64 a))).heap[j]? = wc.heap[j]?) := fun j h1 h2 => (hoff.sameSize hosz (by exact h2)).trans (HBz.out.block j h1)
   obtain ⟨vE, hvE⟩ : ∃ V, (((((((v11.setCell ⟨w.heap.size + 1, 0, none⟩ (.int .i64 1)).setCell ⟨w.heap.size + 1, 1, none⟩ (.string ⟨#[99, 104, 97, 105, 110]⟩)).setCell ⟨w.heap.size + 1, 2, none⟩ (.int .u32 0)).setCell ⟨w.heap.size + 1, 3, none⟩ (.int .i64 0)).setCell ⟨w.heap.size + 1, 4, none⟩ (.string ⟨#[]⟩)).setCell ⟨w.heap.size + 1, 5, none⟩ (.slice (some ⟨G10, 0, none⟩) 4 4)).setCell ⟨w.heap.size + 1, 6, none⟩ (.int .i64 a)) = V := ⟨_, rfl⟩
   rw [hvE] at hdone hsv HSzz
   try rw [hvE]
   have HSE := HSzz
   have HEND : Hid (Below w.heap.size w vE ∧ Kids vE (inH (fun j => S j ∨ w.heap.size + 1 < j)) (.slice (some ⟨G10, 0, none⟩) 4 4) [madeN a ⟨#[97, 100, 100, 95, 100, 101, 99, 97, 121, 101, 100, 95, 119, 101, 105, 103, 104, 116, 115]⟩ [x_weight_decay], madeN a ⟨#[115, 99, 97, 108, 101, 95, 98, 121, 95, 116, 114, 117, 115, 116, 95, 114, 97, 116, 105, 111]⟩ [(⟨2, ⟨#[]⟩, 0, 0, ⟨#[]⟩, [], a⟩ : Nd), x_trust_coefficient, x_eps], madeN a rnm rl, madeN a ⟨#[116, 114, 97, 99, 101]⟩ [x_momentum, x_nesterov]] ∧ vE.heap[w.heap.size + 1]? = some (.cells #[.int .i64 1, .string ⟨#[99, 104, 97, 105, 110]⟩, .int .u32 0, .int .i64 0, .string ⟨#[]⟩, .slice (some ⟨G10, 0, none⟩) 4 4, .int .i64 a] 29)) := ⟨hdone.1, hdone.2 _ _ _ (fun j h => by rcases h with h | h; (have := (HSB.out j (.inr h)).2; omega); omega) HK10.out, hsv⟩
   clear hoff hosz hdone hsv hvE s0 s1 s2 s3 s4 s5 s6 r0 r1 r2 r3 r4 r5 r6
   refine hK.out _ _ ?_ (fun hHeld => ?_)
   ·((try dsimp only); first | exact HSE.out | exact fun j h1 _ => HBz.out.block j h1 | exact fun j _ _ => rfl)
   clear hK K
   try simp only [Act.put, List.setIfInBounds_toArray, List.set_cons_zero, List.set_cons_succ]
   refine wpAnyH_done (by kernel_rfl) ?_ _
   go_wp2
   obtain ⟨⟨s0, s1, s2, s3, s4, s5, s6⟩, r0, r1, r2, r3, r4, r5, r6⟩ := sevenA HEND.out.2.2
   refine bodyPost_ret (by simp [results, Tryz.results78, go_sem, s0, s1, s2, s3, s4, s5, s6]; try rfl) rfl ?_
   exact ⟨_, _, rfl, HEND.out.2.1, HEND.out.1⟩
  refine AllReadyH.cons (i := 8) (by simp only [List.getElem?_toArray, List.getElem?_cons_succ, List.getElem?_cons_zero]; rfl) (fun K hK => ?_) AllReadyH.nil
  go_simp
  obtain ⟨G8, hG8⟩ : ∃ G, wc.heap.size = G := ⟨_, rfl⟩
  obtain ⟨v8, hv8⟩ : ∃ V, (wc.alloc (.cells #[.string ⟨#[109, 111, 109, 101, 110, 116, 117, 109]⟩, .string ⟨#[110, 101, 115, 116, 101, 114, 111, 118]⟩] 9)).drew = V := ⟨_, rfl⟩
  have hb8 : Below wc.heap.size wc v8 := by rw [← hv8]; exact bel (bel_alloc _ _) (bel_d _)
  have HT8 : Hid (StrsA v8 (some ⟨G8, 0, none⟩) [⟨#[109, 111, 109, 101, 110, 116, 117, 109]⟩, ⟨#[110, 101, 115, 116, 101, 114, 111, 118]⟩]) := strs_mk (by rw [← hv8, ← hG8]; exact box_heapA wc _)
  have HBz : Hid (Below wc.heap.size wc v8) := bel HBz.out hb8
  rw [hv8, hG8]
  clear hv8 hG8 hb8
  refine hK.out _ _ ?_ (fun hHeld => ?_)
  ·((try dsimp only); first | exact HSE.out | exact fun j h1 _ => HBz.out.block j h1 | exact fun j _ _ => rfl)
  clear hK K
  try simp only [Act.put, List.setIfInBounds_toArray, List.set_cons_zero, List.set_cons_succ]
  clear hHeld
  refine wpAnyH_ready (rs := [2]) (by kernel_rfl) (by simp) ?_
  refine AllReadyH.cons (i := 2) (by simp only [List.getElem?_toArray, List.getElem?_cons_succ, List.getElem?_cons_zero]; rfl) (fun K hK => ?_) AllReadyH.nil
  go_simp
  obtain ⟨G2, hG2⟩ : ∃ G, v8.heap.size = G := ⟨_, rfl⟩
  obtain ⟨v2, hv2⟩ : ∃ V, v8.alloc (.cells #[.string ⟨#[119, 101, 105, 103, 104, 116, 95, 100, 101, 99, 97, 121]⟩] 9) = V := ⟨_, rfl⟩
  have hb2 : Below v8.heap.size v8 v2 := by rw [← hv2]; exact bel_alloc _ _
  have HT2 : Hid (StrsA v2 (some ⟨G2, 0, none⟩) [⟨#[119, 101, 105, 103, 104, 116, 95, 100, 101, 99, 97, 121]⟩]) := strs_mk (by rw [← hv2, ← hG2]; exact box_heapA v8 _)
  have HT8 : Hid (StrsA v2 (some ⟨G8, 0, none⟩) [⟨#[109, 111, 109, 101, 110, 116, 117, 109]⟩, ⟨#[110, 101, 115, 116, 101, 114, 111, 118]⟩]) := HT8.out.below hb2
  have HBz : Hid (Below wc.heap.size wc v2) := bel HBz.out hb2
  rw [hv2, hG2]
  clear hv2 hG2 hb2
  refine hK.out _ _ ?_ (fun hHeld => ?_)
  ·((try dsimp only); first | exact HSE.out | exact fun j h1 _ => HBz.out.block j h1 | exact fun j _ _ => rfl)
  clear hK K
  try simp only [Act.put, List.setIfInBounds_toArray, List.set_cons_zero, List.set_cons_succ]
  clear hHeld
  refine wpAnyH_ready (rs := [3]) (by kernel_rfl) (by simp) ?_
  refine AllReadyH.cons (i := 3) (by simp only [List.getElem?_toArray, List.getElem?_cons_succ, List.getElem?_cons_zero]; rfl) (fun K hK => ?_) AllReadyH.nil
  go_simp
  (go_at_call 69; (with_reducible refine (HOF3.out _ _ _ HBz.out HT2.out).mono ?_); rintro e v3 ⟨p3, c3, rfl, hk3, hb3⟩; have HK3 : Hid (Kids v3 (inH (fun j => S j ∨ w.heap.size + 1 < j)) (.slice p3 1 c3) [x_weight_decay]) := hk3; clear hk3; have HT8 : Hid (StrsA v3 (some ⟨G8, 0, none⟩) [⟨#[109, 111, 109, 101, 110, 116, 117, 109]⟩, ⟨#[110, 101, 115, 116, 101, 114, 111, 118]⟩]) := HT8.out.below hb3; have HT2 : Hid (StrsA v3 (some ⟨G2, 0, none⟩) [⟨#[119, 101, 105, 103, 104, 116, 95, 100, 101, 99, 97, 121]⟩]) := HT2.out.below hb3; have HBz : Hid (Below wc.heap.size wc v3) := bel HBz.out hb3; clear hb3)
  try (go_wp2_with fail)
  refine hK.out _ _ ?_ (fun hHeld => ?_)
  ·((try dsimp only); first | exact HSE.out | exact fun j h1 _ => HBz.out.block j h1 | exact fun j _ _ => rfl)
  clear hK K
  try simp only [Act.put, List.setIfInBounds_toArray, List.set_cons_zero, List.set_cons_succ]
  clear hHeld
  refine wpAnyH_ready (rs := [6]) (by kernel_rfl) (by simp) ?_
  refine AllReadyH.cons (i := 6) (by simp only [List.getElem?_toArray, List.getElem?_cons_succ, List.getElem?_cons_zero]; rfl) (fun K hK => ?_) AllReadyH.nil
  go_simp
  (go_at_call 65; (with_reducible refine (HRT.out _ HBz.out).mono ?_); rintro e v6 ⟨p6, c6, rfl, hk6, hb6⟩; have HK6 : Hid (Kids v6 (inH (fun j => S j ∨ w.heap.size + 1 < j)) (.slice p6 rl.length c6) rl) := hk6; clear hk6; have HT8 : Hid (StrsA v6 (some ⟨G8, 0, none⟩) [⟨#[109, 111, 109, 101, 110, 116, 117, 109]⟩, ⟨#[110, 101, 115, 116, 101, 114, 111, 118]⟩]) := HT8.out.below hb6; have HT2 : Hid (StrsA v6 (some ⟨G2, 0, none⟩) [⟨#[119, 101, 105, 103, 104, 116, 95, 100, 101, 99, 97, 121]⟩]) := HT2.out.below hb6; have HK3 : Hid (Kids v6 (inH (fun j => S j ∨ w.heap.size + 1 < j)) (.slice p3 1 c3) [x_weight_decay]) := HK3.out.below hb6; have HBz : Hid (Below wc.heap.size wc v6) := bel HBz.out hb6; clear hb6)
  try (go_wp2_with fail)
  refine hK.out _ _ ?_ (fun hHeld => ?_)
  ·((try dsimp only); first | exact HSE.out | exact fun j h1 _ => HBz.out.block j h1 | exact fun j _ _ => rfl)
  clear hK K
  try simp only [Act.put, List.setIfInBounds_toArray, List.set_cons_zero, List.set_cons_succ]
  clear hHeld
  refine wpAnyH_ready (rs := [9]) (by kernel_rfl) (by simp) ?_
  refine AllReadyH.cons (i := 9) (by simp only [List.getElem?_toArray, List.getElem?_cons_succ, List.getElem?_cons_zero]; rfl) (fun K hK => ?_) AllReadyH.nil
  go_simp
  (go_at_call 69; (with_reducible refine (HOF9.out _ _ _ HBz.out HT8.out).mono ?_); rintro e v9 ⟨p9, c9, rfl, hk9, hb9⟩; have HK9 : Hid (Kids v9 (inH (fun j => S j ∨ w.heap.size + 1 < j)) (.slice p9 2 c9) [x_momentum, x_nesterov]) := hk9; clear hk9; have HT8 : Hid (StrsA v9 (some ⟨G8, 0, none⟩) [⟨#[109, 111, 109, 101, 110, 116, 117, 109]⟩, ⟨#[110, 101, 115, 116, 101, 114, 111, 118]⟩]) := HT8.out.below hb9; have HT2 : Hid (StrsA v9 (some ⟨G2, 0, none⟩) [⟨#[119, 101, 105, 103, 104, 116, 95, 100, 101, 99, 97, 121]⟩]) := HT2.out.below hb9; have HK3 : Hid (Kids v9 (inH (fun j => S j ∨ w.heap.size + 1 < j)) (.slice p3 1 c3) [x_weight_decay]) := HK3.out.below hb9; have HK6 : Hid (Kids v9 (inH (fun j => S j ∨ w.heap.size + 1 < j)) (.slice p6 rl.length c6) rl) := HK6.out.below hb9; have HBz : Hid (Below wc.heap.size wc v9) := bel HBz.out hb9; clear hb9)
  try (go_wp2_with fail)
  refine hK.out _ _ ?_ (fun hHeld => ?_)
  ·((try dsimp only); first | exact HSE.out | exact fun j h1 _ => HBz.out.block j h1 | exact fun j _ _ => rfl)
  clear hK K
  try simp only [Act.put, List.setIfInBounds_toArray, List.set_cons_zero, List.set_cons_succ]
  clear hHeld
  refine wpAnyH_ready (rs := [10]) (by kernel_rfl) (by simp) ?_
  refine AllReadyH.cons (i := 10) (by simp only [List.getElem?_toArray, List.getElem?_cons_succ, List.getElem?_cons_zero]; rfl) (fun K hK => ?_) AllReadyH.nil
  go_simp
  have hk10 := kids_row (w := v9) (S := (fun j => S j ∨ w.heap.size + 1 < j)) (R := [(madeN a ⟨#[97, 100, 100, 95, 100, 101, 99, 97, 121, 101, 100, 95, 119, 101, 105, 103, 104, 116, 115]⟩ [x_weight_decay], .slice p3 1 c3), (madeN a ⟨#[115, 99, 97, 108, 101, 95, 98, 121, 95, 116, 114, 117, 115, 116, 95, 114, 97, 116, 105, 111]⟩ [(⟨2, ⟨#[]⟩, 0, 0, ⟨#[]⟩, [], a⟩ : Nd), x_trust_coefficient, x_eps], .slice (some ⟨GG, 0, none⟩) 3 3), (madeN a rnm rl, .slice p6 rl.length c6), (madeN a ⟨#[116, 114, 97, 99, 101]⟩ [x_momentum, x_nesterov], .slice p9 2 c9)]) (cs := #[.int .i64 1, .string ⟨#[97, 100, 100, 95, 100, 101, 99, 97, 121, 101, 100, 95, 119, 101, 105, 103, 104, 116, 115]⟩, .int .u32 0, .int .i64 0, .string ⟨#[]⟩, .slice p3 1 c3, .int .i64 a, .int .i64 1, .string ⟨#[115, 99, 97, 108, 101, 95, 98, 121, 95, 116, 114, 117, 115, 116, 95, 114, 97, 116, 105, 111]⟩, .int .u32 0, .int .i64 0, .string ⟨#[]⟩, .slice (some ⟨GG, 0, none⟩) 3 3, .int .i64 a, .int .i64 1, .string rnm, .int .u32 0, .int .i64 0, .string ⟨#[]⟩, .slice p6 rl.length c6, .int .i64 a, .int .i64 1, .string ⟨#[116, 114, 97, 99, 101]⟩, .int .u32 0, .int .i64 0, .string ⟨#[]⟩, .slice p9 2 c9, .int .i64 a]) rfl (List.forall_mem_cons.2 ⟨HK3.out, List.forall_mem_cons.2 ⟨(HKG0.out _ HBz.out), List.forall_mem_cons.2 ⟨HK6.out, List.forall_mem_cons.2 ⟨HK9.out, fun r h => by cases h⟩⟩⟩⟩) (.inr (by have := HBz.out.size; have := HSZ.out; omega)) (by simp)
  obtain ⟨G10, hG10⟩ : ∃ G, v9.heap.size = G := ⟨_, rfl⟩
  have hb10 : Below v9.heap.size v9 (v9.alloc (.cells #[.int .i64 1, .string ⟨#[97, 100, 100, 95, 100, 101, 99, 97, 121, 101, 100, 95, 119, 101, 105, 103, 104, 116, 115]⟩, .int .u32 0, .int .i64 0, .string ⟨#[]⟩, .slice p3 1 c3, .int .i64 a, .int .i64 1, .string ⟨#[115, 99, 97, 108, 101, 95, 98, 121, 95, 116, 114, 117, 115, 116, 95, 114, 97, 116, 105, 111]⟩, .int .u32 0, .int .i64 0, .string ⟨#[]⟩, .slice (some ⟨GG, 0, none⟩) 3 3, .int .i64 a, .int .i64 1, .string rnm, .int .u32 0, .int .i64 0, .string ⟨#[]⟩, .slice p6 rl.length c6, .int .i64 a, .int .i64 1, .string ⟨#[116, 114, 97, 99, 101]⟩, .int .u32 0, .int .i64 0, .string ⟨#[]⟩, .slice p9 2 c9, .int .i64 a] 29)) := bel_alloc _ _
  obtain ⟨v10, hv10⟩ : ∃ V, v9.alloc (.cells #[.int .i64 1, .string ⟨#[97, 100, 100, 95, 100, 101, 99, 97, 121, 101, 100, 95, 119, 101, 105, 103, 104, 116, 115]⟩, .int .u32 0, .int .i64 0, .string ⟨#[]⟩, .slice p3 1 c3, .int .i64 a, .int .i64 1, .string ⟨#[115, 99, 97, 108, 101, 95, 98, 121, 95, 116, 114, 117, 115, 116, 95, 114, 97, 116, 105, 111]⟩, .int .u32 0, .int .i64 0, .string ⟨#[]⟩, .slice (some ⟨GG, 0, none⟩) 3 3, .int .i64 a, .int .i64 1, .string rnm, .int .u32 0, .int .i64 0, .string ⟨#[]⟩, .slice p6 rl.length c6, .int .i64 a, .int .i64 1, .string ⟨#[116, 114, 97, 99, 101]⟩, .int .u32 0, .int .i64 0, .string ⟨#[]⟩, .slice p9 2 c9, .int .i64 a] 29) = V := ⟨_, rfl⟩
  rw [hG10] at hk10
  rw [hv10] at hb10
  have HK10 : Hid (Kids v10 (inH (fun j => S j ∨ w.heap.size + 1 < j)) (.slice (some ⟨G10, 0, none⟩) 4 4) [madeN a ⟨#[97, 100, 100, 95, 100, 101, 99, 97, 121, 101, 100, 95, 119, 101, 105, 103, 104, 116, 115]⟩ [x_weight_decay], madeN a ⟨#[115, 99, 97, 108, 101, 95, 98, 121, 95, 116, 114, 117, 115, 116, 95, 114, 97, 116, 105, 111]⟩ [(⟨2, ⟨#[]⟩, 0, 0, ⟨#[]⟩, [], a⟩ : Nd), x_trust_coefficient, x_eps], madeN a rnm rl, madeN a ⟨#[116, 114, 97, 99, 101]⟩ [x_momentum, x_nesterov]]) := by have := hk10; rw [hv10] at this; exact this
  have HT8 : Hid (StrsA v10 (some ⟨G8, 0, none⟩) [⟨#[109, 111, 109, 101, 110, 116, 117, 109]⟩, ⟨#[110, 101, 115, 116, 101, 114, 111, 118]⟩]) := HT8.out.below hb10
  have HT2 : Hid (StrsA v10 (some ⟨G2, 0, none⟩) [⟨#[119, 101, 105, 103, 104, 116, 95, 100, 101, 99, 97, 121]⟩]) := HT2.out.below hb10
  have HK3 : Hid (Kids v10 (inH (fun j => S j ∨ w.heap.size + 1 < j)) (.slice p3 1 c3) [x_weight_decay]) := HK3.out.below hb10
  have HK6 : Hid (Kids v10 (inH (fun j => S j ∨ w.heap.size + 1 < j)) (.slice p6 rl.length c6) rl) := HK6.out.below hb10
  have HK9 : Hid (Kids v10 (inH (fun j => S j ∨ w.heap.size + 1 < j)) (.slice p9 2 c9) [x_momentum, x_nesterov]) := HK9.out.below hb10
  have HBz : Hid (Below wc.heap.size wc v10) := bel HBz.out hb10
  rw [hv10, hG10]
  clear hk10 hv10 hG10 hb10
  refine hK.out _ _ ?_ (fun hHeld => ?_)
  ·((try dsimp only); first | exact HSE.out | exact fun j h1 _ => HBz.out.block j h1 | exact fun j _ _ => rfl)
  clear hK K
  try simp only [Act.put, List.setIfInBounds_toArray, List.set_cons_zero, List.set_cons_succ]
  clear hHeld
  refine wpAnyH_ready (rs := [11]) (by kernel_rfl) (by simp) ?_
  refine AllReadyH.cons (i := 11) (by simp only [List.getElem?_toArray, List.getElem?_cons_succ, List.getElem?_cons_zero]; rfl) (fun K hK => ?_) AllReadyH.nil
  go_simp
  (go_at_call 68; (with_reducible refine (HCA11.out _ _ _ _).mono ?_); rintro e v11 ⟨rfl, hb11⟩; have HT8 : Hid (StrsA v11 (some ⟨G8, 0, none⟩) [⟨#[109, 111, 109, 101, 110, 116, 117, 109]⟩, ⟨#[110, 101, 115, 116, 101, 114, 111, 118]⟩]) := HT8.out.below hb11; have HT2 : Hid (StrsA v11 (some ⟨G2, 0, none⟩) [⟨#[119, 101, 105, 103, 104, 116, 95, 100, 101, 99, 97, 121]⟩]) := HT2.out.below hb11; have HK3 : Hid (Kids v11 (inH (fun j => S j ∨ w.heap.size + 1 < j)) (.slice p3 1 c3) [x_weight_decay]) := HK3.out.below hb11; have HK6 : Hid (Kids v11 (inH (fun j => S j ∨ w.heap.size + 1 < j)) (.slice p6 rl.length c6) rl) := HK6.out.below hb11; have HK9 : Hid (Kids v11 (inH (fun j => S j ∨ w.heap.size + 1 < j)) (.slice p9 2 c9) [x_momentum, x_nesterov]) := HK9.out.below hb11; have HK10 : Hid (Kids v11 (inH (fun j => S j ∨ w.heap.size + 1 < j)) (.slice (some ⟨G10, 0, none⟩) 4 4) [madeN a ⟨#[97, 100, 100, 95, 100, 101, 99, 97, 121, 101, 100, 95, 119, 101, 105, 103, 104, 116, 115]⟩ [x_weight_decay], madeN a ⟨#[115, 99, 97, 108, 101, 95, 98, 121, 95, 116, 114, 117, 115, 116, 95, 114, 97, 116, 105, 111]⟩ [(⟨2, ⟨#[]⟩, 0, 0, ⟨#[]⟩, [], a⟩ : Nd), x_trust_coefficient, x_eps], madeN a rnm rl, madeN a ⟨#[116, 114, 97, 99, 101]⟩ [x_momentum, x_nesterov]]) := HK10.out.below hb11; have HBz : Hid (Below wc.heap.size wc v11) := bel HBz.out hb11; clear hb11)
  try (go_wp2_with fail)
  refine hK.out _ _ ?_ (fun hHeld => ?_)
  ·((try dsimp only); first | exact HSE.out | exact fun j h1 _ => HBz.out.block j h1 | exact fun j _ _ => rfl)
  clear hK K
  try simp only [Act.put, List.setIfInBounds_toArray, List.set_cons_zero, List.set_cons_succ]
  clear hHeld
  refine wpAnyH_ready (rs := [12]) (by kernel_rfl) (by simp) ?_
  refine AllReadyH.cons (i := 12) (by simp only [List.getElem?_toArray, List.getElem?_cons_succ, List.getElem?_cons_zero]; rfl) (fun K hK => ?_) AllReadyH.nil
  obtain ⟨⟨s0, s1, s2, s3, s4, s5, s6⟩, r0, r1, r2, r3, r4, r5, r6⟩ := sevenA (HTW.out.below HBz.out).2.2
  go_simp
  have hoff := offS_seven v11 (w.heap.size + 1) (.int .i64 1) (.string ⟨#[99, 104, 97, 105, 110]⟩) (.int .u32 0) (.int .i64 0) (.string ⟨#[]⟩) (.slice (some ⟨G10, 0, none⟩) 4 4) (.int .i64 a)
  have hosz := size_sevenS v11 (w.heap.size + 1) (.int .i64 1) (.string ⟨#[99, 104, 97, 105, 110]⟩) (.int .u32 0) (.int .i64 0) (.string ⟨#[]⟩) (.slice (some ⟨G10, 0, none⟩) 4 4) (.int .i64 a)
  have hdone := (HTW.out.below HBz.out).done (.int .i64 1) (.string ⟨#[99, 104, 97, 105, 110]⟩) (.int .u32 0) (.int .i64 0) (.string ⟨#[]⟩) (.slice (some ⟨G10, 0, none⟩) 4 4) (.int .i64 a)
  have hsv := put_sevenA (HTW.out.below HBz.out).2.2 (.int .i64 1) (.string ⟨#[99, 104, 97, 105, 110]⟩) (.int .u32 0) (.int .i64 0) (.string ⟨#[]⟩) (.slice (some ⟨G10, 0, none⟩) 4 4) (.int .i64 a)
  have HSzz : Hid (∀ j, j < wc.heap.size → j ≠ w.heap.size + 1 → ((((((((v11.setCell ⟨w.heap.size + 1, 0, none⟩ (.int .i64 1)).setCell ⟨w.heap.size + 1, 1, none⟩ (.string ⟨#[99, 104, 97, 105, 110]⟩)).setCell ⟨w.heap.size + 1, 2, none⟩ (.int .u32 0)).setCell ⟨w.heap.size + 1, 3, none⟩ (.int .i64 0)).setCell ⟨w.heap.size + 1, 4, none⟩ (.string ⟨#[]⟩)).setCell ⟨w.heap.size + 1, 5, none⟩ (.slice (some ⟨G10, 0, none⟩) 4 4)).setCell ⟨w.heap.size + 1, 6, none⟩ (.int .i64 a))).heap[j]? = wc.heap[j]?) := fun j h1 h2 => (hoff.sameSize hosz (by exact h2)).trans (HBz.out.block j h1)
  obtain ⟨vE, hvE⟩ : ∃ V, (((((((v11.setCell ⟨w.heap.size + 1, 0, none⟩ (.int .i64 1)).setCell ⟨w.heap.size + 1, 1, none⟩ (.string ⟨#[99, 104, 97, 105, 110]⟩)).setCell ⟨w.heap.size + 1, 2, none⟩ (.int .u32 0)).setCell ⟨w.heap.size + 1, 3, none⟩ (.int .i64 0)).setCell ⟨w.heap.size + 1, 4, none⟩ (.string ⟨#[]⟩)).setCell ⟨w.heap.size + 1, 5, none⟩ (.slice (some ⟨G10, 0, none⟩) 4 4)).setCell ⟨w.heap.size + 1, 6, none⟩ (.int .i64 a)) = V := ⟨_, rfl⟩
  rw [hvE] at hdone hsv HSzz
  try rw [hvE]
  have HSE := HSzz
  have HEND : Hid (Below w.heap.size w vE ∧ Kids vE (inH (fun j => S j ∨ w.heap.size + 1 < j)) (.slice (some ⟨G10, 0, none⟩) 4 4) [madeN a ⟨#[97, 100, 100, 95, 100, 101, 99, 97, 121, 101, 100, 95, 119, 101, 105, 103, 104, 116, 115]⟩ [x_weight_decay], madeN a ⟨#[115, 99, 97, 108, 101, 95, 98, 121, 95, 116, 114, 117, 115, 116, 95, 114, 97, 116, 105, 111]⟩ [(⟨2, ⟨#[]⟩, 0, 0, ⟨#[]⟩, [], a⟩ : Nd), x_trust_coefficient, x_eps], madeN a rnm rl, madeN a ⟨#[116, 114, 97, 99, 101]⟩ [x_momentum, x_nesterov]] ∧ vE.heap[w.heap.size + 1]? = some (.cells #[.int .i64 1, .string ⟨#[99, 104, 97, 105, 110]⟩, .int .u32 0, .int .i64 0, .string ⟨#[]⟩, .slice (some ⟨G10, 0, none⟩) 4 4, .int .i64 a] 29)) := ⟨hdone.1, hdone.2 _ _ _ (fun j h => by rcases h with h | h; (have := (HSB.out j (.inr h)).2; omega); omega) HK10.out, hsv⟩
  clear hoff hosz hdone hsv hvE s0 s1 s2 s3 s4 s5 s6 r0 r1 r2 r3 r4 r5 r6
  refine hK.out _ _ ?_ (fun hHeld => ?_)
  ·((try dsimp only); first | exact HSE.out | exact fun j h1 _ => HBz.out.block j h1 | exact fun j _ _ => rfl)
  clear hK K
  try simp only [Act.put, List.setIfInBounds_toArray, List.set_cons_zero, List.set_cons_succ]
  refine wpAnyH_done (by kernel_rfl) ?_ _
  go_wp2
  obtain ⟨⟨s0, s1, s2, s3, s4, s5, s6⟩, r0, r1, r2, r3, r4, r5, r6⟩ := sevenA HEND.out.2.2
  refine bodyPost_ret (by simp [results, Tryz.results78, go_sem, s0, s1, s2, s3, s4, s5, s6]; try rfl) rfl ?_
  exact ⟨_, _, rfl, HEND.out.2.1, HEND.out.1⟩
end Go.Proofs.YtmiidhgbdecdkaaGreat
