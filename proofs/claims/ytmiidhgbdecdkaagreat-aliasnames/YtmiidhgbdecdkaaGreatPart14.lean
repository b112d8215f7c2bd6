import Derived.Test.YtmiidhgbdecdkaaGreatPart13
namespace Go.Proofs.YtmiidhgbdecdkaaGreat
open Go.RowKit
set_option linter.unusedVariables false
set_option linter.unusedSimpArgs false
set_option maxRecDepth 100000 in
set_option maxHeartbeats 4000000 in
theorem bec_rmsprop (b n : Nat) (a : Int) (nd : ByteArray → Option Nd) (S : Blk) (x_rate : Nd) (x_decay : Nd) (x_eps : Nd) (x_initial : Nd) (x_momentum : Nd) (w : World) (h_rate : nd ⟨#[114, 97, 116, 101]⟩ = some x_rate) (h_decay : nd ⟨#[100, 101, 99, 97, 121]⟩ = some x_decay) (h_eps : nd ⟨#[101, 112, 115]⟩ = some x_eps) (h_initial : nd ⟨#[105, 110, 105, 116, 105, 97, 108]⟩ = some x_initial) (h_momentum : nd ⟨#[109, 111, 109, 101, 110, 116, 117, 109]⟩ = some x_momentum) (hok : okR x_rate) (hS : ∀ j, S j → j < w.heap.size) (hp : PM w b n nd S) :
  Calls Tryz.prog 72 #[.agg #[.map (some b), .int .i64 a]] w fun e w' => ∃ p c, e = .returned (.agg #[.int .i64 1, .string ⟨#[99, 104, 97, 105, 110]⟩, .int .u32 0, .int .i64 0, .string ⟨#[]⟩, .slice p 3 c, .int .i64 a]) ∧ Kids w' (inH (fun j => S j ∨ w.heap.size + 1 < j)) (.slice p 3 c) [madeN a ⟨#[115, 99, 97, 108, 101, 95, 98, 121, 95, 114, 109, 115]⟩ [x_decay, x_eps, x_initial], rateA a x_rate, madeN a ⟨#[116, 114, 97, 99, 101]⟩ [x_momentum, (⟨4, ⟨#[102, 97, 108, 115, 101]⟩, 0, 0, ⟨#[]⟩, [], a⟩ : Nd)]] ∧ Below w.heap.size w w' := by
 have HK_x_rate : Hid (nd ⟨#[114, 97, 116, 101]⟩ = some x_rate) := h_rate
 have HK_x_decay : Hid (nd ⟨#[100, 101, 99, 97, 121]⟩ = some x_decay) := h_decay
 have HK_x_eps : Hid (nd ⟨#[101, 112, 115]⟩ = some x_eps) := h_eps
 have HK_x_initial : Hid (nd ⟨#[105, 110, 105, 116, 105, 97, 108]⟩ = some x_initial) := h_initial
 have HK_x_momentum : Hid (nd ⟨#[109, 111, 109, 101, 110, 116, 117, 109]⟩ = some x_momentum) := h_momentum
 obtain ⟨rnm, hrn⟩ : ∃ x, rnmA x_rate = x := ⟨_, rfl⟩
 obtain ⟨rl, hrl⟩ : ∃ x, rlA a x_rate = x := ⟨_, rfl⟩
 rw [rate_made, hrn, hrl]
 obtain ⟨W, hW, hT⟩ := TwoB.start w b a
 have HTW : Hid (TwoB w b a W) := hT
 have HSZ : Hid (w.heap.size + 2 ≤ W.heap.size) := hlt hT.2.2
 have HPM : Hid (PM W b n nd S) := hp.below hT.1
 have HSB : Hid (∀ j, (j = b ∨ S j) → j < W.heap.size ∧ j ≠ w.heap.size + 1) := fun j hj => by
  have h1 := HSZ.out
  rcases hj with rfl | hj
  ·obtain ⟨f, h, _⟩ := hp; have := h.lt; omega
  ·have := hS j hj; omega
 obtain ⟨⟨g0, g1⟩, -⟩ := twoC hT.2.1
 have HBz : Hid (Below W.heap.size W W) := Below.refl _ _
 clear hT
 have HRN : Hid (rnmA x_rate = rnm ∧ rlA a x_rate = rl ∧ okR x_rate) := ⟨hrn, hrl, hok⟩
 obtain ⟨pl3, cl3, hl3⟩ := HPM.out.offs (k := ⟨#[109, 111, 109, 101, 110, 116, 117, 109]⟩) (by decide) HK_x_momentum.out
 have HL3 : Hid (∀ x, (∀ j, j < W.heap.size → j ≠ w.heap.size + 1 → x.heap[j]? = W.heap[j]?) → (Instr.lookup 89 (.map (some b)) (.string ⟨#[109, 111, 109, 101, 110, 116, 117, 109]⟩) false).run Tryz.prog x = .ok (.agg #[.int .i64 x_momentum.kind, .string x_momentum.name, .int .u32 x_momentum.num, .int .i64 x_momentum.int_, .string x_momentum.key, .slice pl3 x_momentum.args.length cl3, .int .i64 x_momentum.at_]) x ∧ Kids x (inH S) (.slice pl3 x_momentum.args.length cl3) x_momentum.args) := fun x hx => hl3 x fun j hj => hx j (HSB.out j hj).1 (HSB.out j hj).2
 clear hl3
 have HCA5 : Hid (∀ (x : World), Calls Tryz.prog 74 #[.agg #[.map (some b), .int .i64 a], .string ⟨#[102, 97, 108, 115, 101]⟩] x fun e w' => e = .returned (.agg #[.int .i64 4, .string ⟨#[102, 97, 108, 115, 101]⟩, .int .u32 0, .int .i64 0, .string ⟨#[]⟩, .slice none 0 0, .int .i64 a]) ∧ Below x.heap.size x w') := fun x => pname_any b a ⟨#[102, 97, 108, 115, 101]⟩ x
 have HCA7 : Hid (∀ (q : Option Addr) (m c : Nat) (x : World), Calls Tryz.prog 73 #[.agg #[.map (some b), .int .i64 a], .string ⟨#[116, 114, 97, 99, 101]⟩, .slice q m c] x fun e w' => e = .returned (.agg #[.int .i64 1, .string ⟨#[116, 114, 97, 99, 101]⟩, .int .u32 0, .int .i64 0, .string ⟨#[]⟩, .slice q m c, .int .i64 a]) ∧ Below x.heap.size x w') := fun q m c x => pcall_any b a ⟨#[116, 114, 97, 99, 101]⟩ q m c x
 clear h_rate h_decay h_eps h_initial h_momentum hp hS hok hrn hrl
 go_enter Tryz.func72, Tryz.ntmps72
 go_upto_region 1 with fail
 go_cut [3] (fun gv wx => ∃ O GG, gv = .pointer (some ⟨O, 0, none⟩) ∧ Hid (Below W.heap.size W wx ∧ W.heap.size ≤ O ∧ wx.heap[O]? = some (.cells #[.int .i64 1, .string ⟨#[116, 114, 97, 99, 101]⟩, .int .u32 0, .int .i64 0, .string ⟨#[]⟩, .slice (some ⟨GG, 0, none⟩) 2 2, .int .i64 a] 29) ∧ Kids wx (inH (fun j => S j ∨ w.heap.size + 1 < j)) (.slice (some ⟨GG, 0, none⟩) 2 2) [x_momentum, (⟨4, ⟨#[102, 97, 108, 115, 101]⟩, 0, 0, ⟨#[]⟩, [], a⟩ : Nd)]))
 case first =>
  refine wp_region_held_drew (S := (fun x => ∀ j, j < W.heap.size → j ≠ w.heap.size + 1 → x.heap[j]? = W.heap[j]?)) (by kernel_rfl) ?_ (fun hHeld => ?_)
  ·((try dsimp only); first | exact HSE.out | exact fun j h1 _ => HBz.out.block j h1 | exact fun j _ _ => rfl)
  refine wpAnyH_take (i := 0) (v := ?_) (by simp only [List.getElem?_toArray, List.getElem?_cons_succ, List.getElem?_cons_zero]; rfl) (by kernel_rfl) (by kernel_rfl) (by kernel_rfl) (by exact fun _ _ _ h => h) (Or.inl ⟨by rfl, ?_⟩) (by assumption) ?_
  rotate_left 1
  ·(intro wS hSw; have hSb : ∀ j, j < W.heap.size → j ≠ w.heap.size + 1 → wS.heap[j]? = W.heap[j]? := hSw; clear hSw; have zp := (cell_to hSb (by simp) g0); have zq := (cell_to hSb (by simp) g1); have l3 := (HL3.out _ hSb).1; go_simp; try (with_reducible rfl))
  try simp only [Act.put, List.setIfInBounds_toArray, List.set_cons_zero, List.set_cons_succ]
  refine wpAnyH_take (i := 1) (v := ?_) (by simp only [List.getElem?_toArray, List.getElem?_cons_succ, List.getElem?_cons_zero]; rfl) (by kernel_rfl) (by kernel_rfl) (by kernel_rfl) (by exact fun _ _ _ h => h) (Or.inl ⟨by rfl, ?_⟩) (by assumption) ?_
  rotate_left 1
  ·(intro wS hSw; have hSb : ∀ j, j < W.heap.size → j ≠ w.heap.size + 1 → wS.heap[j]? = W.heap[j]? := hSw; clear hSw; have zp := (cell_to hSb (by simp) g0); have zq := (cell_to hSb (by simp) g1); have l3 := (HL3.out _ hSb).1; go_simp; try (with_reducible rfl))
  try simp only [Act.put, List.setIfInBounds_toArray, List.set_cons_zero, List.set_cons_succ]
  refine wpAnyH_take (i := 2) (v := ?_) (by simp only [List.getElem?_toArray, List.getElem?_cons_succ, List.getElem?_cons_zero]; rfl) (by kernel_rfl) (by kernel_rfl) (by kernel_rfl) (by exact fun _ _ _ h => h) (Or.inl ⟨by rfl, ?_⟩) (by assumption) ?_
  rotate_left 1
  ·(intro wS hSw; have hSb : ∀ j, j < W.heap.size → j ≠ w.heap.size + 1 → wS.heap[j]? = W.heap[j]? := hSw; clear hSw; have zp := (cell_to hSb (by simp) g0); have zq := (cell_to hSb (by simp) g1); have l3 := (HL3.out _ hSb).1; go_simp; try (with_reducible rfl))
  try simp only [Act.put, List.setIfInBounds_toArray, List.set_cons_zero, List.set_cons_succ]
  refine wpAnyH_take (i := 3) (v := ?_) (by simp only [List.getElem?_toArray, List.getElem?_cons_succ, List.getElem?_cons_zero]; rfl) (by kernel_rfl) (by kernel_rfl) (by kernel_rfl) (by exact fun _ _ _ h => h) (Or.inl ⟨by rfl, ?_⟩) (by assumption) ?_
  rotate_left 1
  ·(intro wS hSw; have hSb : ∀ j, j < W.heap.size → j ≠ w.heap.size + 1 → wS.heap[j]? = W.heap[j]? := hSw; clear hSw; have zp := (cell_to hSb (by simp) g0); have zq := (cell_to hSb (by simp) g1); have l3 := (HL3.out _ hSb).1; go_simp; try (with_reducible rfl))
  try simp only [Act.put, List.setIfInBounds_toArray, List.set_cons_zero, List.set_cons_succ]
  refine wpAnyH_take (i := 4) (v := ?_) (by simp only [List.getElem?_toArray, List.getElem?_cons_succ, List.getElem?_cons_zero]; rfl) (by kernel_rfl) (by kernel_rfl) (by kernel_rfl) (by exact fun _ _ _ h => h) (Or.inl ⟨by rfl, ?_⟩) (by assumption) ?_
  rotate_left 1
  ·(intro wS hSw; have hSb : ∀ j, j < W.heap.size → j ≠ w.heap.size + 1 → wS.heap[j]? = W.heap[j]? := hSw; clear hSw; have zp := (cell_to hSb (by simp) g0); have zq := (cell_to hSb (by simp) g1); have l3 := (HL3.out _ hSb).1; go_simp; try (with_reducible rfl))
  try simp only [Act.put, List.setIfInBounds_toArray, List.set_cons_zero, List.set_cons_succ]
  clear hHeld
  refine wpAnyH_ready (rs := [5, 8]) (by kernel_rfl) (by simp) ?_
  refine AllReadyH.cons (i := 5) (by simp only [List.getElem?_toArray, List.getElem?_cons_succ, List.getElem?_cons_zero]; rfl) (fun K hK => ?_) ?_
  ·go_simp
   (go_at_call 74; (with_reducible refine (HCA5.out _).mono ?_); rintro e v5 ⟨rfl, hb5⟩; have HBz : Hid (Below W.heap.size W v5) := bel (bel HBz.out (bel_d _)) hb5; clear hb5)
   try (go_wp2_with fail)
   refine hK.out _ _ ?_ (fun hHeld => ?_)
   ·((try dsimp only); first | exact HSE.out | exact fun j h1 _ => HBz.out.block j h1 | exact fun j _ _ => rfl)
   clear hK K
   try simp only [Act.put, List.setIfInBounds_toArray, List.set_cons_zero, List.set_cons_succ]
   clear hHeld
   refine wpAnyH_ready (rs := [6, 8]) (by kernel_rfl) (by simp) ?_
   refine AllReadyH.cons (i := 6) (by simp only [List.getElem?_toArray, List.getElem?_cons_succ, List.getElem?_cons_zero]; rfl) (fun K hK => ?_) ?_
   ·go_simp
    obtain ⟨G6, hG6⟩ : ∃ G, v5.heap.size = G := ⟨_, rfl⟩
    obtain ⟨v6, hv6⟩ : ∃ V, v5.alloc (.cells #[.int .i64 x_momentum.kind, .string x_momentum.name, .int .u32 x_momentum.num, .int .i64 x_momentum.int_, .string x_momentum.key, .slice pl3 x_momentum.args.length cl3, .int .i64 x_momentum.at_, .int .i64 4, .string ⟨#[102, 97, 108, 115, 101]⟩, .int .u32 0, .int .i64 0, .string ⟨#[]⟩, .slice none 0 0, .int .i64 a] 29) = V := ⟨_, rfl⟩
    have hb6 : Below v5.heap.size v5 v6 := by rw [← hv6]; exact bel_alloc _ _
    have HR6 : Hid (v6.heap[G6]? = some (.cells #[.int .i64 x_momentum.kind, .string x_momentum.name, .int .u32 x_momentum.num, .int .i64 x_momentum.int_, .string x_momentum.key, .slice pl3 x_momentum.args.length cl3, .int .i64 x_momentum.at_, .int .i64 4, .string ⟨#[102, 97, 108, 115, 101]⟩, .int .u32 0, .int .i64 0, .string ⟨#[]⟩, .slice none 0 0, .int .i64 a] 29)) := by show _ = _; rw [← hv6, ← hG6]; exact box_heapA v5 _
    have HGB6 : Hid (W.heap.size ≤ G6) := by show _ ≤ _; rw [← hG6]; exact HBz.out.size
    have HBz : Hid (Below W.heap.size W v6) := bel HBz.out hb6
    rw [hv6, hG6]
    clear hv6 hG6 hb6
    refine hK.out _ _ ?_ (fun hHeld => ?_)
    ·((try dsimp only); first | exact HSE.out | exact fun j h1 _ => HBz.out.block j h1 | exact fun j _ _ => rfl)
    clear hK K
    try simp only [Act.put, List.setIfInBounds_toArray, List.set_cons_zero, List.set_cons_succ]
    clear hHeld
    refine wpAnyH_ready (rs := [7, 8]) (by kernel_rfl) (by simp) ?_
    refine AllReadyH.cons (i := 7) (by simp only [List.getElem?_toArray, List.getElem?_cons_succ, List.getElem?_cons_zero]; rfl) (fun K hK => ?_) ?_
    ·go_simp
     (go_at_call 73; (with_reducible refine (HCA7.out _ _ _ _).mono ?_); rintro e v7 ⟨rfl, hb7⟩; have HR6 : Hid (v7.heap[G6]? = some (.cells #[.int .i64 x_momentum.kind, .string x_momentum.name, .int .u32 x_momentum.num, .int .i64 x_momentum.int_, .string x_momentum.key, .slice pl3 x_momentum.args.length cl3, .int .i64 x_momentum.at_, .int .i64 4, .string ⟨#[102, 97, 108, 115, 101]⟩, .int .u32 0, .int .i64 0, .string ⟨#[]⟩, .slice none 0 0, .int .i64 a] 29)) := (hb7.block _ (hlt HR6.out)).trans HR6.out; have HBz : Hid (Below W.heap.size W v7) := bel HBz.out hb7; clear hb7)
     try (go_wp2_with fail)
     refine hK.out _ _ ?_ (fun hHeld => ?_)
     ·((try dsimp only); first | exact HSE.out | exact fun j h1 _ => HBz.out.block j h1 | exact fun j _ _ => rfl)
     clear hK K
     try simp only [Act.put, List.setIfInBounds_toArray, List.set_cons_zero, List.set_cons_succ]
     clear hHeld
     refine wpAnyH_ready (rs := [8]) (by kernel_rfl) (by simp) ?_
     refine AllReadyH.cons (i := 8) (by simp only [List.getElem?_toArray, List.getElem?_cons_succ, List.getElem?_cons_zero]; rfl) (fun K hK => ?_) AllReadyH.nil
     go_simp
     obtain ⟨O8, hO8⟩ : ∃ O, v7.heap.size = O := ⟨_, rfl⟩
     obtain ⟨v8, hv8⟩ : ∃ V, v7.alloc (.cells #[.int .i64 0, .string ⟨#[]⟩, .int .u32 0, .int .i64 0, .string ⟨#[]⟩, .slice none 0 0, .int .i64 0] 29) = V := ⟨_, rfl⟩
     have hb8 : Below v7.heap.size v7 v8 := by rw [← hv8]; exact bel_alloc _ _
     have HO8 : Hid (v8.heap[O8]? = some (.cells #[.int .i64 0, .string ⟨#[]⟩, .int .u32 0, .int .i64 0, .string ⟨#[]⟩, .slice none 0 0, .int .i64 0] 29)) := by show _ = _; rw [← hv8, ← hO8]; exact box_heapA v7 _
     have HOB8 : Hid (W.heap.size ≤ O8) := by show _ ≤ _; rw [← hO8]; exact HBz.out.size
     have HR6 : Hid (v8.heap[G6]? = some (.cells #[.int .i64 x_momentum.kind, .string x_momentum.name, .int .u32 x_momentum.num, .int .i64 x_momentum.int_, .string x_momentum.key, .slice pl3 x_momentum.args.length cl3, .int .i64 x_momentum.at_, .int .i64 4, .string ⟨#[102, 97, 108, 115, 101]⟩, .int .u32 0, .int .i64 0, .string ⟨#[]⟩, .slice none 0 0, .int .i64 a] 29)) := (hb8.block _ (hlt HR6.out)).trans HR6.out
     have HBz : Hid (Below W.heap.size W v8) := bel HBz.out hb8
     rw [hv8, hO8]
     clear hv8 hO8 hb8
     refine hK.out _ _ ?_ (fun hHeld => ?_)
     ·((try dsimp only); first | exact HSE.out | exact fun j h1 _ => HBz.out.block j h1 | exact fun j _ _ => rfl)
     clear hK K
     try simp only [Act.put, List.setIfInBounds_toArray, List.set_cons_zero, List.set_cons_succ]
     clear hHeld
     refine wpAnyH_ready (rs := [9]) (by kernel_rfl) (by simp) ?_
     refine AllReadyH.cons (i := 9) (by simp only [List.getElem?_toArray, List.getElem?_cons_succ, List.getElem?_cons_zero]; rfl) (fun K hK => ?_) AllReadyH.nil
     obtain ⟨⟨s0, s1, s2, s3, s4, s5, s6⟩, r0, r1, r2, r3, r4, r5, r6⟩ := sevenA HO8.out
     go_simp
     have hoff := offS_seven v8 O8 (.int .i64 1) (.string ⟨#[116, 114, 97, 99, 101]⟩) (.int .u32 0) (.int .i64 0) (.string ⟨#[]⟩) (.slice (some ⟨G6, 0, none⟩) 2 2) (.int .i64 a)
     have hosz := size_sevenS v8 O8 (.int .i64 1) (.string ⟨#[116, 114, 97, 99, 101]⟩) (.int .u32 0) (.int .i64 0) (.string ⟨#[]⟩) (.slice (some ⟨G6, 0, none⟩) 2 2) (.int .i64 a)
     have hsv := put_sevenA HO8.out (.int .i64 1) (.string ⟨#[116, 114, 97, 99, 101]⟩) (.int .u32 0) (.int .i64 0) (.string ⟨#[]⟩) (.slice (some ⟨G6, 0, none⟩) 2 2) (.int .i64 a)
     have HSzz : Hid (∀ j, j < W.heap.size → j ≠ w.heap.size + 1 → ((((((((v8.setCell ⟨O8, 0, none⟩ (.int .i64 1)).setCell ⟨O8, 1, none⟩ (.string ⟨#[116, 114, 97, 99, 101]⟩)).setCell ⟨O8, 2, none⟩ (.int .u32 0)).setCell ⟨O8, 3, none⟩ (.int .i64 0)).setCell ⟨O8, 4, none⟩ (.string ⟨#[]⟩)).setCell ⟨O8, 5, none⟩ (.slice (some ⟨G6, 0, none⟩) 2 2)).setCell ⟨O8, 6, none⟩ (.int .i64 a))).heap[j]? = W.heap[j]?) := fun j h1 h2 => (hoff.sameSize hosz (by show ¬ j = O8; have := HOB8.out; omega)).trans (HBz.out.block j h1)
     have hbE : Below W.heap.size W ((((((((v8.setCell ⟨O8, 0, none⟩ (.int .i64 1)).setCell ⟨O8, 1, none⟩ (.string ⟨#[116, 114, 97, 99, 101]⟩)).setCell ⟨O8, 2, none⟩ (.int .u32 0)).setCell ⟨O8, 3, none⟩ (.int .i64 0)).setCell ⟨O8, 4, none⟩ (.string ⟨#[]⟩)).setCell ⟨O8, 5, none⟩ (.slice (some ⟨G6, 0, none⟩) 2 2)).setCell ⟨O8, 6, none⟩ (.int .i64 a))) := hoff.below HBz.out (fun j hj => by have := HBz.out.size; omega) (fun j hj e => by have e : j = O8 := e; have := HOB8.out; omega)
     have hrE := (hoff.sameSize hosz (x := G6) (by intro e; have e : G6 = O8 := e; have h1 := HR6.out; rw [e, HO8.out] at h1; simp at h1)).trans HR6.out
     obtain ⟨vE, hvE⟩ : ∃ V, (((((((v8.setCell ⟨O8, 0, none⟩ (.int .i64 1)).setCell ⟨O8, 1, none⟩ (.string ⟨#[116, 114, 97, 99, 101]⟩)).setCell ⟨O8, 2, none⟩ (.int .u32 0)).setCell ⟨O8, 3, none⟩ (.int .i64 0)).setCell ⟨O8, 4, none⟩ (.string ⟨#[]⟩)).setCell ⟨O8, 5, none⟩ (.slice (some ⟨G6, 0, none⟩) 2 2)).setCell ⟨O8, 6, none⟩ (.int .i64 a)) = V := ⟨_, rfl⟩
     rw [hvE] at hsv HSzz hbE hrE
     try rw [hvE]
     have HSE := HSzz
     have hkE := kids_at (w := vE) (S := (fun j => S j ∨ w.heap.size + 1 < j)) (R := [(x_momentum, .slice pl3 x_momentum.args.length cl3), ((⟨4, ⟨#[102, 97, 108, 115, 101]⟩, 0, 0, ⟨#[]⟩, [], a⟩ : Nd), .slice none 0 0)]) hrE rfl (List.forall_mem_cons.2 ⟨((HL3.out _ HSE.out).2.weak (inH.sub fun j h => .inl h)), List.forall_mem_cons.2 ⟨(kids_none _ _), fun r h => by cases h⟩⟩) (.inr (by have := HGB6.out; have := HSZ.out; omega)) (by simp)
     have HEND : Hid (Below W.heap.size W vE ∧ W.heap.size ≤ O8 ∧ vE.heap[O8]? = some (.cells #[.int .i64 1, .string ⟨#[116, 114, 97, 99, 101]⟩, .int .u32 0, .int .i64 0, .string ⟨#[]⟩, .slice (some ⟨G6, 0, none⟩) 2 2, .int .i64 a] 29) ∧ Kids vE (inH (fun j => S j ∨ w.heap.size + 1 < j)) (.slice (some ⟨G6, 0, none⟩) 2 2) [x_momentum, (⟨4, ⟨#[102, 97, 108, 115, 101]⟩, 0, 0, ⟨#[]⟩, [], a⟩ : Nd)]) := ⟨hbE, HOB8.out, hsv, hkE⟩
     clear hoff hosz hsv hbE hkE hrE hvE s0 s1 s2 s3 s4 s5 s6 r0 r1 r2 r3 r4 r5 r6
     refine hK.out _ _ ?_ (fun hHeld => ?_)
     ·((try dsimp only); first | exact HSE.out | exact fun j h1 _ => HBz.out.block j h1 | exact fun j _ _ => rfl)
     clear hK K
     try simp only [Act.put, List.setIfInBounds_toArray, List.set_cons_zero, List.set_cons_succ]
     refine wpAnyH_done (by kernel_rfl) ?_ _
     go_wp2_with fail
     go_meet
     exact ⟨O8, G6, rfl, HEND.out⟩
    refine AllReadyH.cons (i := 8) (by simp only [List.getElem?_toArray, List.getElem?_cons_succ, List.getElem?_cons_zero]; rfl) (fun K hK => ?_) AllReadyH.nil
    go_simp
    obtain ⟨O8, hO8⟩ : ∃ O, v6.heap.size = O := ⟨_, rfl⟩
    obtain ⟨v8, hv8⟩ : ∃ V, v6.alloc (.cells #[.int .i64 0, .string ⟨#[]⟩, .int .u32 0, .int .i64 0, .string ⟨#[]⟩, .slice none 0 0, .int .i64 0] 29) = V := ⟨_, rfl⟩
    have hb8 : Below v6.heap.size v6 v8 := by rw [← hv8]; exact bel_alloc _ _
    have HO8 : Hid (v8.heap[O8]? = some (.cells #[.int .i64 0, .string ⟨#[]⟩, .int .u32 0, .int .i64 0, .string ⟨#[]⟩, .slice none 0 0, .int .i64 0] 29)) := by show _ = _; rw [← hv8, ← hO8]; exact box_heapA v6 _
    have HOB8 : Hid (W.heap.size ≤ O8) := by show _ ≤ _; rw [← hO8]; exact HBz.out.size
    have HR6 : Hid (v8.heap[G6]? = some (.cells #[.int .i64 x_momentum.kind, .string x_momentum.name, .int .u32 x_momentum.num, .int .i64 x_momentum.int_, .string x_momentum.key, .slice pl3 x_momentum.args.length cl3, .int .i64 x_momentum.at_, .int .i64 4, .string ⟨#[102, 97, 108, 115, 101]⟩, .int .u32 0, .int .i64 0, .string ⟨#[]⟩, .slice none 0 0, .int .i64 a] 29)) := (hb8.block _ (hlt HR6.out)).trans HR6.out
    have HBz : Hid (Below W.heap.size W v8) := bel HBz.out hb8
    rw [hv8, hO8]
    clear hv8 hO8 hb8
    refine hK.out _ _ ?_ (fun hHeld => ?_)
    ·((try dsimp only); first | exact HSE.out | exact fun j h1 _ => HBz.out.block j h1 | exact fun j _ _ => rfl)
    clear hK K
    try simp only [Act.put, List.setIfInBounds_toArray, List.set_cons_zero, List.set_cons_succ]
    clear hHeld
    refine wpAnyH_ready (rs := [7]) (by kernel_rfl) (by simp) ?_
    refine AllReadyH.cons (i := 7) (by simp only [List.getElem?_toArray, List.getElem?_cons_succ, List.getElem?_cons_zero]; rfl) (fun K hK => ?_) AllReadyH.nil
    go_simp
    (go_at_call 73; (with_reducible refine (HCA7.out _ _ _ _).mono ?_); rintro e v7 ⟨rfl, hb7⟩; have HR6 : Hid (v7.heap[G6]? = some (.cells #[.int .i64 x_momentum.kind, .string x_momentum.name, .int .u32 x_momentum.num, .int .i64 x_momentum.int_, .string x_momentum.key, .slice pl3 x_momentum.args.length cl3, .int .i64 x_momentum.at_, .int .i64 4, .string ⟨#[102, 97, 108, 115, 101]⟩, .int .u32 0, .int .i64 0, .string ⟨#[]⟩, .slice none 0 0, .int .i64 a] 29)) := (hb7.block _ (hlt HR6.out)).trans HR6.out; have HO8 : Hid (v7.heap[O8]? = some (.cells #[.int .i64 0, .string ⟨#[]⟩, .int .u32 0, .int .i64 0, .string ⟨#[]⟩, .slice none 0 0, .int .i64 0] 29)) := (hb7.block _ (hlt HO8.out)).trans HO8.out; have HBz : Hid (Below W.heap.size W v7) := bel HBz.out hb7; clear hb7)
    try (go_wp2_with fail)
    refine hK.out _ _ ?_ (fun hHeld => ?_)
    ·((try dsimp only); first | exact HSE.out | exact fun j h1 _ => HBz.out.block j h1 | exact fun j _ _ => rfl)
    clear hK K
    try simp only [Act.put, List.setIfInBounds_toArray, List.set_cons_zero, List.set_cons_succ]
    clear hHeld
    refine wpAnyH_ready (rs := [9]) (by kernel_rfl) (by simp) ?_
    refine AllReadyH.cons (i := 9) (by simp only [List.getElem?_toArray, List.getElem?_cons_succ, List.getElem?_cons_zero]; rfl) (fun K hK => ?_) AllReadyH.nil
    obtain ⟨⟨s0, s1, s2, s3, s4, s5, s6⟩, r0, r1, r2, r3, r4, r5, r6⟩ := sevenA HO8.out
    go_simp
    have hoff := offS_seven v7 O8 (.int .i64 1) (.string ⟨#[116, 114, 97, 99, 101]⟩) (.int .u32 0) (.int .i64 0) (.string ⟨#[]⟩) (.slice (some ⟨G6, 0, none⟩) 2 2) (.int .i64 a)
    have hosz := size_sevenS v7 O8 (.int .i64 1) (.string ⟨#[116, 114, 97, 99, 101]⟩) (.int .u32 0) (.int .i64 0) (.string ⟨#[]⟩) (.slice (some ⟨G6, 0, none⟩) 2 2) (.int .i64 a)
    have hsv := put_sevenA HO8.out (.int .i64 1) (.string ⟨#[116, 114, 97, 99, 101]⟩) (.int .u32 0) (.int .i64 0) (.string ⟨#[]⟩) (.slice (some ⟨G6, 0, none⟩) 2 2) (.int .i64 a)
    have HSzz : Hid (∀ j, j < W.heap.size → j ≠ w.heap.size + 1 → ((((((((v7.setCell ⟨O8, 0, none⟩ (.int .i64 1)).setCell ⟨O8, 1, none⟩ (.string ⟨#[116, 114, 97, 99, 101]⟩)).setCell ⟨O8, 2, none⟩ (.int .u32 0)).setCell ⟨O8, 3, none⟩ (.int .i64 0)).setCell ⟨O8, 4, none⟩ (.string ⟨#[]⟩)).setCell ⟨O8, 5, none⟩ (.slice (some ⟨G6, 0, none⟩) 2 2)).setCell ⟨O8, 6, none⟩ (.int .i64 a))).heap[j]? = W.heap[j]?) := fun j h1 h2 => (hoff.sameSize hosz (by show ¬ j = O8; have := HOB8.out; omega)).trans (HBz.out.block j h1)
    have hbE : Below W.heap.size W ((((((((v7.setCell ⟨O8, 0, none⟩ (.int .i64 1)).setCell ⟨O8, 1, none⟩ (.string ⟨#[116, 114, 97, 99, 101]⟩)).setCell ⟨O8, 2, none⟩ (.int .u32 0)).setCell ⟨O8, 3, none⟩ (.int .i64 0)).setCell ⟨O8, 4, none⟩ (.string ⟨#[]⟩)).setCell ⟨O8, 5, none⟩ (.slice (some ⟨G6, 0, none⟩) 2 2)).setCell ⟨O8, 6, none⟩ (.int .i64 a))) := hoff.below HBz.out (fun j hj => by have := HBz.out.size; omega) (fun j hj e => by have e : j = O8 := e; have := HOB8.out; omega)
    have hrE := (hoff.sameSize hosz (x := G6) (by intro e; have e : G6 = O8 := e; have h1 := HR6.out; rw [e, HO8.out] at h1; simp at h1)).trans HR6.out
    obtain ⟨vE, hvE⟩ : ∃ V, (((((((v7.setCell ⟨O8, 0, none⟩ (.int .i64 1)).setCell ⟨O8, 1, none⟩ (.string ⟨#[116, 114, 97, 99, 101]⟩)).setCell ⟨O8, 2, none⟩ (.int .u32 0)).setCell ⟨O8, 3, none⟩ (.int .i64 0)).setCell ⟨O8, 4, none⟩ (.string ⟨#[]⟩)).setCell ⟨O8, 5, none⟩ (.slice (some ⟨G6, 0, none⟩) 2 2)).setCell ⟨O8, 6, none⟩ (.int .i64 a)) = V := ⟨_, rfl⟩
    rw [hvE] at hsv HSzz hbE hrE
    try rw [hvE]
    have HSE := HSzz
    have hkE := kids_at (w := vE) (S := (fun j => S j ∨ w.heap.size + 1 < j)) (R := [(x_momentum, .slice pl3 x_momentum.args.length cl3), ((⟨4, ⟨#[102, 97, 108, 115, 101]⟩, 0, 0, ⟨#[]⟩, [], a⟩ : Nd), .slice none 0 0)]) hrE rfl (List.forall_mem_cons.2 ⟨((HL3.out _ HSE.out).2.weak (inH.sub fun j h => .inl h)), List.forall_mem_cons.2 ⟨(kids_none _ _), fun r h => by cases h⟩⟩) (.inr (by have := HGB6.out; have := HSZ.out; omega)) (by simp)
    have HEND : Hid (Below W.heap.size W vE ∧ W.heap.size ≤ O8 ∧ vE.heap[O8]? = some (.cells #[.int .i64 1, .string ⟨#[116, 114, 97, 99, 101]⟩, .int .u32 0, .int .i64 0, .string ⟨#[]⟩, .slice (some ⟨G6, 0, none⟩) 2 2, .int .i64 a] 29) ∧ Kids vE (inH (fun j => S j ∨ w.heap.size + 1 < j)) (.slice (some ⟨G6, 0, none⟩) 2 2) [x_momentum, (⟨4, ⟨#[102, 97, 108, 115, 101]⟩, 0, 0, ⟨#[]⟩, [], a⟩ : Nd)]) := ⟨hbE, HOB8.out, hsv, hkE⟩
    clear hoff hosz hsv hbE hkE hrE hvE s0 s1 s2 s3 s4 s5 s6 r0 r1 r2 r3 r4 r5 r6
    refine hK.out _ _ ?_ (fun hHeld => ?_)
    ·((try dsimp only); first | exact HSE.out | exact fun j h1 _ => HBz.out.block j h1 | exact fun j _ _ => rfl)
    clear hK K
    try simp only [Act.put, List.setIfInBounds_toArray, List.set_cons_zero, List.set_cons_succ]
    refine wpAnyH_done (by kernel_rfl) ?_ _
    go_wp2_with fail
    go_meet
    exact ⟨O8, G6, rfl, HEND.out⟩
   refine AllReadyH.cons (i := 8) (by simp only [List.getElem?_toArray, List.getElem?_cons_succ, List.getElem?_cons_zero]; rfl) (fun K hK => ?_) AllReadyH.nil
   go_simp
   obtain ⟨O8, hO8⟩ : ∃ O, v5.heap.size = O := ⟨_, rfl⟩
   obtain ⟨v8, hv8⟩ : ∃ V, v5.alloc (.cells #[.int .i64 0, .string ⟨#[]⟩, .int .u32 0, .int .i64 0, .string ⟨#[]⟩, .slice none 0 0, .int .i64 0] 29) = V := ⟨_, rfl⟩
   have hb8 : Below v5.heap.size v5 v8 := by rw [← hv8]; exact bel_alloc _ _
   have HO8 : Hid (v8.heap[O8]? = some (.cells #[.int .i64 0, .string ⟨#[]⟩, .int .u32 0, .int .i64 0, .string ⟨#[]⟩, .slice none 0 0, .int .i64 0] 29)) := by show _ = _; rw [← hv8, ← hO8]; exact box_heapA v5 _
   have HOB8 : Hid (W.heap.size ≤ O8) := by show _ ≤ _; rw [← hO8]; exact HBz.out.size
   have HBz : Hid (Below W.heap.size W v8) := bel HBz.out hb8
   rw [hv8, hO8]
   clear hv8 hO8 hb8
   refine hK.out _ _ ?_ (fun hHeld => ?_)
   ·((try dsimp only); first | exact HSE.out | exact fun j h1 _ => HBz.out.block j h1 | exact fun j _ _ => rfl)
   clear hK K
   try simp only [Act.put, List.setIfInBounds_toArray, List.set_cons_zero, List.set_cons_succ]
   clear hHeld
   refine wpAnyH_ready (rs := [6]) (by kernel_rfl) (by simp) ?_
   refine AllReadyH.cons (i := 6) (by simp only [List.getElem?_toArray, List.getElem?_cons_succ, List.getElem?_cons_zero]; rfl) (fun K hK => ?_) AllReadyH.nil
   go_simp
   obtain ⟨G6, hG6⟩ : ∃ G, v8.heap.size = G := ⟨_, rfl⟩
   obtain ⟨v6, hv6⟩ : ∃ V, v8.alloc (.cells #[.int .i64 x_momentum.kind, .string x_momentum.name, .int .u32 x_momentum.num, .int .i64 x_momentum.int_, .string x_momentum.key, .slice pl3 x_momentum.args.length cl3, .int .i64 x_momentum.at_, .int .i64 4, .string ⟨#[102, 97, 108, 115, 101]⟩, .int .u32 0, .int .i64 0, .string ⟨#[]⟩, .slice none 0 0, .int .i64 a] 29) = V := ⟨_, rfl⟩
   have hb6 : Below v8.heap.size v8 v6 := by rw [← hv6]; exact bel_alloc _ _
   have HR6 : Hid (v6.heap[G6]? = some (.cells #[.int .i64 x_momentum.kind, .string x_momentum.name, .int .u32 x_momentum.num, .int .i64 x_momentum.int_, .string x_momentum.key, .slice pl3 x_momentum.args.length cl3, .int .i64 x_momentum.at_, .int .i64 4, .string ⟨#[102, 97, 108, 115, 101]⟩, .int .u32 0, .int .i64 0, .string ⟨#[]⟩, .slice none 0 0, .int .i64 a] 29)) := by show _ = _; rw [← hv6, ← hG6]; exact box_heapA v8 _
   have HGB6 : Hid (W.heap.size ≤ G6) := by show _ ≤ _; rw [← hG6]; exact HBz.out.size
   have HO8 : Hid (v6.heap[O8]? = some (.cells #[.int .i64 0, .string ⟨#[]⟩, .int .u32 0, .int .i64 0, .string ⟨#[]⟩, .slice none 0 0, .int .i64 0] 29)) := (hb6.block _ (hlt HO8.out)).trans HO8.out
   have HBz : Hid (Below W.heap.size W v6) := bel HBz.out hb6
   rw [hv6, hG6]
   clear hv6 hG6 hb6
   refine hK.out _ _ ?_ (fun hHeld => ?_)
   ·((try dsimp only); first | exact HSE.out | exact fun j h1 _ => HBz.out.block j h1 | exact fun j _ _ => rfl)
   clear hK K
   try simp only [Act.put, List.setIfInBounds_toArray, List.set_cons_zero, List.set_cons_succ]
   clear hHeld
   refine wpAnyH_ready (rs := [7]) (by kernel_rfl) (by simp) ?_
   refine AllReadyH.cons (i := 7) (by simp only [List.getElem?_toArray, List.getElem?_cons_succ, List.getElem?_cons_zero]; rfl) (fun K hK => ?_) AllReadyH.nil
   go_simp
   (go_at_call 73; (with_reducible refine (HCA7.out _ _ _ _).mono ?_); rintro e v7 ⟨rfl, hb7⟩; have HO8 : Hid (v7.heap[O8]? = some (.cells #[.int .i64 0, .string ⟨#[]⟩, .int .u32 0, .int .i64 0, .string ⟨#[]⟩, .slice none 0 0, .int .i64 0] 29)) := (hb7.block _ (hlt HO8.out)).trans HO8.out; have HR6 : Hid (v7.heap[G6]? = some (.cells #[.int .i64 x_momentum.kind, .string x_momentum.name, .int .u32 x_momentum.num, .int .i64 x_momentum.int_, .string x_momentum.key, .slice pl3 x_momentum.args.length cl3, .int .i64 x_momentum.at_, .int .i64 4, .string ⟨#[102, 97, 108, 115, 101]⟩, .int .u32 0, .int .i64 0, .string ⟨#[]⟩, .slice none 0 0, .int .i64 a] 29)) := (hb7.block _ (hlt HR6.out)).trans HR6.out; have HBz : Hid (Below W.heap.size W v7) := bel HBz.out hb7; clear hb7)
   try (go_wp2_with fail)
   refine hK.out _ _ ?_ (fun hHeld => ?_)
   ·((try dsimp only); first | exact HSE.out | exact fun j h1 _ => HBz.out.block j h1 | exact fun j _ _ => rfl)
   clear hK K
   try simp only [Act.put, List.setIfInBounds_toArray, List.set_cons_zero, List.set_cons_succ]
   clear hHeld
   refine wpAnyH_ready (rs := [9]) (by kernel_rfl) (by simp) ?_
   refine AllReadyH.cons (i := 9) (by simp only [List.getElem?_toArray, List.getElem?_cons_succ, List.getElem?_cons_zero]; rfl) (fun K hK => ?_) AllReadyH.nil
   obtain ⟨⟨s0, s1, s2, s3, s4, s5, s6⟩, r0, r1, r2, r3, r4, r5, r6⟩ := sevenA HO8.out
   go_simp
   have hoff := offS_seven v7 O8 (.int .i64 1) (.string ⟨#[116, 114, 97, 99, 101]⟩) (.int .u32 0) (.int .i64 0) (.string ⟨#[]⟩) (.slice (some ⟨G6, 0, none⟩) 2 2) (.int .i64 a)
   have hosz := size_sevenS v7 O8 (.int .i64 1) (.string ⟨#[116, 114, 97, 99, 101]⟩) (.int .u32 0) (.int .i64 0) (.string ⟨#[]⟩) (.slice (some ⟨G6, 0, none⟩) 2 2) (.int .i64 a)
   have hsv := put_sevenA HO8.out (.int .i64 1) (.string ⟨#[116, 114, 97, 99, 101]⟩) (.int .u32 0) (.int .i64 0) (.string ⟨#[]⟩) (.slice (some ⟨G6, 0, none⟩) 2 2) (.int .i64 a)
   have HSzz : Hid (∀ j, j < W.heap.size → j ≠ w.heap.size + 1 → ((((((((v7.setCell ⟨O8, 0, none⟩ (.int .i64 1)).setCell ⟨O8, 1, none⟩ (.string ⟨#[116, 114, 97, 99, 101]⟩)).setCell ⟨O8, 2, none⟩ (.int .u32 0)).setCell ⟨O8, 3, none⟩ (.int .i64 0)).setCell ⟨O8, 4, none⟩ (.string ⟨#[]⟩)).setCell ⟨O8, 5, none⟩ (.slice (some ⟨G6, 0, none⟩) 2 2)).setCell ⟨O8, 6, none⟩ (.int .i64 a))).heap[j]? = W.heap[j]?) := fun j h1 h2 => (hoff.sameSize hosz (by show ¬ j = O8; have := HOB8.out; omega)).trans (HBz.out.block j h1)
   have hbE : Below W.heap.size W ((((((((v7.setCell ⟨O8, 0, none⟩ (.int .i64 1)).setCell ⟨O8, 1, none⟩ (.string ⟨#[116, 114, 97, 99, 101]⟩)).setCell ⟨O8, 2, none⟩ (.int .u32 0)).setCell ⟨O8, 3, none⟩ (.int .i64 0)).setCell ⟨O8, 4, none⟩ (.string ⟨#[]⟩)).setCell ⟨O8, 5, none⟩ (.slice (some ⟨G6, 0, none⟩) 2 2)).setCell ⟨O8, 6, none⟩ (.int .i64 a))) := hoff.below HBz.out (fun j hj => by have := HBz.out.size; omega) (fun j hj e => by have e : j = O8 := e; have := HOB8.out; omega)
   have hrE := (hoff.sameSize hosz (x := G6) (by intro e; have e : G6 = O8 := e; have h1 := HR6.out; rw [e, HO8.out] at h1; simp at h1)).trans HR6.out
   obtain ⟨vE, hvE⟩ : ∃ V, (((((((v7.setCell ⟨O8, 0, none⟩ (.int .i64 1)).setCell ⟨O8, 1, none⟩ (.string ⟨#[116, 114, 97, 99, 101]⟩)).setCell ⟨O8, 2, none⟩ (.int .u32 0)).setCell ⟨O8, 3, none⟩ (.int .i64 0)).setCell ⟨O8, 4, none⟩ (.string ⟨#[]⟩)).setCell ⟨O8, 5, none⟩ (.slice (some ⟨G6, 0, none⟩) 2 2)).setCell ⟨O8, 6, none⟩ (.int .i64 a)) = V := ⟨_, rfl⟩
   rw [hvE] at hsv HSzz hbE hrE
   try rw [hvE]
   have HSE := HSzz
   have hkE := kids_at (w := vE) (S := (fun j => S j ∨ w.heap.size + 1 < j)) (R := [(x_momentum, .slice pl3 x_momentum.args.length cl3), ((⟨4, ⟨#[102, 97, 108, 115, 101]⟩, 0, 0, ⟨#[]⟩, [], a⟩ : Nd), .slice none 0 0)]) hrE rfl (List.forall_mem_cons.2 ⟨((HL3.out _ HSE.out).2.weak (inH.sub fun j h => .inl h)), List.forall_mem_cons.2 ⟨(kids_none _ _), fun r h => by cases h⟩⟩) (.inr (by have := HGB6.out; have := HSZ.out; omega)) (by simp)
   have HEND : Hid (Below W.heap.size W vE ∧ W.heap.size ≤ O8 ∧ vE.heap[O8]? = some (.cells #[.int .i64 1, .string ⟨#[116, 114, 97, 99, 101]⟩, .int .u32 0, .int .i64 0, .string ⟨#[]⟩, .slice (some ⟨G6, 0, none⟩) 2 2, .int .i64 a] 29) ∧ Kids vE (inH (fun j => S j ∨ w.heap.size + 1 < j)) (.slice (some ⟨G6, 0, none⟩) 2 2) [x_momentum, (⟨4, ⟨#[102, 97, 108, 115, 101]⟩, 0, 0, ⟨#[]⟩, [], a⟩ : Nd)]) := ⟨hbE, HOB8.out, hsv, hkE⟩
   clear hoff hosz hsv hbE hkE hrE hvE s0 s1 s2 s3 s4 s5 s6 r0 r1 r2 r3 r4 r5 r6
   refine hK.out _ _ ?_ (fun hHeld => ?_)
   ·((try dsimp only); first | exact HSE.out | exact fun j h1 _ => HBz.out.block j h1 | exact fun j _ _ => rfl)
   clear hK K
   try simp only [Act.put, List.setIfInBounds_toArray, List.set_cons_zero, List.set_cons_succ]
   refine wpAnyH_done (by kernel_rfl) ?_ _
   go_wp2_with fail
   go_meet
   exact ⟨O8, G6, rfl, HEND.out⟩
  refine AllReadyH.cons (i := 8) (by simp only [List.getElem?_toArray, List.getElem?_cons_succ, List.getElem?_cons_zero]; rfl) (fun K hK => ?_) AllReadyH.nil
  go_simp
  obtain ⟨O8, hO8⟩ : ∃ O, W.heap.size = O := ⟨_, rfl⟩
  obtain ⟨v8, hv8⟩ : ∃ V, (W.alloc (.cells #[.int .i64 0, .string ⟨#[]⟩, .int .u32 0, .int .i64 0, .string ⟨#[]⟩, .slice none 0 0, .int .i64 0] 29)).drew = V := ⟨_, rfl⟩
  have hb8 : Below W.heap.size W v8 := by rw [← hv8]; exact bel (bel_alloc _ _) (bel_d _)
  have HO8 : Hid (v8.heap[O8]? = some (.cells #[.int .i64 0, .string ⟨#[]⟩, .int .u32 0, .int .i64 0, .string ⟨#[]⟩, .slice none 0 0, .int .i64 0] 29)) := by show _ = _; rw [← hv8, ← hO8]; exact box_heapA W _
  have HOB8 : Hid (W.heap.size ≤ O8) := by show _ ≤ _; rw [← hO8]; exact HBz.out.size
  have HBz : Hid (Below W.heap.size W v8) := bel HBz.out hb8
  rw [hv8, hO8]
  clear hv8 hO8 hb8
  refine hK.out _ _ ?_ (fun hHeld => ?_)
  ·((try dsimp only); first | exact HSE.out | exact fun j h1 _ => HBz.out.block j h1 | exact fun j _ _ => rfl)
  clear hK K
  try simp only [Act.put, List.setIfInBounds_toArray, List.set_cons_zero, List.set_cons_succ]
  clear hHeld
  refine wpAnyH_ready (rs := [5]) (by kernel_rfl) (by simp) ?_
  refine AllReadyH.cons (i := 5) (by simp only [List.getElem?_toArray, List.getElem?_cons_succ, List.getElem?_cons_zero]; rfl) (fun K hK => ?_) AllReadyH.nil
  go_simp
  (go_at_call 74; (with_reducible refine (HCA5.out _).mono ?_); rintro e v5 ⟨rfl, hb5⟩; have HO8 : Hid (v5.heap[O8]? = some (.cells #[.int .i64 0, .string ⟨#[]⟩, .int .u32 0, .int .i64 0, .string ⟨#[]⟩, .slice none 0 0, .int .i64 0] 29)) := (hb5.block _ (hlt HO8.out)).trans HO8.out; have HBz : Hid (Below W.heap.size W v5) := bel HBz.out hb5; clear hb5)
  try (go_wp2_with fail)
  refine hK.out _ _ ?_ (fun hHeld => ?_)
  ·((try dsimp only); first | exact HSE.out | exact fun j h1 _ => HBz.out.block j h1 | exact fun j _ _ => rfl)
  clear hK K
  try simp only [Act.put, List.setIfInBounds_toArray, List.set_cons_zero, List.set_cons_succ]
  clear hHeld
  refine wpAnyH_ready (rs := [6]) (by kernel_rfl) (by simp) ?_
  refine AllReadyH.cons (i := 6) (by simp only [List.getElem?_toArray, List.getElem?_cons_succ, List.getElem?_cons_zero]; rfl) (fun K hK => ?_) AllReadyH.nil
  go_simp
  obtain ⟨G6, hG6⟩ : ∃ G, v5.heap.size = G := ⟨_, rfl⟩
  obtain ⟨v6, hv6⟩ : ∃ V, v5.alloc (.cells #[.int .i64 x_momentum.kind, .string x_momentum.name, .int .u32 x_momentum.num, .int .i64 x_momentum.int_, .string x_momentum.key, .slice pl3 x_momentum.args.length cl3, .int .i64 x_momentum.at_, .int .i64 4, .string ⟨#[102, 97, 108, 115, 101]⟩, .int .u32 0, .int .i64 0, .string ⟨#[]⟩, .slice none 0 0, .int .i64 a] 29) = V := ⟨_, rfl⟩
  have hb6 : Below v5.heap.size v5 v6 := by rw [← hv6]; exact bel_alloc _ _
  have HR6 : Hid (v6.heap[G6]? = some (.cells #[.int .i64 x_momentum.kind, .string x_momentum.name, .int .u32 x_momentum.num, .int .i64 x_momentum.int_, .string x_momentum.key, .slice pl3 x_momentum.args.length cl3, .int .i64 x_momentum.at_, .int .i64 4, .string ⟨#[102, 97, 108, 115, 101]⟩, .int .u32 0, .int .i64 0, .string ⟨#[]⟩, .slice none 0 0, .int .i64 a] 29)) := by show _ = _; rw [← hv6, ← hG6]; exact box_heapA v5 _
  have HGB6 : Hid (W.heap.size ≤ G6) := by show _ ≤ _; rw [← hG6]; exact HBz.out.size
  have HO8 : Hid (v6.heap[O8]? = some (.cells #[.int .i64 0, .string ⟨#[]⟩, .int .u32 0, .int .i64 0, .string ⟨#[]⟩, .slice none 0 0, .int .i64 0] 29)) := (hb6.block _ (hlt HO8.out)).trans HO8.out
  have HBz : Hid (Below W.heap.size W v6) := bel HBz.out hb6
  rw [hv6, hG6]
  clear hv6 hG6 hb6
  refine hK.out _ _ ?_ (fun hHeld => ?_)
  ·((try dsimp only); first | exact HSE.out | exact fun j h1 _ => HBz.out.block j h1 | exact fun j _ _ => rfl)
  clear hK K
  try simp only [Act.put, List.setIfInBounds_toArray, List.set_cons_zero, List.set_cons_succ]
  clear hHeld
  refine wpAnyH_ready (rs := [7]) (by kernel_rfl) (by simp) ?_
  refine AllReadyH.cons (i := 7) (by simp only [List.getElem?_toArray, List.getElem?_cons_succ, List.getElem?_cons_zero]; rfl) (fun K hK => ?_) AllReadyH.nil
  go_simp
  (go_at_call 73; (with_reducible refine (HCA7.out _ _ _ _).mono ?_); rintro e v7 ⟨rfl, hb7⟩; have HO8 : Hid (v7.heap[O8]? = some (.cells #[.int .i64 0, .string ⟨#[]⟩, .int .u32 0, .int .i64 0, .string ⟨#[]⟩, .slice none 0 0, .int .i64 0] 29)) := (hb7.block _ (hlt HO8.out)).trans HO8.out; have HR6 : Hid (v7.heap[G6]? = some (.cells #[.int .i64 x_momentum.kind, .string x_momentum.name, .int .u32 x_momentum.num, .int .i64 x_momentum.int_, .string x_momentum.key, .slice pl3 x_momentum.args.length cl3, .int .i64 x_momentum.at_, .int .i64 4, .string ⟨#[102, 97, 108, 115, 101]⟩, .int .u32 0, .int .i64 0, .string ⟨#[]⟩, .slice none 0 0, .int .i64 a] 29)) := (hb7.block _ (hlt HR6.out)).trans HR6.out; have HBz : Hid (Below W.heap.size W v7) := bel HBz.out hb7; clear hb7)
  try (go_wp2_with fail)
  refine hK.out _ _ ?_ (fun hHeld => ?_)
  ·((try dsimp only); first | exact HSE.out | exact fun j h1 _ => HBz.out.block j h1 | exact fun j _ _ => rfl)
  clear hK K
  try simp only [Act.put, List.setIfInBounds_toArray, List.set_cons_zero, List.set_cons_succ]
  clear hHeld
  refine wpAnyH_ready (rs := [9]) (by kernel_rfl) (by simp) ?_
  refine AllReadyH.cons (i := 9) (by simp only [List.getElem?_toArray, List.getElem?_cons_succ, List.getElem?_cons_zero]; rfl) (fun K hK => ?_) AllReadyH.nil
  obtain ⟨⟨s0, s1, s2, s3, s4, s5, s6⟩, r0, r1, r2, r3, r4, r5, r6⟩ := sevenA HO8.out
  go_simp
  have hoff := offS_seven v7 O8 (.int .i64 1) (.string ⟨#[116, 114, 97, 99, 101]⟩) (.int .u32 0) (.int .i64 0) (.string ⟨#[]⟩) (.slice (some ⟨G6, 0, none⟩) 2 2) (.int .i64 a)
  have hosz := size_sevenS v7 O8 (.int .i64 1) (.string ⟨#[116, 114, 97, 99, 101]⟩) (.int .u32 0) (.int .i64 0) (.string ⟨#[]⟩) (.slice (some ⟨G6, 0, none⟩) 2 2) (.int .i64 a)
  have hsv := put_sevenA HO8.out (.int .i64 1) (.string ⟨#[116, 114, 97, 99, 101]⟩) (.int .u32 0) (.int .i64 0) (.string ⟨#[]⟩) (.slice (some ⟨G6, 0, none⟩) 2 2) (.int .i64 a)
  have HSzz : Hid (∀ j, j < W.heap.size → j ≠ w.heap.size + 1 → ((((((((v7.setCell ⟨O8, 0, none⟩ (.int .i64 1)).setCell ⟨O8, 1, none⟩ (.string ⟨#[116, 114, 97, 99, 101]⟩)).setCell ⟨O8, 2, none⟩ (.int .u32 0)).setCell ⟨O8, 3, none⟩ (.int .i64 0)).setCell ⟨O8, 4, none⟩ (.string ⟨#[]⟩)).setCell ⟨O8, 5, none⟩ (.slice (some ⟨G6, 0, none⟩) 2 2)).setCell ⟨O8, 6, none⟩ (.int .i64 a))).heap[j]? = W.heap[j]?) := fun j h1 h2 => (hoff.sameSize hosz (by show ¬ j = O8; have := HOB8.out; omega)).trans (HBz.out.block j h1)
  have hbE : Below W.heap.size W ((((((((v7.setCell ⟨O8, 0, none⟩ (.int .i64 1)).setCell ⟨O8, 1, none⟩ (.string ⟨#[116, 114, 97, 99, 101]⟩)).setCell ⟨O8, 2, none⟩ (.int .u32 0)).setCell ⟨O8, 3, none⟩ (.int .i64 0)).setCell ⟨O8, 4, none⟩ (.string ⟨#[]⟩)).setCell ⟨O8, 5, none⟩ (.slice (some ⟨G6, 0, none⟩) 2 2)).setCell ⟨O8, 6, none⟩ (.int .i64 a))) := hoff.below HBz.out (fun j hj => by have := HBz.out.size; omega) (fun j hj e => by have e : j = O8 := e; have := HOB8.out; omega)
  have hrE := (hoff.sameSize hosz (x := G6) (by intro e; have e : G6 = O8 := e; have h1 := HR6.out; rw [e, HO8.out] at h1; simp at h1)).trans HR6.out
  obtain ⟨vE, hvE⟩ : ∃ V, (((((((v7.setCell ⟨O8, 0, none⟩ (.int .i64 1)).setCell ⟨O8, 1, none⟩ (.string ⟨#[116, 114, 97, 99, 101]⟩)).setCell ⟨O8, 2, none⟩ (.int .u32 0)).setCell ⟨O8, 3, none⟩ (.int .i64 0)).setCell ⟨O8, 4, none⟩ (.string ⟨#[]⟩)).setCell ⟨O8, 5, none⟩ (.slice (some ⟨G6, 0, none⟩) 2 2)).setCell ⟨O8, 6, none⟩ (.int .i64 a)) = V := ⟨_, rfl⟩
  rw [hvE] at hsv HSzz hbE hrE
  try rw [hvE]
  have HSE := HSzz
  have hkE := kids_at (w := vE) (S := (fun j => S j ∨ w.heap.size + 1 < j)) (R := [(x_momentum, .slice pl3 x_momentum.args.length cl3), ((⟨4, ⟨#[102, 97, 108, 115, 101]⟩, 0, 0, ⟨#[]⟩, [], a⟩ : Nd), .slice none 0 0)]) hrE rfl (List.forall_mem_cons.2 ⟨((HL3.out _ HSE.out).2.weak (inH.sub fun j h => .inl h)), List.forall_mem_cons.2 ⟨(kids_none _ _), fun r h => by cases h⟩⟩) (.inr (by have := HGB6.out; have := HSZ.out; omega)) (by simp)
  have HEND : Hid (Below W.heap.size W vE ∧ W.heap.size ≤ O8 ∧ vE.heap[O8]? = some (.cells #[.int .i64 1, .string ⟨#[116, 114, 97, 99, 101]⟩, .int .u32 0, .int .i64 0, .string ⟨#[]⟩, .slice (some ⟨G6, 0, none⟩) 2 2, .int .i64 a] 29) ∧ Kids vE (inH (fun j => S j ∨ w.heap.size + 1 < j)) (.slice (some ⟨G6, 0, none⟩) 2 2) [x_momentum, (⟨4, ⟨#[102, 97, 108, 115, 101]⟩, 0, 0, ⟨#[]⟩, [], a⟩ : Nd)]) := ⟨hbE, HOB8.out, hsv, hkE⟩
  clear hoff hosz hsv hbE hkE hrE hvE s0 s1 s2 s3 s4 s5 s6 r0 r1 r2 r3 r4 r5 r6
  refine hK.out _ _ ?_ (fun hHeld => ?_)
  ·((try dsimp only); first | exact HSE.out | exact fun j h1 _ => HBz.out.block j h1 | exact fun j _ _ => rfl)
  clear hK K
  try simp only [Act.put, List.setIfInBounds_toArray, List.set_cons_zero, List.set_cons_succ]
  refine wpAnyH_done (by kernel_rfl) ?_ _
  go_wp2_with fail
  go_meet
  exact ⟨O8, G6, rfl, HEND.out⟩
 case rest =>
  obtain ⟨O, GG, rfl, HE⟩ := hcut
  have HON : Hid (O ≠ w.heap.size + 1) := by show O ≠ _; have := HE.out.2.1; have := HSZ.out; omega
  have HTW : Hid (TwoB w b a wc) := HTW.out.below HE.out.1
  have HPM : Hid (PM wc b n nd S) := HPM.out.below HE.out.1
  have HSB : Hid (∀ j, (j = b ∨ S j) → j < wc.heap.size ∧ j ≠ w.heap.size + 1) := fun j hj => ⟨by have := (HSB.out j hj).1; have := HE.out.1.size; omega, (HSB.out j hj).2⟩
  have HSZ : Hid (w.heap.size + 2 ≤ wc.heap.size) := hlt HTW.out.2.2
  have HKG0 : Hid (∀ x, Below wc.heap.size wc x → Kids x (inH (fun j => S j ∨ w.heap.size + 1 < j)) (.slice (some ⟨GG, 0, none⟩) 2 2) [x_momentum, (⟨4, ⟨#[102, 97, 108, 115, 101]⟩, 0, 0, ⟨#[]⟩, [], a⟩ : Nd)]) := fun x hx => HE.out.2.2.2.below hx
  clear g0 g1
  obtain ⟨⟨g0, g1⟩, -⟩ := twoC HTW.out.2.1
  obtain ⟨⟨q0, q1, q2, q3, q4, q5, q6⟩, -⟩ := sevenA HE.out.2.2.1
  have HBz : Hid (Below wc.heap.size wc wc) := Below.refl _ _
  obtain ⟨hrn, hrl, hok⟩ := HRN.out
  have HRT : Hid (∀ x, Below wc.heap.size wc x → Calls Tryz.prog 65 #[.agg #[.map (some b), .int .i64 a]] x fun e w' => ∃ p c, e = .returned (.agg #[.int .i64 1, .string rnm, .int .u32 0, .int .i64 0, .string ⟨#[]⟩, .slice p rl.length c, .int .i64 a]) ∧ Kids w' (inH (fun j => S j ∨ w.heap.size + 1 < j)) (.slice p rl.length c) rl ∧ Below x.heap.size x w') := fun x hx => by
   have := rated_any b n a nd S x_rate x HK_x_rate.out hok (fun j hj => by have := (HSB.out j (.inr hj)).1; have := hx.size; omega) (HPM.out.below hx)
   rw [hrn, hrl] at this
   exact this.mono fun e w' ⟨p, c, h1, h2, h3⟩ => ⟨p, c, h1, h2.weak (inH.sub fun j h => h.imp id fun h => by have := hx.size; have := HSZ.out; omega), h3⟩
  clear hrn hrl hok HRN HE
  have HOF3 : Hid (∀ (q : Option Addr) (c : Nat) (x : World), Below wc.heap.size wc x → StrsA x q [⟨#[100, 101, 99, 97, 121]⟩, ⟨#[101, 112, 115]⟩, ⟨#[105, 110, 105, 116, 105, 97, 108]⟩] → Calls Tryz.prog 69 #[.agg #[.map (some b), .int .i64 a], .string ⟨#[115, 99, 97, 108, 101, 95, 98, 121, 95, 114, 109, 115]⟩, .slice q 3 c] x fun e w' => ∃ p c, e = .returned (.agg #[.int .i64 1, .string ⟨#[115, 99, 97, 108, 101, 95, 98, 121, 95, 114, 109, 115]⟩, .int .u32 0, .int .i64 0, .string ⟨#[]⟩, .slice p 3 c, .int .i64 a]) ∧ Kids w' (inH (fun j => S j ∨ w.heap.size + 1 < j)) (.slice p 3 c) [x_decay, x_eps, x_initial] ∧ Below x.heap.size x w') := fun q c x hx hq => (of_any b n a nd S ⟨#[115, 99, 97, 108, 101, 95, 98, 121, 95, 114, 109, 115]⟩ [⟨#[100, 101, 99, 97, 121]⟩, ⟨#[101, 112, 115]⟩, ⟨#[105, 110, 105, 116, 105, 97, 108]⟩] [x_decay, x_eps, x_initial] q c x (by decide) (by decide) (by simp [HK_x_decay.out, HK_x_eps.out, HK_x_initial.out]) (fun j hj => by have := (HSB.out j (.inr hj)).1; have := hx.size; omega) (HPM.out.below hx) hq).mono fun e w' ⟨p, c, h1, h2, h3⟩ => ⟨p, c, h1, h2.weak (inH.sub fun j h => h.imp id fun h => by have := hx.size; have := HSZ.out; omega), h3⟩
  have HCA8 : Hid (∀ (q : Option Addr) (m c : Nat) (x : World), Calls Tryz.prog 68 #[.agg #[.map (some b), .int .i64 a], .slice q m c] x fun e w' => e = .returned (.agg #[.int .i64 1, .string ⟨#[99, 104, 97, 105, 110]⟩, .int .u32 0, .int .i64 0, .string ⟨#[]⟩, .slice q m c, .int .i64 a]) ∧ Below x.heap.size x w') := fun q m c x => pchain_any b a q m c x
  go_upto_region 2 with fail
  refine wp_region_held_drew (S := (fun x => ∀ j, j < wc.heap.size → j ≠ w.heap.size + 1 → x.heap[j]? = wc.heap[j]?)) (by kernel_rfl) ?_ (fun hHeld => ?_)
  ·((try dsimp only); first | exact HSE.out | exact fun j h1 _ => HBz.out.block j h1 | exact fun j _ _ => rfl)
  refine wpAnyH_take (i := 0) (v := ?_) (by simp only [List.getElem?_toArray, List.getElem?_cons_succ, List.getElem?_cons_zero]; rfl) (by kernel_rfl) (by kernel_rfl) (by kernel_rfl) (by exact fun _ _ _ h => h) (Or.inl ⟨by rfl, ?_⟩) (by assumption) ?_
  rotate_left 1
  ·(intro wS hSw; have hSb : ∀ j, j < wc.heap.size → j ≠ w.heap.size + 1 → wS.heap[j]? = wc.heap[j]? := hSw; clear hSw; have zp := (cell_to hSb (by simp) g0); have zq := (cell_to hSb (by simp) g1); have y0 := cell_to hSb HON.out q0; have y1 := cell_to hSb HON.out q1; have y2 := cell_to hSb HON.out q2; have y3 := cell_to hSb HON.out q3; have y4 := cell_to hSb HON.out q4; have y5 := cell_to hSb HON.out q5; have y6 := cell_to hSb HON.out q6; go_simp; try (with_reducible rfl))
  try simp only [Act.put, List.setIfInBounds_toArray, List.set_cons_zero, List.set_cons_succ]
  refine wpAnyH_take (i := 1) (v := ?_) (by simp only [List.getElem?_toArray, List.getElem?_cons_succ, List.getElem?_cons_zero]; rfl) (by kernel_rfl) (by kernel_rfl) (by kernel_rfl) (by exact fun _ _ _ h => h) (Or.inl ⟨by rfl, ?_⟩) (by assumption) ?_
  rotate_left 1
  ·(intro wS hSw; have hSb : ∀ j, j < wc.heap.size → j ≠ w.heap.size + 1 → wS.heap[j]? = wc.heap[j]? := hSw; clear hSw; have zp := (cell_to hSb (by simp) g0); have zq := (cell_to hSb (by simp) g1); have y0 := cell_to hSb HON.out q0; have y1 := cell_to hSb HON.out q1; have y2 := cell_to hSb HON.out q2; have y3 := cell_to hSb HON.out q3; have y4 := cell_to hSb HON.out q4; have y5 := cell_to hSb HON.out q5; have y6 := cell_to hSb HON.out q6; go_simp; try (with_reducible rfl))
  try simp only [Act.put, List.setIfInBounds_toArray, List.set_cons_zero, List.set_cons_succ]
  refine wpAnyH_take (i := 4) (v := ?_) (by simp only [List.getElem?_toArray, List.getElem?_cons_succ, List.getElem?_cons_zero]; rfl) (by kernel_rfl) (by kernel_rfl) (by kernel_rfl) (by exact fun _ _ _ h => h) (Or.inl ⟨by rfl, ?_⟩) (by assumption) ?_
  rotate_left 1
  ·(intro wS hSw; have hSb : ∀ j, j < wc.heap.size → j ≠ w.heap.size + 1 → wS.heap[j]? = wc.heap[j]? := hSw; clear hSw; have zp := (cell_to hSb (by simp) g0); have zq := (cell_to hSb (by simp) g1); have y0 := cell_to hSb HON.out q0; have y1 := cell_to hSb HON.out q1; have y2 := cell_to hSb HON.out q2; have y3 := cell_to hSb HON.out q3; have y4 := cell_to hSb HON.out q4; have y5 := cell_to hSb HON.out q5; have y6 := cell_to hSb HON.out q6; go_simp; try (with_reducible rfl))
  try simp only [Act.put, List.setIfInBounds_toArray, List.set_cons_zero, List.set_cons_succ]
  refine wpAnyH_take (i := 6) (v := ?_) (by simp only [List.getElem?_toArray, List.getElem?_cons_succ, List.getElem?_cons_zero]; rfl) (by kernel_rfl) (by kernel_rfl) (by kernel_rfl) (by exact fun _ _ _ h => h) (Or.inl ⟨by rfl, ?_⟩) (by assumption) ?_
  rotate_left 1
  ·(intro wS hSw; have hSb : ∀ j, j < wc.heap.size → j ≠ w.heap.size + 1 → wS.heap[j]? = wc.heap[j]? := hSw; clear hSw; have zp := (cell_to hSb (by simp) g0); have zq := (cell_to hSb (by simp) g1); have y0 := cell_to hSb HON.out q0; have y1 := cell_to hSb HON.out q1; have y2 := cell_to hSb HON.out q2; have y3 := cell_to hSb HON.out q3; have y4 := cell_to hSb HON.out q4; have y5 := cell_to hSb HON.out q5; have y6 := cell_to hSb HON.out q6; go_simp; try (with_reducible rfl))
  try simp only [Act.put, List.setIfInBounds_toArray, List.set_cons_zero, List.set_cons_succ]
  clear hHeld
  refine wpAnyH_ready (rs := [2]) (by kernel_rfl) (by simp) ?_
  refine AllReadyH.cons (i := 2) (by simp only [List.getElem?_toArray, List.getElem?_cons_succ, List.getElem?_cons_zero]; rfl) (fun K hK => ?_) AllReadyH.nil
  go_simp
  obtain ⟨G2, hG2⟩ : ∃ G, wc.heap.size = G := ⟨_, rfl⟩
  obtain ⟨v2, hv2⟩ : ∃ V, (wc.alloc (.cells #[.string ⟨#[100, 101, 99, 97, 121]⟩, .string ⟨#[101, 112, 115]⟩, .string ⟨#[105, 110, 105, 116, 105, 97, 108]⟩] 9)).drew = V := ⟨_, rfl⟩
  have hb2 : Below wc.heap.size wc v2 := by rw [← hv2]; exact bel (bel_alloc _ _) (bel_d _)
  have HT2 : Hid (StrsA v2 (some ⟨G2, 0, none⟩) [⟨#[100, 101, 99, 97, 121]⟩, ⟨#[101, 112, 115]⟩, ⟨#[105, 110, 105, 116, 105, 97, 108]⟩]) := strs_mk (by rw [← hv2, ← hG2]; exact box_heapA wc _)
  have HBz : Hid (Below wc.heap.size wc v2) := bel HBz.out hb2
  rw [hv2, hG2]
  clear hv2 hG2 hb2
  refine hK.out _ _ ?_ (fun hHeld => ?_)
  ·((try dsimp only); first | exact HSE.out | exact fun j h1 _ => HBz.out.block j h1 | exact fun j _ _ => rfl)
  clear hK K
  try simp only [Act.put, List.setIfInBounds_toArray, List.set_cons_zero, List.set_cons_succ]
  clear hHeld
  refine wpAnyH_ready (rs := [3]) (by kernel_rfl) (by simp) ?_
  refine AllReadyH.cons (i := 3) (by simp only [List.getElem?_toArray, List.getElem?_cons_succ, List.getElem?_cons_zero]; rfl) (fun K hK => ?_) AllReadyH.nil
  go_simp
  (go_at_call 69; (with_reducible refine (HOF3.out _ _ _ HBz.out HT2.out).mono ?_); rintro e v3 ⟨p3, c3, rfl, hk3, hb3⟩; have HK3 : Hid (Kids v3 (inH (fun j => S j ∨ w.heap.size + 1 < j)) (.slice p3 3 c3) [x_decay, x_eps, x_initial]) := hk3; clear hk3; have HT2 : Hid (StrsA v3 (some ⟨G2, 0, none⟩) [⟨#[100, 101, 99, 97, 121]⟩, ⟨#[101, 112, 115]⟩, ⟨#[105, 110, 105, 116, 105, 97, 108]⟩]) := HT2.out.below hb3; have HBz : Hid (Below wc.heap.size wc v3) := bel HBz.out hb3; clear hb3)
  try (go_wp2_with fail)
  refine hK.out _ _ ?_ (fun hHeld => ?_)
  ·((try dsimp only); first | exact HSE.out | exact fun j h1 _ => HBz.out.block j h1 | exact fun j _ _ => rfl)
  clear hK K
  try simp only [Act.put, List.setIfInBounds_toArray, List.set_cons_zero, List.set_cons_succ]
  clear hHeld
  refine wpAnyH_ready (rs := [5]) (by kernel_rfl) (by simp) ?_
  refine AllReadyH.cons (i := 5) (by simp only [List.getElem?_toArray, List.getElem?_cons_succ, List.getElem?_cons_zero]; rfl) (fun K hK => ?_) AllReadyH.nil
  go_simp
  (go_at_call 65; (with_reducible refine (HRT.out _ HBz.out).mono ?_); rintro e v5 ⟨p5, c5, rfl, hk5, hb5⟩; have HK5 : Hid (Kids v5 (inH (fun j => S j ∨ w.heap.size + 1 < j)) (.slice p5 rl.length c5) rl) := hk5; clear hk5; have HT2 : Hid (StrsA v5 (some ⟨G2, 0, none⟩) [⟨#[100, 101, 99, 97, 121]⟩, ⟨#[101, 112, 115]⟩, ⟨#[105, 110, 105, 116, 105, 97, 108]⟩]) := HT2.out.below hb5; have HK3 : Hid (Kids v5 (inH (fun j => S j ∨ w.heap.size + 1 < j)) (.slice p3 3 c3) [x_decay, x_eps, x_initial]) := HK3.out.below hb5; have HBz : Hid (Below wc.heap.size wc v5) := bel HBz.out hb5; clear hb5)
  try (go_wp2_with fail)
  refine hK.out _ _ ?_ (fun hHeld => ?_)
  ·((try dsimp only); first | exact HSE.out | exact fun j h1 _ => HBz.out.block j h1 | exact fun j _ _ => rfl)
  clear hK K
  try simp only [Act.put, List.setIfInBounds_toArray, List.set_cons_zero, List.set_cons_succ]
  clear hHeld
  refine wpAnyH_ready (rs := [7]) (by kernel_rfl) (by simp) ?_
  refine AllReadyH.cons (i := 7) (by simp only [List.getElem?_toArray, List.getElem?_cons_succ, List.getElem?_cons_zero]; rfl) (fun K hK => ?_) AllReadyH.nil
  go_simp
  have hk7 := kids_row (w := v5) (S := (fun j => S j ∨ w.heap.size + 1 < j)) (R := [(madeN a ⟨#[115, 99, 97, 108, 101, 95, 98, 121, 95, 114, 109, 115]⟩ [x_decay, x_eps, x_initial], .slice p3 3 c3), (madeN a rnm rl, .slice p5 rl.length c5), (madeN a ⟨#[116, 114, 97, 99, 101]⟩ [x_momentum, (⟨4, ⟨#[102, 97, 108, 115, 101]⟩, 0, 0, ⟨#[]⟩, [], a⟩ : Nd)], .slice (some ⟨GG, 0, none⟩) 2 2)]) (cs := #[.int .i64 1, .string ⟨#[115, 99, 97, 108, 101, 95, 98, 121, 95, 114, 109, 115]⟩, .int .u32 0, .int .i64 0, .string ⟨#[]⟩, .slice p3 3 c3, .int .i64 a, .int .i64 1, .string rnm, .int .u32 0, .int .i64 0, .string ⟨#[]⟩, .slice p5 rl.length c5, .int .i64 a, .int .i64 1, .string ⟨#[116, 114, 97, 99, 101]⟩, .int .u32 0, .int .i64 0, .string ⟨#[]⟩, .slice (some ⟨GG, 0, none⟩) 2 2, .int .i64 a]) rfl (List.forall_mem_cons.2 ⟨HK3.out, List.forall_mem_cons.2 ⟨HK5.out, List.forall_mem_cons.2 ⟨(HKG0.out _ HBz.out), fun r h => by cases h⟩⟩⟩) (.inr (by have := HBz.out.size; have := HSZ.out; omega)) (by simp)
  obtain ⟨G7, hG7⟩ : ∃ G, v5.heap.size = G := ⟨_, rfl⟩
  have hb7 : Below v5.heap.size v5 (v5.alloc (.cells #[.int .i64 1, .string ⟨#[115, 99, 97, 108, 101, 95, 98, 121, 95, 114, 109, 115]⟩, .int .u32 0, .int .i64 0, .string ⟨#[]⟩, .slice p3 3 c3, .int .i64 a, .int .i64 1, .string rnm, .int .u32 0, .int .i64 0, .string ⟨#[]⟩, .slice p5 rl.length c5, .int .i64 a, .int .i64 1, .string ⟨#[116, 114, 97, 99, 101]⟩, .int .u32 0, .int .i64 0, .string ⟨#[]⟩, .slice (some ⟨GG, 0, none⟩) 2 2, .int .i64 a] 29)) := bel_alloc _ _
  obtain ⟨v7, hv7⟩ : ∃ V, v5.alloc (.cells #[.int .i64 1, .string ⟨#[115, 99, 97, 108, 101, 95, 98, 121, 95, 114, 109, 115]⟩, .int .u32 0, .int .i64 0, .string ⟨#[]⟩, .slice p3 3 c3, .int .i64 a, .int .i64 1, .string rnm, .int .u32 0, .int .i64 0, .string ⟨#[]⟩, .slice p5 rl.length c5, .int .i64 a, .int .i64 1, .string ⟨#[116, 114, 97, 99, 101]⟩, .int .u32 0, .int .i64 0, .string ⟨#[]⟩, .slice (some ⟨GG, 0, none⟩) 2 2, .int .i64 a] 29) = V := ⟨_, rfl⟩
  rw [hG7] at hk7
  rw [hv7] at hb7
  have HK7 : Hid (Kids v7 (inH (fun j => S j ∨ w.heap.size + 1 < j)) (.slice (some ⟨G7, 0, none⟩) 3 3) [madeN a ⟨#[115, 99, 97, 108, 101, 95, 98, 121, 95, 114, 109, 115]⟩ [x_decay, x_eps, x_initial], madeN a rnm rl, madeN a ⟨#[116, 114, 97, 99, 101]⟩ [x_momentum, (⟨4, ⟨#[102, 97, 108, 115, 101]⟩, 0, 0, ⟨#[]⟩, [], a⟩ : Nd)]]) := by have := hk7; rw [hv7] at this; exact this
  have HT2 : Hid (StrsA v7 (some ⟨G2, 0, none⟩) [⟨#[100, 101, 99, 97, 121]⟩, ⟨#[101, 112, 115]⟩, ⟨#[105, 110, 105, 116, 105, 97, 108]⟩]) := HT2.out.below hb7
  have HK3 : Hid (Kids v7 (inH (fun j => S j ∨ w.heap.size + 1 < j)) (.slice p3 3 c3) [x_decay, x_eps, x_initial]) := HK3.out.below hb7
  have HK5 : Hid (Kids v7 (inH (fun j => S j ∨ w.heap.size + 1 < j)) (.slice p5 rl.length c5) rl) := HK5.out.below hb7
  have HBz : Hid (Below wc.heap.size wc v7) := bel HBz.out hb7
  rw [hv7, hG7]
  clear hk7 hv7 hG7 hb7
  refine hK.out _ _ ?_ (fun hHeld => ?_)
  ·((try dsimp only); first | exact HSE.out | exact fun j h1 _ => HBz.out.block j h1 | exact fun j _ _ => rfl)
  clear hK K
  try simp only [Act.put, List.setIfInBounds_toArray, List.set_cons_zero, List.set_cons_succ]
  clear hHeld
  refine wpAnyH_ready (rs := [8]) (by kernel_rfl) (by simp) ?_
  refine AllReadyH.cons (i := 8) (by simp only [List.getElem?_toArray, List.getElem?_cons_succ, List.getElem?_cons_zero]; rfl) (fun K hK => ?_) AllReadyH.nil
  go_simp
  (go_at_call 68; (with_reducible refine (HCA8.out _ _ _ _).mono ?_); rintro e v8 ⟨rfl, hb8⟩; have HT2 : Hid (StrsA v8 (some ⟨G2, 0, none⟩) [⟨#[100, 101, 99, 97, 121]⟩, ⟨#[101, 112, 115]⟩, ⟨#[105, 110, 105, 116, 105, 97, 108]⟩]) := HT2.out.below hb8; have HK3 : Hid (Kids v8 (inH (fun j => S j ∨ w.heap.size + 1 < j)) (.slice p3 3 c3) [x_decay, x_eps, x_initial]) := HK3.out.below hb8; have HK5 : Hid (Kids v8 (inH (fun j => S j ∨ w.heap.size + 1 < j)) (.slice p5 rl.length c5) rl) := HK5.out.below hb8; have HK7 : Hid (Kids v8 (inH (fun j => S j ∨ w.heap.size + 1 < j)) (.slice (some ⟨G7, 0, none⟩) 3 3) [madeN a ⟨#[115, 99, 97, 108, 101, 95, 98, 121, 95, 114, 109, 115]⟩ [x_decay, x_eps, x_initial], madeN a rnm rl, madeN a ⟨#[116, 114, 97, 99, 101]⟩ [x_momentum, (⟨4, ⟨#[102, 97, 108, 115, 101]⟩, 0, 0, ⟨#[]⟩, [], a⟩ : Nd)]]) := HK7.out.below hb8; have HBz : Hid (Below wc.heap.size wc v8) := bel HBz.out hb8; clear hb8)
  try (go_wp2_with fail)
  refine hK.out _ _ ?_ (fun hHeld => ?_)
  ·((try dsimp only); first | exact HSE.out | exact fun j h1 _ => HBz.out.block j h1 | exact fun j _ _ => rfl)
  clear hK K
  try simp only [Act.put, List.setIfInBounds_toArray, List.set_cons_zero, List.set_cons_succ]
  clear hHeld
  refine wpAnyH_ready (rs := [9]) (by kernel_rfl) (by simp) ?_
  refine AllReadyH.cons (i := 9) (by simp only [List.getElem?_toArray, List.getElem?_cons_succ, List.getElem?_cons_zero]; rfl) (fun K hK => ?_) AllReadyH.nil
  obtain ⟨⟨s0, s1, s2, s3, s4, s5, s6⟩, r0, r1, r2, r3, r4, r5, r6⟩ := sevenA (HTW.out.below HBz.out).2.2
  go_simp
  have hoff := offS_seven v8 (w.heap.size + 1) (.int .i64 1) (.string ⟨#[99, 104, 97, 105, 110]⟩) (.int .u32 0) (.int .i64 0) (.string ⟨#[]⟩) (.slice (some ⟨G7, 0, none⟩) 3 3) (.int .i64 a)
  have hosz := size_sevenS v8 (w.heap.size + 1) (.int .i64 1) (.string ⟨#[99, 104, 97, 105, 110]⟩) (.int .u32 0) (.int .i64 0) (.string ⟨#[]⟩) (.slice (some ⟨G7, 0, none⟩) 3 3) (.int .i64 a)
  have hdone := (HTW.out.below HBz.out).done (.int .i64 1) (.string ⟨#[99, 104, 97, 105, 110]⟩) (.int .u32 0) (.int .i64 0) (.string ⟨#[]⟩) (.slice (some ⟨G7, 0, none⟩) 3 3) (.int .i64 a)
  have hsv := put_sevenA (HTW.out.below HBz.out).2.2 (.int .i64 1) (.string ⟨#[99, 104, 97, 105, 110]⟩) (.int .u32 0) (.int .i64 0) (.string ⟨#[]⟩) (.slice (some ⟨G7, 0, none⟩) 3 3) (.int .i64 a)
  have HSzz : Hid (∀ j, j < wc.heap.size → j ≠ w.heap.size + 1 → ((((((((v8.setCell ⟨w.heap.size + 1, 0, none⟩ (.int .i64 1)).setCell ⟨w.heap.size + 1, 1, none⟩ (.string ⟨#[99, 104, 97, 105, 110]⟩)).setCell ⟨w.heap.size + 1, 2, none⟩ (.int .u32 0)).setCell ⟨w.heap.size + 1, 3, none⟩ (.int .i64 0)).setCell ⟨w.heap.size + 1, 4, none⟩ (.string ⟨#[]⟩)).setCell ⟨w.heap.size + 1, 5, none⟩ (.slice (some ⟨G7, 0, none⟩) 3 3)).setCell ⟨w.heap.size + 1, 6, none⟩ (.int .i64 a))).heap[j]? = wc.heap[j]?) := fun j h1 h2 => (hoff.sameSize hosz (by exact h2)).trans (HBz.out.block j h1)
  obtain ⟨vE, hvE⟩ : ∃ V, (((((((v8.setCell ⟨w.heap.size + 1, 0, none⟩ (.int .i64 1)).setCell ⟨w.heap.size + 1, 1, none⟩ (.string ⟨#[99, 104, 97, 105, 110]⟩)).setCell ⟨w.heap.size + 1, 2, none⟩ (.int .u32 0)).setCell ⟨w.heap.size + 1, 3, none⟩ (.int .i64 0)).setCell ⟨w.heap.size + 1, 4, none⟩ (.string ⟨#[]⟩)).setCell ⟨w.heap.size + 1, 5, none⟩ (.slice (some ⟨G7, 0, none⟩) 3 3)).setCell ⟨w.heap.size + 1, 6, none⟩ (.int .i64 a)) = V := ⟨_, rfl⟩
  rw [hvE] at hdone hsv HSzz
  try rw [hvE]
  have HSE := HSzz
  have HEND : Hid (Below w.heap.size w vE ∧ Kids vE (inH (fun j => S j ∨ w.heap.size + 1 < j)) (.slice (some ⟨G7, 0, none⟩) 3 3) [madeN a ⟨#[115, 99, 97, 108, 101, 95, 98, 121, 95, 114, 109, 115]⟩ [x_decay, x_eps, x_initial], madeN a rnm rl, madeN a ⟨#[116, 114, 97, 99, 101]⟩ [x_momentum, (⟨4, ⟨#[102, 97, 108, 115, 101]⟩, 0, 0, ⟨#[]⟩, [], a⟩ : Nd)]] ∧ vE.heap[w.heap.size + 1]? = some (.cells #[.int .i64 1, .string ⟨#[99, 104, 97, 105, 110]⟩, .int .u32 0, .int .i64 0, .string ⟨#[]⟩, .slice (some ⟨G7, 0, none⟩) 3 3, .int .i64 a] 29)) := ⟨hdone.1, hdone.2 _ _ _ (fun j h => by rcases h with h | h; (have := (HSB.out j (.inr h)).2; omega); omega) HK7.out, hsv⟩
  clear hoff hosz hdone hsv hvE s0 s1 s2 s3 s4 s5 s6 r0 r1 r2 r3 r4 r5 r6
  refine hK.out _ _ ?_ (fun hHeld => ?_)
  ·((try dsimp only); first | exact HSE.out | exact fun j h1 _ => HBz.out.block j h1 | exact fun j _ _ => rfl)
  clear hK K
  try simp only [Act.put, List.setIfInBounds_toArray, List.set_cons_zero, List.set_cons_succ]
  refine wpAnyH_done (by kernel_rfl) ?_ _
  go_wp2
  obtain ⟨⟨s0, s1, s2, s3, s4, s5, s6⟩, r0, r1, r2, r3, r4, r5, r6⟩ := sevenA HEND.out.2.2
  refine bodyPost_ret (by simp [results, Tryz.results72, go_sem, s0, s1, s2, s3, s4, s5, s6]; try rfl) rfl ?_
  exact ⟨_, _, rfl, HEND.out.2.1, HEND.out.1⟩
end Go.Proofs.YtmiidhgbdecdkaaGreat
