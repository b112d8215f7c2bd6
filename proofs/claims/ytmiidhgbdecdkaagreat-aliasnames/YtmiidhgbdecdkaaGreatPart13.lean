import Derived.Test.YtmiidhgbdecdkaaGreatPart9
namespace Go.Proofs.YtmiidhgbdecdkaaGreat
open Go.RowKit
set_option linter.unusedVariables false
set_option linter.unusedSimpArgs false
def okR (r : Nd) : Prop := (0 ≤ r.num ∧ r.num < 4294967296) ∧ (r.kind = 3 → -2147483648 ≤ r.int_ ∧ r.int_ ≤ 2147483647)
set_option maxRecDepth 100000 in
set_option maxHeartbeats 4000000 in
theorem rated_num (b n : Nat) (a : Int) (nd : ByteArray → Option Nd) (S : Blk) (r : Nd) (w : World) (hr : nd ⟨#[114, 97, 116, 101]⟩ = some r) (hk : (r.kind == 2) = true) (h0 : 0 ≤ r.num) (h1 : r.num < 4294967296) (hS : ∀ j, S j → j < w.heap.size) (hp : PM w b n nd S) :
  Calls Tryz.prog 65 #[.agg #[.map (some b), .int .i64 a]] w fun e w' => ∃ p c, e = .returned (.agg #[.int .i64 1, .string ⟨#[115, 99, 97, 108, 101]⟩, .int .u32 0, .int .i64 0, .string ⟨#[]⟩, .slice p 1 c, .int .i64 a]) ∧ Kids w' (inH (fun j => S j ∨ w.heap.size + 1 < j)) (.slice p 1 c) [(⟨2, ⟨#[]⟩, fneg r.num, 0, ⟨#[]⟩, [], r.at_⟩ : Nd)] ∧ Below w.heap.size w w' := by
 have HNB : Hid (0 ≤ r.num ∧ r.num < 4294967296) := ⟨h0, h1⟩
 obtain ⟨W, hW, hT⟩ := TwoB.start w b a
 have HPW : Hid (PM W b n nd S) := hp.below hT.1
 have HSW : Hid (∀ j, (j = b ∨ S j) → j < w.heap.size) := fun j hj => by
  rcases hj with rfl | hj
  ·obtain ⟨f, h, _⟩ := hp; exact h.lt
  ·exact hS j hj
 obtain ⟨pl, cl, hl⟩ := HPW.out.offs (k := ⟨#[114, 97, 116, 101]⟩) (by decide) hr
 have hl0 := (hl W fun _ _ => rfl).1
 unfold nv at hl0
 have HLA : Hid (∀ x, (∀ j, (j = b ∨ S j) → x.heap[j]? = W.heap[j]?) → Kids x (inH S) (.slice pl r.args.length cl) r.args) := fun x hx => (hl x hx).2
 have HTX : Hid (TwoB w b a W) := hT
 obtain ⟨⟨g0, g1⟩, -⟩ := twoC hT.2.1
 obtain ⟨W3, hW3, hX3, hB3, -⟩ := new_box W
 obtain ⟨⟨q0, q1, q2, q3, q4, q5, q6⟩, r0, r1, r2, r3, r4, r5, r6⟩ := sevenA hX3
 have HX3 : Hid (W3.heap[W.heap.size]? = some (.cells #[.int .i64 0, .string ⟨#[]⟩, .int .u32 0, .int .i64 0, .string ⟨#[]⟩, .slice none 0 0, .int .i64 0] 29)) := hX3
 have HB3 : Hid (Below W.heap.size W W3) := hB3
 clear hT hp hS hr hl hX3 hB3
 go_enter Tryz.func65, Tryz.ntmps65
 go_upto_region 2 with fail
 clear q0 q1 q2 q3 q4 q5 q6 r0 r1 r2 r3 r4 r5 r6 hl0 g0 g1
 obtain ⟨O, hO⟩ : ∃ O, W.heap.size = O := ⟨_, rfl⟩
 have hoff := offS_seven W3 W.heap.size (.int .i64 r.kind) (.string r.name) (.int .u32 r.num) (.int .i64 r.int_) (.string r.key) (.slice pl r.args.length cl) (.int .i64 r.at_)
 have hosz := size_sevenS W3 W.heap.size (.int .i64 r.kind) (.string r.name) (.int .u32 r.num) (.int .i64 r.int_) (.string r.key) (.slice pl r.args.length cl) (.int .i64 r.at_)
 have hput := put_sevenA HX3.out (.int .i64 r.kind) (.string r.name) (.int .u32 r.num) (.int .i64 r.int_) (.string r.key) (.slice pl r.args.length cl) (.int .i64 r.at_)
 have hbU : Below W.heap.size W (((((((W3.setCell ⟨W.heap.size, 0, none⟩ (.int .i64 r.kind)).setCell ⟨W.heap.size, 1, none⟩ (.string r.name)).setCell ⟨W.heap.size, 2, none⟩ (.int .u32 r.num)).setCell ⟨W.heap.size, 3, none⟩ (.int .i64 r.int_)).setCell ⟨W.heap.size, 4, none⟩ (.string r.key)).setCell ⟨W.heap.size, 5, none⟩ (.slice pl r.args.length cl)).setCell ⟨W.heap.size, 6, none⟩ (.int .i64 r.at_)) := hoff.below HB3.out (fun j hj => by have := HB3.out.size; omega) (fun j hj e => by have e : j = W.heap.size := e; omega)
 obtain ⟨U, hU⟩ : ∃ U, (((((((W3.setCell ⟨W.heap.size, 0, none⟩ (.int .i64 r.kind)).setCell ⟨W.heap.size, 1, none⟩ (.string r.name)).setCell ⟨W.heap.size, 2, none⟩ (.int .u32 r.num)).setCell ⟨W.heap.size, 3, none⟩ (.int .i64 r.int_)).setCell ⟨W.heap.size, 4, none⟩ (.string r.key)).setCell ⟨W.heap.size, 5, none⟩ (.slice pl r.args.length cl)).setCell ⟨W.heap.size, 6, none⟩ (.int .i64 r.at_)) = U := ⟨_, rfl⟩
 rw [hU] at hput hbU ⊢
 have HTW : Hid (TwoB w b a U) := HTX.out.below hbU
 have HSZ : Hid (w.heap.size + 2 ≤ U.heap.size) := hlt HTW.out.2.2
 have HPM : Hid (PM U b n nd S) := HPW.out.below hbU
 have HWS : Hid (w.heap.size + 2 ≤ W.heap.size) := hlt HTX.out.2.2
 have HSB : Hid (∀ j, (j = b ∨ S j) → j < U.heap.size ∧ j ≠ w.heap.size + 1) := fun j hj => by have := HSW.out j hj; have := HSZ.out; omega
 have HKG0 : Hid (∀ x, Below U.heap.size U x → Kids x (inH S) (.slice pl r.args.length cl) r.args) := fun x hx => HLA.out x fun j hj => (hx.block j (by have := HSW.out j hj; have := HSZ.out; omega)).trans (hbU.block j (by have := HSW.out j hj; have := HWS.out; omega))
 have HON : Hid (O ≠ w.heap.size + 1) := by show O ≠ _; have := HWS.out; omega
 rw [hO] at hput ⊢
 obtain ⟨⟨q0, q1, q2, q3, q4, q5, q6⟩, -⟩ := sevenA hput
 obtain ⟨⟨g0, g1⟩, -⟩ := twoC HTW.out.2.1
 have HBz : Hid (Below U.heap.size U U) := Below.refl _ _
 clear hoff hosz hput hbU hU hO hW3 hW HX3 HB3 HTX HPW HLA
 have HCA5 : Hid (∀ (x : World), Calls Tryz.prog 105 #[.int .u32 r.num, .int .i64 r.at_] x fun e w' => e = .returned (.agg #[.int .i64 2, .string ⟨#[]⟩, .int .u32 (fneg r.num), .int .i64 0, .string ⟨#[]⟩, .slice none 0 0, .int .i64 r.at_]) ∧ Below x.heap.size x w') := fun x => negative_any r.num r.at_ HNB.out.1 HNB.out.2 x
 have HCA7 : Hid (∀ (q : Option Addr) (m c : Nat) (x : World), Calls Tryz.prog 73 #[.agg #[.map (some b), .int .i64 a], .string ⟨#[115, 99, 97, 108, 101]⟩, .slice q m c] x fun e w' => e = .returned (.agg #[.int .i64 1, .string ⟨#[115, 99, 97, 108, 101]⟩, .int .u32 0, .int .i64 0, .string ⟨#[]⟩, .slice q m c, .int .i64 a]) ∧ Below x.heap.size x w') := fun q m c x => pcall_any b a ⟨#[115, 99, 97, 108, 101]⟩ q m c x
 go_upto_region 4 with fail
 refine wp_region_held_drew (S := (fun x => ∀ j, j < U.heap.size → j ≠ w.heap.size + 1 → x.heap[j]? = U.heap[j]?)) (by kernel_rfl) ?_ (fun hHeld => ?_)
 ·((try dsimp only); first | exact HSE.out | exact fun j h1 _ => HBz.out.block j h1 | exact fun j _ _ => rfl)
 refine wpAnyH_take (i := 0) (v := ?_) (by simp only [List.getElem?_toArray, List.getElem?_cons_succ, List.getElem?_cons_zero]; rfl) (by kernel_rfl) (by kernel_rfl) (by kernel_rfl) (by exact fun _ _ _ h => h) (Or.inl ⟨by rfl, ?_⟩) (by assumption) ?_
 rotate_left 1
 ·(intro wS hSw; have hSb : ∀ j, j < U.heap.size → j ≠ w.heap.size + 1 → wS.heap[j]? = U.heap[j]? := hSw; clear hSw; have zp := (cell_to hSb (by simp) g0); have zq := (cell_to hSb (by simp) g1); have y0 := cell_to hSb HON.out q0; have y1 := cell_to hSb HON.out q1; have y2 := cell_to hSb HON.out q2; have y3 := cell_to hSb HON.out q3; have y4 := cell_to hSb HON.out q4; have y5 := cell_to hSb HON.out q5; have y6 := cell_to hSb HON.out q6; go_simp; try (with_reducible rfl))
 try simp only [Act.put, List.setIfInBounds_toArray, List.set_cons_zero, List.set_cons_succ]
 refine wpAnyH_take (i := 1) (v := ?_) (by simp only [List.getElem?_toArray, List.getElem?_cons_succ, List.getElem?_cons_zero]; rfl) (by kernel_rfl) (by kernel_rfl) (by kernel_rfl) (by exact fun _ _ _ h => h) (Or.inl ⟨by rfl, ?_⟩) (by assumption) ?_
 rotate_left 1
 ·(intro wS hSw; have hSb : ∀ j, j < U.heap.size → j ≠ w.heap.size + 1 → wS.heap[j]? = U.heap[j]? := hSw; clear hSw; have zp := (cell_to hSb (by simp) g0); have zq := (cell_to hSb (by simp) g1); have y0 := cell_to hSb HON.out q0; have y1 := cell_to hSb HON.out q1; have y2 := cell_to hSb HON.out q2; have y3 := cell_to hSb HON.out q3; have y4 := cell_to hSb HON.out q4; have y5 := cell_to hSb HON.out q5; have y6 := cell_to hSb HON.out q6; go_simp; try (with_reducible rfl))
 try simp only [Act.put, List.setIfInBounds_toArray, List.set_cons_zero, List.set_cons_succ]
 refine wpAnyH_take (i := 2) (v := ?_) (by simp only [List.getElem?_toArray, List.getElem?_cons_succ, List.getElem?_cons_zero]; rfl) (by kernel_rfl) (by kernel_rfl) (by kernel_rfl) (by exact fun _ _ _ h => h) (Or.inl ⟨by rfl, ?_⟩) (by assumption) ?_
 rotate_left 1
 ·(intro wS hSw; have hSb : ∀ j, j < U.heap.size → j ≠ w.heap.size + 1 → wS.heap[j]? = U.heap[j]? := hSw; clear hSw; have zp := (cell_to hSb (by simp) g0); have zq := (cell_to hSb (by simp) g1); have y0 := cell_to hSb HON.out q0; have y1 := cell_to hSb HON.out q1; have y2 := cell_to hSb HON.out q2; have y3 := cell_to hSb HON.out q3; have y4 := cell_to hSb HON.out q4; have y5 := cell_to hSb HON.out q5; have y6 := cell_to hSb HON.out q6; go_simp; try (with_reducible rfl))
 try simp only [Act.put, List.setIfInBounds_toArray, List.set_cons_zero, List.set_cons_succ]
 refine wpAnyH_take (i := 3) (v := ?_) (by simp only [List.getElem?_toArray, List.getElem?_cons_succ, List.getElem?_cons_zero]; rfl) (by kernel_rfl) (by kernel_rfl) (by kernel_rfl) (by exact fun _ _ _ h => h) (Or.inl ⟨by rfl, ?_⟩) (by assumption) ?_
 rotate_left 1
 ·(intro wS hSw; have hSb : ∀ j, j < U.heap.size → j ≠ w.heap.size + 1 → wS.heap[j]? = U.heap[j]? := hSw; clear hSw; have zp := (cell_to hSb (by simp) g0); have zq := (cell_to hSb (by simp) g1); have y0 := cell_to hSb HON.out q0; have y1 := cell_to hSb HON.out q1; have y2 := cell_to hSb HON.out q2; have y3 := cell_to hSb HON.out q3; have y4 := cell_to hSb HON.out q4; have y5 := cell_to hSb HON.out q5; have y6 := cell_to hSb HON.out q6; go_simp; try (with_reducible rfl))
 try simp only [Act.put, List.setIfInBounds_toArray, List.set_cons_zero, List.set_cons_succ]
 refine wpAnyH_take (i := 4) (v := ?_) (by simp only [List.getElem?_toArray, List.getElem?_cons_succ, List.getElem?_cons_zero]; rfl) (by kernel_rfl) (by kernel_rfl) (by kernel_rfl) (by exact fun _ _ _ h => h) (Or.inl ⟨by rfl, ?_⟩) (by assumption) ?_
 rotate_left 1
 ·(intro wS hSw; have hSb : ∀ j, j < U.heap.size → j ≠ w.heap.size + 1 → wS.heap[j]? = U.heap[j]? := hSw; clear hSw; have zp := (cell_to hSb (by simp) g0); have zq := (cell_to hSb (by simp) g1); have y0 := cell_to hSb HON.out q0; have y1 := cell_to hSb HON.out q1; have y2 := cell_to hSb HON.out q2; have y3 := cell_to hSb HON.out q3; have y4 := cell_to hSb HON.out q4; have y5 := cell_to hSb HON.out q5; have y6 := cell_to hSb HON.out q6; go_simp; try (with_reducible rfl))
 try simp only [Act.put, List.setIfInBounds_toArray, List.set_cons_zero, List.set_cons_succ]
 clear hHeld
 refine wpAnyH_ready (rs := [5]) (by kernel_rfl) (by simp) ?_
 refine AllReadyH.cons (i := 5) (by simp only [List.getElem?_toArray, List.getElem?_cons_succ, List.getElem?_cons_zero]; rfl) (fun K hK => ?_) AllReadyH.nil
 go_simp
 (go_at_call 105; (with_reducible refine (HCA5.out _).mono ?_); rintro e v5 ⟨rfl, hb5⟩; have HBz : Hid (Below U.heap.size U v5) := bel (bel HBz.out (bel_d _)) hb5; clear hb5)
 try (go_wp2_with fail)
 refine hK.out _ _ ?_ (fun hHeld => ?_)
 ·((try dsimp only); first | exact HSE.out | exact fun j h1 _ => HBz.out.block j h1 | exact fun j _ _ => rfl)
 clear hK K
 try simp only [Act.put, List.setIfInBounds_toArray, List.set_cons_zero, List.set_cons_succ]
 clear hHeld
 refine wpAnyH_ready (rs := [6]) (by kernel_rfl) (by simp) ?_
 refine AllReadyH.cons (i := 6) (by simp only [List.getElem?_toArray, List.getElem?_cons_succ, List.getElem?_cons_zero]; rfl) (fun K hK => ?_) AllReadyH.nil
 go_simp
 have hk6 := kids_row (w := v5) (S := (fun j => S j ∨ w.heap.size + 1 < j)) (R := [((⟨2, ⟨#[]⟩, fneg r.num, 0, ⟨#[]⟩, [], r.at_⟩ : Nd), .slice none 0 0)]) (cs := #[.int .i64 2, .string ⟨#[]⟩, .int .u32 (fneg r.num), .int .i64 0, .string ⟨#[]⟩, .slice none 0 0, .int .i64 r.at_]) rfl (List.forall_mem_cons.2 ⟨(kids_none _ _), fun r h => by cases h⟩) (.inr (by have := HBz.out.size; have := HSZ.out; omega)) (by simp)
 obtain ⟨G6, hG6⟩ : ∃ G, v5.heap.size = G := ⟨_, rfl⟩
 have hb6 : Below v5.heap.size v5 (v5.alloc (.cells #[.int .i64 2, .string ⟨#[]⟩, .int .u32 (fneg r.num), .int .i64 0, .string ⟨#[]⟩, .slice none 0 0, .int .i64 r.at_] 29)) := bel_alloc _ _
 obtain ⟨v6, hv6⟩ : ∃ V, v5.alloc (.cells #[.int .i64 2, .string ⟨#[]⟩, .int .u32 (fneg r.num), .int .i64 0, .string ⟨#[]⟩, .slice none 0 0, .int .i64 r.at_] 29) = V := ⟨_, rfl⟩
 rw [hG6] at hk6
 rw [hv6] at hb6
 have HK6 : Hid (Kids v6 (inH (fun j => S j ∨ w.heap.size + 1 < j)) (.slice (some ⟨G6, 0, none⟩) 1 1) [(⟨2, ⟨#[]⟩, fneg r.num, 0, ⟨#[]⟩, [], r.at_⟩ : Nd)]) := by have := hk6; rw [hv6] at this; exact this
 have HBz : Hid (Below U.heap.size U v6) := bel HBz.out hb6
 rw [hv6, hG6]
 clear hk6 hv6 hG6 hb6
 refine hK.out _ _ ?_ (fun hHeld => ?_)
 ·((try dsimp only); first | exact HSE.out | exact fun j h1 _ => HBz.out.block j h1 | exact fun j _ _ => rfl)
 clear hK K
 try simp only [Act.put, List.setIfInBounds_toArray, List.set_cons_zero, List.set_cons_succ]
 clear hHeld
 refine wpAnyH_ready (rs := [7]) (by kernel_rfl) (by simp) ?_
 refine AllReadyH.cons (i := 7) (by simp only [List.getElem?_toArray, List.getElem?_cons_succ, List.getElem?_cons_zero]; rfl) (fun K hK => ?_) AllReadyH.nil
 go_simp
 (go_at_call 73; (with_reducible refine (HCA7.out _ _ _ _).mono ?_); rintro e v7 ⟨rfl, hb7⟩; have HK6 : Hid (Kids v7 (inH (fun j => S j ∨ w.heap.size + 1 < j)) (.slice (some ⟨G6, 0, none⟩) 1 1) [(⟨2, ⟨#[]⟩, fneg r.num, 0, ⟨#[]⟩, [], r.at_⟩ : Nd)]) := HK6.out.below hb7; have HBz : Hid (Below U.heap.size U v7) := bel HBz.out hb7; clear hb7)
 try (go_wp2_with fail)
 refine hK.out _ _ ?_ (fun hHeld => ?_)
 ·((try dsimp only); first | exact HSE.out | exact fun j h1 _ => HBz.out.block j h1 | exact fun j _ _ => rfl)
 clear hK K
 try simp only [Act.put, List.setIfInBounds_toArray, List.set_cons_zero, List.set_cons_succ]
 clear hHeld
 refine wpAnyH_ready (rs := [8]) (by kernel_rfl) (by simp) ?_
 refine AllReadyH.cons (i := 8) (by simp only [List.getElem?_toArray, List.getElem?_cons_succ, List.getElem?_cons_zero]; rfl) (fun K hK => ?_) AllReadyH.nil
 obtain ⟨⟨s0, s1, s2, s3, s4, s5, s6⟩, r0, r1, r2, r3, r4, r5, r6⟩ := sevenA (HTW.out.below HBz.out).2.2
 go_simp
 have hoff := offS_seven v7 (w.heap.size + 1) (.int .i64 1) (.string ⟨#[115, 99, 97, 108, 101]⟩) (.int .u32 0) (.int .i64 0) (.string ⟨#[]⟩) (.slice (some ⟨G6, 0, none⟩) 1 1) (.int .i64 a)
 have hosz := size_sevenS v7 (w.heap.size + 1) (.int .i64 1) (.string ⟨#[115, 99, 97, 108, 101]⟩) (.int .u32 0) (.int .i64 0) (.string ⟨#[]⟩) (.slice (some ⟨G6, 0, none⟩) 1 1) (.int .i64 a)
 have hdone := (HTW.out.below HBz.out).done (.int .i64 1) (.string ⟨#[115, 99, 97, 108, 101]⟩) (.int .u32 0) (.int .i64 0) (.string ⟨#[]⟩) (.slice (some ⟨G6, 0, none⟩) 1 1) (.int .i64 a)
 have hsv := put_sevenA (HTW.out.below HBz.out).2.2 (.int .i64 1) (.string ⟨#[115, 99, 97, 108, 101]⟩) (.int .u32 0) (.int .i64 0) (.string ⟨#[]⟩) (.slice (some ⟨G6, 0, none⟩) 1 1) (.int .i64 a)
 have HSzz : Hid (∀ j, j < U.heap.size → j ≠ w.heap.size + 1 → ((((((((v7.setCell ⟨w.heap.size + 1, 0, none⟩ (.int .i64 1)).setCell ⟨w.heap.size + 1, 1, none⟩ (.string ⟨#[115, 99, 97, 108, 101]⟩)).setCell ⟨w.heap.size + 1, 2, none⟩ (.int .u32 0)).setCell ⟨w.heap.size + 1, 3, none⟩ (.int .i64 0)).setCell ⟨w.heap.size + 1, 4, none⟩ (.string ⟨#[]⟩)).setCell ⟨w.heap.size + 1, 5, none⟩ (.slice (some ⟨G6, 0, none⟩) 1 1)).setCell ⟨w.heap.size + 1, 6, none⟩ (.int .i64 a))).heap[j]? = U.heap[j]?) := fun j h1 h2 => (hoff.sameSize hosz (by exact h2)).trans (HBz.out.block j h1)
 obtain ⟨vE, hvE⟩ : ∃ V, (((((((v7.setCell ⟨w.heap.size + 1, 0, none⟩ (.int .i64 1)).setCell ⟨w.heap.size + 1, 1, none⟩ (.string ⟨#[115, 99, 97, 108, 101]⟩)).setCell ⟨w.heap.size + 1, 2, none⟩ (.int .u32 0)).setCell ⟨w.heap.size + 1, 3, none⟩ (.int .i64 0)).setCell ⟨w.heap.size + 1, 4, none⟩ (.string ⟨#[]⟩)).setCell ⟨w.heap.size + 1, 5, none⟩ (.slice (some ⟨G6, 0, none⟩) 1 1)).setCell ⟨w.heap.size + 1, 6, none⟩ (.int .i64 a)) = V := ⟨_, rfl⟩
 rw [hvE] at hdone hsv HSzz
 try rw [hvE]
 have HSE := HSzz
 have HEND : Hid (Below w.heap.size w vE ∧ Kids vE (inH (fun j => S j ∨ w.heap.size + 1 < j)) (.slice (some ⟨G6, 0, none⟩) 1 1) [(⟨2, ⟨#[]⟩, fneg r.num, 0, ⟨#[]⟩, [], r.at_⟩ : Nd)] ∧ vE.heap[w.heap.size + 1]? = some (.cells #[.int .i64 1, .string ⟨#[115, 99, 97, 108, 101]⟩, .int .u32 0, .int .i64 0, .string ⟨#[]⟩, .slice (some ⟨G6, 0, none⟩) 1 1, .int .i64 a] 29)) := ⟨hdone.1, hdone.2 _ _ _ (fun j h => by rcases h with h | h; (have := (HSB.out j (.inr h)).2; omega); omega) HK6.out, hsv⟩
 clear hoff hosz hdone hsv hvE s0 s1 s2 s3 s4 s5 s6 r0 r1 r2 r3 r4 r5 r6
 refine hK.out _ _ ?_ (fun hHeld => ?_)
 ·((try dsimp only); first | exact HSE.out | exact fun j h1 _ => HBz.out.block j h1 | exact fun j _ _ => rfl)
 clear hK K
 try simp only [Act.put, List.setIfInBounds_toArray, List.set_cons_zero, List.set_cons_succ]
 refine wpAnyH_done (by kernel_rfl) ?_ _
 go_wp2
 obtain ⟨⟨s0, s1, s2, s3, s4, s5, s6⟩, r0, r1, r2, r3, r4, r5, r6⟩ := sevenA HEND.out.2.2
 refine bodyPost_ret (by simp [results, Tryz.results65, go_sem, s0, s1, s2, s3, s4, s5, s6]; try rfl) rfl ?_
 exact ⟨_, _, rfl, HEND.out.2.1, HEND.out.1⟩
set_option maxRecDepth 100000 in
set_option maxHeartbeats 4000000 in
theorem rated_int (b n : Nat) (a : Int) (nd : ByteArray → Option Nd) (S : Blk) (r : Nd) (w : World) (hr : nd ⟨#[114, 97, 116, 101]⟩ = some r) (hk2 : (r.kind == 2) = false) (hk : (r.kind == 3) = true) (h0 : -2147483648 ≤ r.int_) (h1 : r.int_ ≤ 2147483647) (hS : ∀ j, S j → j < w.heap.size) (hp : PM w b n nd S) :
  Calls Tryz.prog 65 #[.agg #[.map (some b), .int .i64 a]] w fun e w' => ∃ p c, e = .returned (.agg #[.int .i64 1, .string ⟨#[115, 99, 97, 108, 101]⟩, .int .u32 0, .int .i64 0, .string ⟨#[]⟩, .slice p 1 c, .int .i64 a]) ∧ Kids w' (inH (fun j => S j ∨ w.heap.size + 1 < j)) (.slice p 1 c) [(⟨2, ⟨#[]⟩, fneg (ffrom r.int_), 0, ⟨#[]⟩, [], r.at_⟩ : Nd)] ∧ Below w.heap.size w w' := by
 have HNB : Hid (0 ≤ ffrom r.int_ ∧ ffrom r.int_ < 4294967296) := ffrom_lo r.int_
 have HFR : Hid (∀ x, Calls Tryz.prog 106 #[.int .i64 r.int_] x fun e w' => e = .returned (.int .u32 (ffrom r.int_)) ∧ Below x.heap.size x w') := fun x => (from_any r.int_ (by omega) (by omega) x).mono fun e w' h => ⟨h.1, by rw [h.2]; exact Below.refl _ _⟩
 obtain ⟨W, hW, hT⟩ := TwoB.start w b a
 have HPW : Hid (PM W b n nd S) := hp.below hT.1
 have HSW : Hid (∀ j, (j = b ∨ S j) → j < w.heap.size) := fun j hj => by
  rcases hj with rfl | hj
  ·obtain ⟨f, h, _⟩ := hp; exact h.lt
  ·exact hS j hj
 obtain ⟨pl, cl, hl⟩ := HPW.out.offs (k := ⟨#[114, 97, 116, 101]⟩) (by decide) hr
 have hl0 := (hl W fun _ _ => rfl).1
 unfold nv at hl0
 have HLA : Hid (∀ x, (∀ j, (j = b ∨ S j) → x.heap[j]? = W.heap[j]?) → Kids x (inH S) (.slice pl r.args.length cl) r.args) := fun x hx => (hl x hx).2
 have HTX : Hid (TwoB w b a W) := hT
 obtain ⟨⟨g0, g1⟩, -⟩ := twoC hT.2.1
 obtain ⟨W3, hW3, hX3, hB3, -⟩ := new_box W
 obtain ⟨⟨q0, q1, q2, q3, q4, q5, q6⟩, r0, r1, r2, r3, r4, r5, r6⟩ := sevenA hX3
 have HX3 : Hid (W3.heap[W.heap.size]? = some (.cells #[.int .i64 0, .string ⟨#[]⟩, .int .u32 0, .int .i64 0, .string ⟨#[]⟩, .slice none 0 0, .int .i64 0] 29)) := hX3
 have HB3 : Hid (Below W.heap.size W W3) := hB3
 clear hT hp hS hr hl hX3 hB3
 go_enter Tryz.func65, Tryz.ntmps65
 go_upto_region 2 with fail
 clear q0 q1 q2 q3 q4 q5 q6 r0 r1 r2 r3 r4 r5 r6 hl0 g0 g1
 obtain ⟨O, hO⟩ : ∃ O, W.heap.size = O := ⟨_, rfl⟩
 have hoff := offS_seven W3 W.heap.size (.int .i64 r.kind) (.string r.name) (.int .u32 r.num) (.int .i64 r.int_) (.string r.key) (.slice pl r.args.length cl) (.int .i64 r.at_)
 have hosz := size_sevenS W3 W.heap.size (.int .i64 r.kind) (.string r.name) (.int .u32 r.num) (.int .i64 r.int_) (.string r.key) (.slice pl r.args.length cl) (.int .i64 r.at_)
 have hput := put_sevenA HX3.out (.int .i64 r.kind) (.string r.name) (.int .u32 r.num) (.int .i64 r.int_) (.string r.key) (.slice pl r.args.length cl) (.int .i64 r.at_)
 have hbU : Below W.heap.size W (((((((W3.setCell ⟨W.heap.size, 0, none⟩ (.int .i64 r.kind)).setCell ⟨W.heap.size, 1, none⟩ (.string r.name)).setCell ⟨W.heap.size, 2, none⟩ (.int .u32 r.num)).setCell ⟨W.heap.size, 3, none⟩ (.int .i64 r.int_)).setCell ⟨W.heap.size, 4, none⟩ (.string r.key)).setCell ⟨W.heap.size, 5, none⟩ (.slice pl r.args.length cl)).setCell ⟨W.heap.size, 6, none⟩ (.int .i64 r.at_)) := hoff.below HB3.out (fun j hj => by have := HB3.out.size; omega) (fun j hj e => by have e : j = W.heap.size := e; omega)
 obtain ⟨U, hU⟩ : ∃ U, (((((((W3.setCell ⟨W.heap.size, 0, none⟩ (.int .i64 r.kind)).setCell ⟨W.heap.size, 1, none⟩ (.string r.name)).setCell ⟨W.heap.size, 2, none⟩ (.int .u32 r.num)).setCell ⟨W.heap.size, 3, none⟩ (.int .i64 r.int_)).setCell ⟨W.heap.size, 4, none⟩ (.string r.key)).setCell ⟨W.heap.size, 5, none⟩ (.slice pl r.args.length cl)).setCell ⟨W.heap.size, 6, none⟩ (.int .i64 r.at_)) = U := ⟨_, rfl⟩
 rw [hU] at hput hbU ⊢
 have HTW : Hid (TwoB w b a U) := HTX.out.below hbU
 have HSZ : Hid (w.heap.size + 2 ≤ U.heap.size) := hlt HTW.out.2.2
 have HPM : Hid (PM U b n nd S) := HPW.out.below hbU
 have HWS : Hid (w.heap.size + 2 ≤ W.heap.size) := hlt HTX.out.2.2
 have HSB : Hid (∀ j, (j = b ∨ S j) → j < U.heap.size ∧ j ≠ w.heap.size + 1) := fun j hj => by have := HSW.out j hj; have := HSZ.out; omega
 have HKG0 : Hid (∀ x, Below U.heap.size U x → Kids x (inH S) (.slice pl r.args.length cl) r.args) := fun x hx => HLA.out x fun j hj => (hx.block j (by have := HSW.out j hj; have := HSZ.out; omega)).trans (hbU.block j (by have := HSW.out j hj; have := HWS.out; omega))
 have HON : Hid (O ≠ w.heap.size + 1) := by show O ≠ _; have := HWS.out; omega
 rw [hO] at hput ⊢
 obtain ⟨⟨q0, q1, q2, q3, q4, q5, q6⟩, -⟩ := sevenA hput
 obtain ⟨⟨g0, g1⟩, -⟩ := twoC HTW.out.2.1
 have HBz : Hid (Below U.heap.size U U) := Below.refl _ _
 clear hoff hosz hput hbU hU hO hW3 hW HX3 HB3 HTX HPW HLA
 have HCA6 : Hid (∀ (x : World), Calls Tryz.prog 105 #[.int .u32 (ffrom r.int_), .int .i64 r.at_] x fun e w' => e = .returned (.agg #[.int .i64 2, .string ⟨#[]⟩, .int .u32 (fneg (ffrom r.int_)), .int .i64 0, .string ⟨#[]⟩, .slice none 0 0, .int .i64 r.at_]) ∧ Below x.heap.size x w') := fun x => negative_any (ffrom r.int_) r.at_ HNB.out.1 HNB.out.2 x
 have HCA8 : Hid (∀ (q : Option Addr) (m c : Nat) (x : World), Calls Tryz.prog 73 #[.agg #[.map (some b), .int .i64 a], .string ⟨#[115, 99, 97, 108, 101]⟩, .slice q m c] x fun e w' => e = .returned (.agg #[.int .i64 1, .string ⟨#[115, 99, 97, 108, 101]⟩, .int .u32 0, .int .i64 0, .string ⟨#[]⟩, .slice q m c, .int .i64 a]) ∧ Below x.heap.size x w') := fun q m c x => pcall_any b a ⟨#[115, 99, 97, 108, 101]⟩ q m c x
 go_upto_region 6 with fail
 refine wp_region_held_drew (S := (fun x => ∀ j, j < U.heap.size → j ≠ w.heap.size + 1 → x.heap[j]? = U.heap[j]?)) (by kernel_rfl) ?_ (fun hHeld => ?_)
 ·((try dsimp only); first | exact HSE.out | exact fun j h1 _ => HBz.out.block j h1 | exact fun j _ _ => rfl)
 refine wpAnyH_take (i := 0) (v := ?_) (by simp only [List.getElem?_toArray, List.getElem?_cons_succ, List.getElem?_cons_zero]; rfl) (by kernel_rfl) (by kernel_rfl) (by kernel_rfl) (by exact fun _ _ _ h => h) (Or.inl ⟨by rfl, ?_⟩) (by assumption) ?_
 rotate_left 1
 ·(intro wS hSw; have hSb : ∀ j, j < U.heap.size → j ≠ w.heap.size + 1 → wS.heap[j]? = U.heap[j]? := hSw; clear hSw; have zp := (cell_to hSb (by simp) g0); have zq := (cell_to hSb (by simp) g1); have y0 := cell_to hSb HON.out q0; have y1 := cell_to hSb HON.out q1; have y2 := cell_to hSb HON.out q2; have y3 := cell_to hSb HON.out q3; have y4 := cell_to hSb HON.out q4; have y5 := cell_to hSb HON.out q5; have y6 := cell_to hSb HON.out q6; go_simp; try (with_reducible rfl))
 try simp only [Act.put, List.setIfInBounds_toArray, List.set_cons_zero, List.set_cons_succ]
 refine wpAnyH_take (i := 1) (v := ?_) (by simp only [List.getElem?_toArray, List.getElem?_cons_succ, List.getElem?_cons_zero]; rfl) (by kernel_rfl) (by kernel_rfl) (by kernel_rfl) (by exact fun _ _ _ h => h) (Or.inl ⟨by rfl, ?_⟩) (by assumption) ?_
 rotate_left 1
 ·(intro wS hSw; have hSb : ∀ j, j < U.heap.size → j ≠ w.heap.size + 1 → wS.heap[j]? = U.heap[j]? := hSw; clear hSw; have zp := (cell_to hSb (by simp) g0); have zq := (cell_to hSb (by simp) g1); have y0 := cell_to hSb HON.out q0; have y1 := cell_to hSb HON.out q1; have y2 := cell_to hSb HON.out q2; have y3 := cell_to hSb HON.out q3; have y4 := cell_to hSb HON.out q4; have y5 := cell_to hSb HON.out q5; have y6 := cell_to hSb HON.out q6; go_simp; try (with_reducible rfl))
 try simp only [Act.put, List.setIfInBounds_toArray, List.set_cons_zero, List.set_cons_succ]
 refine wpAnyH_take (i := 2) (v := ?_) (by simp only [List.getElem?_toArray, List.getElem?_cons_succ, List.getElem?_cons_zero]; rfl) (by kernel_rfl) (by kernel_rfl) (by kernel_rfl) (by exact fun _ _ _ h => h) (Or.inl ⟨by rfl, ?_⟩) (by assumption) ?_
 rotate_left 1
 ·(intro wS hSw; have hSb : ∀ j, j < U.heap.size → j ≠ w.heap.size + 1 → wS.heap[j]? = U.heap[j]? := hSw; clear hSw; have zp := (cell_to hSb (by simp) g0); have zq := (cell_to hSb (by simp) g1); have y0 := cell_to hSb HON.out q0; have y1 := cell_to hSb HON.out q1; have y2 := cell_to hSb HON.out q2; have y3 := cell_to hSb HON.out q3; have y4 := cell_to hSb HON.out q4; have y5 := cell_to hSb HON.out q5; have y6 := cell_to hSb HON.out q6; go_simp; try (with_reducible rfl))
 try simp only [Act.put, List.setIfInBounds_toArray, List.set_cons_zero, List.set_cons_succ]
 refine wpAnyH_take (i := 4) (v := ?_) (by simp only [List.getElem?_toArray, List.getElem?_cons_succ, List.getElem?_cons_zero]; rfl) (by kernel_rfl) (by kernel_rfl) (by kernel_rfl) (by exact fun _ _ _ h => h) (Or.inl ⟨by rfl, ?_⟩) (by assumption) ?_
 rotate_left 1
 ·(intro wS hSw; have hSb : ∀ j, j < U.heap.size → j ≠ w.heap.size + 1 → wS.heap[j]? = U.heap[j]? := hSw; clear hSw; have zp := (cell_to hSb (by simp) g0); have zq := (cell_to hSb (by simp) g1); have y0 := cell_to hSb HON.out q0; have y1 := cell_to hSb HON.out q1; have y2 := cell_to hSb HON.out q2; have y3 := cell_to hSb HON.out q3; have y4 := cell_to hSb HON.out q4; have y5 := cell_to hSb HON.out q5; have y6 := cell_to hSb HON.out q6; go_simp; try (with_reducible rfl))
 try simp only [Act.put, List.setIfInBounds_toArray, List.set_cons_zero, List.set_cons_succ]
 refine wpAnyH_take (i := 5) (v := ?_) (by simp only [List.getElem?_toArray, List.getElem?_cons_succ, List.getElem?_cons_zero]; rfl) (by kernel_rfl) (by kernel_rfl) (by kernel_rfl) (by exact fun _ _ _ h => h) (Or.inl ⟨by rfl, ?_⟩) (by assumption) ?_
 rotate_left 1
 ·(intro wS hSw; have hSb : ∀ j, j < U.heap.size → j ≠ w.heap.size + 1 → wS.heap[j]? = U.heap[j]? := hSw; clear hSw; have zp := (cell_to hSb (by simp) g0); have zq := (cell_to hSb (by simp) g1); have y0 := cell_to hSb HON.out q0; have y1 := cell_to hSb HON.out q1; have y2 := cell_to hSb HON.out q2; have y3 := cell_to hSb HON.out q3; have y4 := cell_to hSb HON.out q4; have y5 := cell_to hSb HON.out q5; have y6 := cell_to hSb HON.out q6; go_simp; try (with_reducible rfl))
 try simp only [Act.put, List.setIfInBounds_toArray, List.set_cons_zero, List.set_cons_succ]
 clear hHeld
 refine wpAnyH_ready (rs := [3]) (by kernel_rfl) (by simp) ?_
 refine AllReadyH.cons (i := 3) (by simp only [List.getElem?_toArray, List.getElem?_cons_succ, List.getElem?_cons_zero]; rfl) (fun K hK => ?_) AllReadyH.nil
 go_simp
 (go_at_call 106; (with_reducible refine (HFR.out _).mono ?_); rintro e v3 ⟨rfl, hb3⟩; have HBz : Hid (Below U.heap.size U v3) := bel (bel HBz.out (bel_d _)) hb3; clear hb3)
 try (go_wp2_with fail)
 refine hK.out _ _ ?_ (fun hHeld => ?_)
 ·((try dsimp only); first | exact HSE.out | exact fun j h1 _ => HBz.out.block j h1 | exact fun j _ _ => rfl)
 clear hK K
 try simp only [Act.put, List.setIfInBounds_toArray, List.set_cons_zero, List.set_cons_succ]
 clear hHeld
 refine wpAnyH_ready (rs := [6]) (by kernel_rfl) (by simp) ?_
 refine AllReadyH.cons (i := 6) (by simp only [List.getElem?_toArray, List.getElem?_cons_succ, List.getElem?_cons_zero]; rfl) (fun K hK => ?_) AllReadyH.nil
 go_simp
 (go_at_call 105; (with_reducible refine (HCA6.out _).mono ?_); rintro e v6 ⟨rfl, hb6⟩; have HBz : Hid (Below U.heap.size U v6) := bel HBz.out hb6; clear hb6)
 try (go_wp2_with fail)
 refine hK.out _ _ ?_ (fun hHeld => ?_)
 ·((try dsimp only); first | exact HSE.out | exact fun j h1 _ => HBz.out.block j h1 | exact fun j _ _ => rfl)
 clear hK K
 try simp only [Act.put, List.setIfInBounds_toArray, List.set_cons_zero, List.set_cons_succ]
 clear hHeld
 refine wpAnyH_ready (rs := [7]) (by kernel_rfl) (by simp) ?_
 refine AllReadyH.cons (i := 7) (by simp only [List.getElem?_toArray, List.getElem?_cons_succ, List.getElem?_cons_zero]; rfl) (fun K hK => ?_) AllReadyH.nil
 go_simp
 have hk7 := kids_row (w := v6) (S := (fun j => S j ∨ w.heap.size + 1 < j)) (R := [((⟨2, ⟨#[]⟩, fneg (ffrom r.int_), 0, ⟨#[]⟩, [], r.at_⟩ : Nd), .slice none 0 0)]) (cs := #[.int .i64 2, .string ⟨#[]⟩, .int .u32 (fneg (ffrom r.int_)), .int .i64 0, .string ⟨#[]⟩, .slice none 0 0, .int .i64 r.at_]) rfl (List.forall_mem_cons.2 ⟨(kids_none _ _), fun r h => by cases h⟩) (.inr (by have := HBz.out.size; have := HSZ.out; omega)) (by simp)
 obtain ⟨G7, hG7⟩ : ∃ G, v6.heap.size = G := ⟨_, rfl⟩
 have hb7 : Below v6.heap.size v6 (v6.alloc (.cells #[.int .i64 2, .string ⟨#[]⟩, .int .u32 (fneg (ffrom r.int_)), .int .i64 0, .string ⟨#[]⟩, .slice none 0 0, .int .i64 r.at_] 29)) := bel_alloc _ _
 obtain ⟨v7, hv7⟩ : ∃ V, v6.alloc (.cells #[.int .i64 2, .string ⟨#[]⟩, .int .u32 (fneg (ffrom r.int_)), .int .i64 0, .string ⟨#[]⟩, .slice none 0 0, .int .i64 r.at_] 29) = V := ⟨_, rfl⟩
 rw [hG7] at hk7
 rw [hv7] at hb7
 have HK7 : Hid (Kids v7 (inH (fun j => S j ∨ w.heap.size + 1 < j)) (.slice (some ⟨G7, 0, none⟩) 1 1) [(⟨2, ⟨#[]⟩, fneg (ffrom r.int_), 0, ⟨#[]⟩, [], r.at_⟩ : Nd)]) := by have := hk7; rw [hv7] at this; exact this
 have HBz : Hid (Below U.heap.size U v7) := bel HBz.out hb7
 rw [hv7, hG7]
 clear hk7 hv7 hG7 hb7
 refine hK.out _ _ ?_ (fun hHeld => ?_)
 ·((try dsimp only); first | exact HSE.out | exact fun j h1 _ => HBz.out.block j h1 | exact fun j _ _ => rfl)
 clear hK K
 try simp only [Act.put, List.setIfInBounds_toArray, List.set_cons_zero, List.set_cons_succ]
 clear hHeld
 refine wpAnyH_ready (rs := [8]) (by kernel_rfl) (by simp) ?_
 refine AllReadyH.cons (i := 8) (by simp only [List.getElem?_toArray, List.getElem?_cons_succ, List.getElem?_cons_zero]; rfl) (fun K hK => ?_) AllReadyH.nil
 go_simp
 (go_at_call 73; (with_reducible refine (HCA8.out _ _ _ _).mono ?_); rintro e v8 ⟨rfl, hb8⟩; have HK7 : Hid (Kids v8 (inH (fun j => S j ∨ w.heap.size + 1 < j)) (.slice (some ⟨G7, 0, none⟩) 1 1) [(⟨2, ⟨#[]⟩, fneg (ffrom r.int_), 0, ⟨#[]⟩, [], r.at_⟩ : Nd)]) := HK7.out.below hb8; have HBz : Hid (Below U.heap.size U v8) := bel HBz.out hb8; clear hb8)
 try (go_wp2_with fail)
 refine hK.out _ _ ?_ (fun hHeld => ?_)
 ·((try dsimp only); first | exact HSE.out | exact fun j h1 _ => HBz.out.block j h1 | exact fun j _ _ => rfl)
 clear hK K
 try simp only [Act.put, List.setIfInBounds_toArray, List.set_cons_zero, List.set_cons_succ]
 clear hHeld
 refine wpAnyH_ready (rs := [9]) (by kernel_rfl) (by simp) ?_
 refine AllReadyH.cons (i := 9) (by simp only [List.getElem?_toArray, List.getElem?_cons_succ, List.getElem?_cons_zero]; rfl) (fun K hK => ?_) AllReadyH.nil
 obtain ⟨⟨s0, s1, s2, s3, s4, s5, s6⟩, r0, r1, r2, r3, r4, r5, r6⟩ := sevenA (HTW.out.below HBz.out).2.2
 go_simp
 have hoff := offS_seven v8 (w.heap.size + 1) (.int .i64 1) (.string ⟨#[115, 99, 97, 108, 101]⟩) (.int .u32 0) (.int .i64 0) (.string ⟨#[]⟩) (.slice (some ⟨G7, 0, none⟩) 1 1) (.int .i64 a)
 have hosz := size_sevenS v8 (w.heap.size + 1) (.int .i64 1) (.string ⟨#[115, 99, 97, 108, 101]⟩) (.int .u32 0) (.int .i64 0) (.string ⟨#[]⟩) (.slice (some ⟨G7, 0, none⟩) 1 1) (.int .i64 a)
 have hdone := (HTW.out.below HBz.out).done (.int .i64 1) (.string ⟨#[115, 99, 97, 108, 101]⟩) (.int .u32 0) (.int .i64 0) (.string ⟨#[]⟩) (.slice (some ⟨G7, 0, none⟩) 1 1) (.int .i64 a)
 have hsv := put_sevenA (HTW.out.below HBz.out).2.2 (.int .i64 1) (.string ⟨#[115, 99, 97, 108, 101]⟩) (.int .u32 0) (.int .i64 0) (.string ⟨#[]⟩) (.slice (some ⟨G7, 0, none⟩) 1 1) (.int .i64 a)
 have HSzz : Hid (∀ j, j < U.heap.size → j ≠ w.heap.size + 1 → ((((((((v8.setCell ⟨w.heap.size + 1, 0, none⟩ (.int .i64 1)).setCell ⟨w.heap.size + 1, 1, none⟩ (.string ⟨#[115, 99, 97, 108, 101]⟩)).setCell ⟨w.heap.size + 1, 2, none⟩ (.int .u32 0)).setCell ⟨w.heap.size + 1, 3, none⟩ (.int .i64 0)).setCell ⟨w.heap.size + 1, 4, none⟩ (.string ⟨#[]⟩)).setCell ⟨w.heap.size + 1, 5, none⟩ (.slice (some ⟨G7, 0, none⟩) 1 1)).setCell ⟨w.heap.size + 1, 6, none⟩ (.int .i64 a))).heap[j]? = U.heap[j]?) := fun j h1 h2 => (hoff.sameSize hosz (by exact h2)).trans (HBz.out.block j h1)
 obtain ⟨vE, hvE⟩ : ∃ V, (((((((v8.setCell ⟨w.heap.size + 1, 0, none⟩ (.int .i64 1)).setCell ⟨w.heap.size + 1, 1, none⟩ (.string ⟨#[115, 99, 97, 108, 101]⟩)).setCell ⟨w.heap.size + 1, 2, none⟩ (.int .u32 0)).setCell ⟨w.heap.size + 1, 3, none⟩ (.int .i64 0)).setCell ⟨w.heap.size + 1, 4, none⟩ (.string ⟨#[]⟩)).setCell ⟨w.heap.size + 1, 5, none⟩ (.slice (some ⟨G7, 0, none⟩) 1 1)).setCell ⟨w.heap.size + 1, 6, none⟩ (.int .i64 a)) = V := ⟨_, rfl⟩
 rw [hvE] at hdone hsv HSzz
 try rw [hvE]
 have HSE := HSzz
 have HEND : Hid (Below w.heap.size w vE ∧ Kids vE (inH (fun j => S j ∨ w.heap.size + 1 < j)) (.slice (some ⟨G7, 0, none⟩) 1 1) [(⟨2, ⟨#[]⟩, fneg (ffrom r.int_), 0, ⟨#[]⟩, [], r.at_⟩ : Nd)] ∧ vE.heap[w.heap.size + 1]? = some (.cells #[.int .i64 1, .string ⟨#[115, 99, 97, 108, 101]⟩, .int .u32 0, .int .i64 0, .string ⟨#[]⟩, .slice (some ⟨G7, 0, none⟩) 1 1, .int .i64 a] 29)) := ⟨hdone.1, hdone.2 _ _ _ (fun j h => by rcases h with h | h; (have := (HSB.out j (.inr h)).2; omega); omega) HK7.out, hsv⟩
 clear hoff hosz hdone hsv hvE s0 s1 s2 s3 s4 s5 s6 r0 r1 r2 r3 r4 r5 r6
 refine hK.out _ _ ?_ (fun hHeld => ?_)
 ·((try dsimp only); first | exact HSE.out | exact fun j h1 _ => HBz.out.block j h1 | exact fun j _ _ => rfl)
 clear hK K
 try simp only [Act.put, List.setIfInBounds_toArray, List.set_cons_zero, List.set_cons_succ]
 refine wpAnyH_done (by kernel_rfl) ?_ _
 go_wp2
 obtain ⟨⟨s0, s1, s2, s3, s4, s5, s6⟩, r0, r1, r2, r3, r4, r5, r6⟩ := sevenA HEND.out.2.2
 refine bodyPost_ret (by simp [results, Tryz.results65, go_sem, s0, s1, s2, s3, s4, s5, s6]; try rfl) rfl ?_
 exact ⟨_, _, rfl, HEND.out.2.1, HEND.out.1⟩
set_option maxRecDepth 100000 in
set_option maxHeartbeats 4000000 in
theorem rated_else (b n : Nat) (a : Int) (nd : ByteArray → Option Nd) (S : Blk) (r : Nd) (w : World) (hr : nd ⟨#[114, 97, 116, 101]⟩ = some r) (hk2 : (r.kind == 2) = false) (hk : (r.kind == 3) = false) (hS : ∀ j, S j → j < w.heap.size) (hp : PM w b n nd S) :
  Calls Tryz.prog 65 #[.agg #[.map (some b), .int .i64 a]] w fun e w' => ∃ p c, e = .returned (.agg #[.int .i64 1, .string ⟨#[99, 104, 97, 105, 110]⟩, .int .u32 0, .int .i64 0, .string ⟨#[]⟩, .slice p 2 c, .int .i64 a]) ∧ Kids w' (inH (fun j => S j ∨ w.heap.size + 1 < j)) (.slice p 2 c) [madeN a ⟨#[115, 99, 97, 108, 101, 95, 98, 121, 95, 115, 99, 104, 101, 100, 117, 108, 101]⟩ [r], madeN a ⟨#[115, 99, 97, 108, 101]⟩ [(⟨2, ⟨#[]⟩, 3212836864, 0, ⟨#[]⟩, [], a⟩ : Nd)]] ∧ Below w.heap.size w w' := by
 obtain ⟨W, hW, hT⟩ := TwoB.start w b a
 have HPW : Hid (PM W b n nd S) := hp.below hT.1
 have HSW : Hid (∀ j, (j = b ∨ S j) → j < w.heap.size) := fun j hj => by
  rcases hj with rfl | hj
  ·obtain ⟨f, h, _⟩ := hp; exact h.lt
  ·exact hS j hj
 obtain ⟨pl, cl, hl⟩ := HPW.out.offs (k := ⟨#[114, 97, 116, 101]⟩) (by decide) hr
 have hl0 := (hl W fun _ _ => rfl).1
 unfold nv at hl0
 have HLA : Hid (∀ x, (∀ j, (j = b ∨ S j) → x.heap[j]? = W.heap[j]?) → Kids x (inH S) (.slice pl r.args.length cl) r.args) := fun x hx => (hl x hx).2
 have HTX : Hid (TwoB w b a W) := hT
 obtain ⟨⟨g0, g1⟩, -⟩ := twoC hT.2.1
 obtain ⟨W3, hW3, hX3, hB3, -⟩ := new_box W
 obtain ⟨⟨q0, q1, q2, q3, q4, q5, q6⟩, r0, r1, r2, r3, r4, r5, r6⟩ := sevenA hX3
 have HX3 : Hid (W3.heap[W.heap.size]? = some (.cells #[.int .i64 0, .string ⟨#[]⟩, .int .u32 0, .int .i64 0, .string ⟨#[]⟩, .slice none 0 0, .int .i64 0] 29)) := hX3
 have HB3 : Hid (Below W.heap.size W W3) := hB3
 clear hT hp hS hr hl hX3 hB3
 go_enter Tryz.func65, Tryz.ntmps65
 go_upto_region 2 with fail
 clear q0 q1 q2 q3 q4 q5 q6 r0 r1 r2 r3 r4 r5 r6 hl0 g0 g1
 obtain ⟨O, hO⟩ : ∃ O, W.heap.size = O := ⟨_, rfl⟩
 have hoff := offS_seven W3 W.heap.size (.int .i64 r.kind) (.string r.name) (.int .u32 r.num) (.int .i64 r.int_) (.string r.key) (.slice pl r.args.length cl) (.int .i64 r.at_)
 have hosz := size_sevenS W3 W.heap.size (.int .i64 r.kind) (.string r.name) (.int .u32 r.num) (.int .i64 r.int_) (.string r.key) (.slice pl r.args.length cl) (.int .i64 r.at_)
 have hput := put_sevenA HX3.out (.int .i64 r.kind) (.string r.name) (.int .u32 r.num) (.int .i64 r.int_) (.string r.key) (.slice pl r.args.length cl) (.int .i64 r.at_)
 have hbU : Below W.heap.size W (((((((W3.setCell ⟨W.heap.size, 0, none⟩ (.int .i64 r.kind)).setCell ⟨W.heap.size, 1, none⟩ (.string r.name)).setCell ⟨W.heap.size, 2, none⟩ (.int .u32 r.num)).setCell ⟨W.heap.size, 3, none⟩ (.int .i64 r.int_)).setCell ⟨W.heap.size, 4, none⟩ (.string r.key)).setCell ⟨W.heap.size, 5, none⟩ (.slice pl r.args.length cl)).setCell ⟨W.heap.size, 6, none⟩ (.int .i64 r.at_)) := hoff.below HB3.out (fun j hj => by have := HB3.out.size; omega) (fun j hj e => by have e : j = W.heap.size := e; omega)
 obtain ⟨U, hU⟩ : ∃ U, (((((((W3.setCell ⟨W.heap.size, 0, none⟩ (.int .i64 r.kind)).setCell ⟨W.heap.size, 1, none⟩ (.string r.name)).setCell ⟨W.heap.size, 2, none⟩ (.int .u32 r.num)).setCell ⟨W.heap.size, 3, none⟩ (.int .i64 r.int_)).setCell ⟨W.heap.size, 4, none⟩ (.string r.key)).setCell ⟨W.heap.size, 5, none⟩ (.slice pl r.args.length cl)).setCell ⟨W.heap.size, 6, none⟩ (.int .i64 r.at_)) = U := ⟨_, rfl⟩
 rw [hU] at hput hbU ⊢
 have HTW : Hid (TwoB w b a U) := HTX.out.below hbU
 have HSZ : Hid (w.heap.size + 2 ≤ U.heap.size) := hlt HTW.out.2.2
 have HPM : Hid (PM U b n nd S) := HPW.out.below hbU
 have HWS : Hid (w.heap.size + 2 ≤ W.heap.size) := hlt HTX.out.2.2
 have HSB : Hid (∀ j, (j = b ∨ S j) → j < U.heap.size ∧ j ≠ w.heap.size + 1) := fun j hj => by have := HSW.out j hj; have := HSZ.out; omega
 have HKG0 : Hid (∀ x, Below U.heap.size U x → Kids x (inH S) (.slice pl r.args.length cl) r.args) := fun x hx => HLA.out x fun j hj => (hx.block j (by have := HSW.out j hj; have := HSZ.out; omega)).trans (hbU.block j (by have := HSW.out j hj; have := HWS.out; omega))
 have HON : Hid (O ≠ w.heap.size + 1) := by show O ≠ _; have := HWS.out; omega
 rw [hO] at hput ⊢
 obtain ⟨⟨q0, q1, q2, q3, q4, q5, q6⟩, -⟩ := sevenA hput
 obtain ⟨⟨g0, g1⟩, -⟩ := twoC HTW.out.2.1
 have HBz : Hid (Below U.heap.size U U) := Below.refl _ _
 clear hoff hosz hput hbU hU hO hW3 hW HX3 HB3 HTX HPW HLA
 have HCA4 : Hid (∀ (q : Option Addr) (m c : Nat) (x : World), Calls Tryz.prog 73 #[.agg #[.map (some b), .int .i64 a], .string ⟨#[115, 99, 97, 108, 101, 95, 98, 121, 95, 115, 99, 104, 101, 100, 117, 108, 101]⟩, .slice q m c] x fun e w' => e = .returned (.agg #[.int .i64 1, .string ⟨#[115, 99, 97, 108, 101, 95, 98, 121, 95, 115, 99, 104, 101, 100, 117, 108, 101]⟩, .int .u32 0, .int .i64 0, .string ⟨#[]⟩, .slice q m c, .int .i64 a]) ∧ Below x.heap.size x w') := fun q m c x => pcall_any b a ⟨#[115, 99, 97, 108, 101, 95, 98, 121, 95, 115, 99, 104, 101, 100, 117, 108, 101]⟩ q m c x
 have HCA7 : Hid (∀ (x : World), Calls Tryz.prog 77 #[.agg #[.map (some b), .int .i64 a], .int .u32 3212836864] x fun e w' => e = .returned (.agg #[.int .i64 2, .string ⟨#[]⟩, .int .u32 3212836864, .int .i64 0, .string ⟨#[]⟩, .slice none 0 0, .int .i64 a]) ∧ Below x.heap.size x w') := fun x => pnumber_any b a 3212836864 x
 have HCA9 : Hid (∀ (q : Option Addr) (m c : Nat) (x : World), Calls Tryz.prog 73 #[.agg #[.map (some b), .int .i64 a], .string ⟨#[115, 99, 97, 108, 101]⟩, .slice q m c] x fun e w' => e = .returned (.agg #[.int .i64 1, .string ⟨#[115, 99, 97, 108, 101]⟩, .int .u32 0, .int .i64 0, .string ⟨#[]⟩, .slice q m c, .int .i64 a]) ∧ Below x.heap.size x w') := fun q m c x => pcall_any b a ⟨#[115, 99, 97, 108, 101]⟩ q m c x
 have HCA11 : Hid (∀ (q : Option Addr) (m c : Nat) (x : World), Calls Tryz.prog 68 #[.agg #[.map (some b), .int .i64 a], .slice q m c] x fun e w' => e = .returned (.agg #[.int .i64 1, .string ⟨#[99, 104, 97, 105, 110]⟩, .int .u32 0, .int .i64 0, .string ⟨#[]⟩, .slice q m c, .int .i64 a]) ∧ Below x.heap.size x w') := fun q m c x => pchain_any b a q m c x
 go_upto_region 7 with fail
 refine wp_region_held_drew (S := (fun x => ∀ j, j < U.heap.size → j ≠ w.heap.size + 1 → x.heap[j]? = U.heap[j]?)) (by kernel_rfl) ?_ (fun hHeld => ?_)
 ·((try dsimp only); first | exact HSE.out | exact fun j h1 _ => HBz.out.block j h1 | exact fun j _ _ => rfl)
 refine wpAnyH_take (i := 0) (v := ?_) (by simp only [List.getElem?_toArray, List.getElem?_cons_succ, List.getElem?_cons_zero]; rfl) (by kernel_rfl) (by kernel_rfl) (by kernel_rfl) (by exact fun _ _ _ h => h) (Or.inl ⟨by rfl, ?_⟩) (by assumption) ?_
 rotate_left 1
 ·(intro wS hSw; have hSb : ∀ j, j < U.heap.size → j ≠ w.heap.size + 1 → wS.heap[j]? = U.heap[j]? := hSw; clear hSw; have zp := (cell_to hSb (by simp) g0); have zq := (cell_to hSb (by simp) g1); have y0 := cell_to hSb HON.out q0; have y1 := cell_to hSb HON.out q1; have y2 := cell_to hSb HON.out q2; have y3 := cell_to hSb HON.out q3; have y4 := cell_to hSb HON.out q4; have y5 := cell_to hSb HON.out q5; have y6 := cell_to hSb HON.out q6; go_simp; try (with_reducible rfl))
 try simp only [Act.put, List.setIfInBounds_toArray, List.set_cons_zero, List.set_cons_succ]
 refine wpAnyH_take (i := 1) (v := ?_) (by simp only [List.getElem?_toArray, List.getElem?_cons_succ, List.getElem?_cons_zero]; rfl) (by kernel_rfl) (by kernel_rfl) (by kernel_rfl) (by exact fun _ _ _ h => h) (Or.inl ⟨by rfl, ?_⟩) (by assumption) ?_
 rotate_left 1
 ·(intro wS hSw; have hSb : ∀ j, j < U.heap.size → j ≠ w.heap.size + 1 → wS.heap[j]? = U.heap[j]? := hSw; clear hSw; have zp := (cell_to hSb (by simp) g0); have zq := (cell_to hSb (by simp) g1); have y0 := cell_to hSb HON.out q0; have y1 := cell_to hSb HON.out q1; have y2 := cell_to hSb HON.out q2; have y3 := cell_to hSb HON.out q3; have y4 := cell_to hSb HON.out q4; have y5 := cell_to hSb HON.out q5; have y6 := cell_to hSb HON.out q6; go_simp; try (with_reducible rfl))
 try simp only [Act.put, List.setIfInBounds_toArray, List.set_cons_zero, List.set_cons_succ]
 refine wpAnyH_take (i := 2) (v := ?_) (by simp only [List.getElem?_toArray, List.getElem?_cons_succ, List.getElem?_cons_zero]; rfl) (by kernel_rfl) (by kernel_rfl) (by kernel_rfl) (by exact fun _ _ _ h => h) (Or.inl ⟨by rfl, ?_⟩) (by assumption) ?_
 rotate_left 1
 ·(intro wS hSw; have hSb : ∀ j, j < U.heap.size → j ≠ w.heap.size + 1 → wS.heap[j]? = U.heap[j]? := hSw; clear hSw; have zp := (cell_to hSb (by simp) g0); have zq := (cell_to hSb (by simp) g1); have y0 := cell_to hSb HON.out q0; have y1 := cell_to hSb HON.out q1; have y2 := cell_to hSb HON.out q2; have y3 := cell_to hSb HON.out q3; have y4 := cell_to hSb HON.out q4; have y5 := cell_to hSb HON.out q5; have y6 := cell_to hSb HON.out q6; go_simp; try (with_reducible rfl))
 try simp only [Act.put, List.setIfInBounds_toArray, List.set_cons_zero, List.set_cons_succ]
 refine wpAnyH_take (i := 5) (v := ?_) (by simp only [List.getElem?_toArray, List.getElem?_cons_succ, List.getElem?_cons_zero]; rfl) (by kernel_rfl) (by kernel_rfl) (by kernel_rfl) (by exact fun _ _ _ h => h) (Or.inl ⟨by rfl, ?_⟩) (by assumption) ?_
 rotate_left 1
 ·(intro wS hSw; have hSb : ∀ j, j < U.heap.size → j ≠ w.heap.size + 1 → wS.heap[j]? = U.heap[j]? := hSw; clear hSw; have zp := (cell_to hSb (by simp) g0); have zq := (cell_to hSb (by simp) g1); have y0 := cell_to hSb HON.out q0; have y1 := cell_to hSb HON.out q1; have y2 := cell_to hSb HON.out q2; have y3 := cell_to hSb HON.out q3; have y4 := cell_to hSb HON.out q4; have y5 := cell_to hSb HON.out q5; have y6 := cell_to hSb HON.out q6; go_simp; try (with_reducible rfl))
 try simp only [Act.put, List.setIfInBounds_toArray, List.set_cons_zero, List.set_cons_succ]
 refine wpAnyH_take (i := 6) (v := ?_) (by simp only [List.getElem?_toArray, List.getElem?_cons_succ, List.getElem?_cons_zero]; rfl) (by kernel_rfl) (by kernel_rfl) (by kernel_rfl) (by exact fun _ _ _ h => h) (Or.inl ⟨by rfl, ?_⟩) (by assumption) ?_
 rotate_left 1
 ·(intro wS hSw; have hSb : ∀ j, j < U.heap.size → j ≠ w.heap.size + 1 → wS.heap[j]? = U.heap[j]? := hSw; clear hSw; have zp := (cell_to hSb (by simp) g0); have zq := (cell_to hSb (by simp) g1); have y0 := cell_to hSb HON.out q0; have y1 := cell_to hSb HON.out q1; have y2 := cell_to hSb HON.out q2; have y3 := cell_to hSb HON.out q3; have y4 := cell_to hSb HON.out q4; have y5 := cell_to hSb HON.out q5; have y6 := cell_to hSb HON.out q6; go_simp; try (with_reducible rfl))
 try simp only [Act.put, List.setIfInBounds_toArray, List.set_cons_zero, List.set_cons_succ]
 clear hHeld
 refine wpAnyH_ready (rs := [3]) (by kernel_rfl) (by simp) ?_
 refine AllReadyH.cons (i := 3) (by simp only [List.getElem?_toArray, List.getElem?_cons_succ, List.getElem?_cons_zero]; rfl) (fun K hK => ?_) AllReadyH.nil
 go_simp
 have hk3 := kids_row (w := U) (S := (fun j => S j ∨ w.heap.size + 1 < j)) (R := [(r, .slice pl r.args.length cl)]) (cs := #[.int .i64 r.kind, .string r.name, .int .u32 r.num, .int .i64 r.int_, .string r.key, .slice pl r.args.length cl, .int .i64 r.at_]) rfl (List.forall_mem_cons.2 ⟨((HKG0.out _ HBz.out).weak (inH.sub fun j h => .inl h)), fun r h => by cases h⟩) (.inr (by have := HBz.out.size; have := HSZ.out; omega)) (by simp)
 obtain ⟨G3, hG3⟩ : ∃ G, U.heap.size = G := ⟨_, rfl⟩
 have hb3 : Below U.heap.size U ((U.alloc (.cells #[.int .i64 r.kind, .string r.name, .int .u32 r.num, .int .i64 r.int_, .string r.key, .slice pl r.args.length cl, .int .i64 r.at_] 29)).drew) := bel (bel_alloc _ _) (bel_d _)
 obtain ⟨v3, hv3⟩ : ∃ V, (U.alloc (.cells #[.int .i64 r.kind, .string r.name, .int .u32 r.num, .int .i64 r.int_, .string r.key, .slice pl r.args.length cl, .int .i64 r.at_] 29)).drew = V := ⟨_, rfl⟩
 rw [hG3] at hk3
 rw [hv3] at hb3
 have HK3 : Hid (Kids v3 (inH (fun j => S j ∨ w.heap.size + 1 < j)) (.slice (some ⟨G3, 0, none⟩) 1 1) [r]) := by have := hk3; rw [← hv3]; exact this.below (bel_d _)
 have HBz : Hid (Below U.heap.size U v3) := bel HBz.out hb3
 rw [hv3, hG3]
 clear hk3 hv3 hG3 hb3
 refine hK.out _ _ ?_ (fun hHeld => ?_)
 ·((try dsimp only); first | exact HSE.out | exact fun j h1 _ => HBz.out.block j h1 | exact fun j _ _ => rfl)
 clear hK K
 try simp only [Act.put, List.setIfInBounds_toArray, List.set_cons_zero, List.set_cons_succ]
 clear hHeld
 refine wpAnyH_ready (rs := [4]) (by kernel_rfl) (by simp) ?_
 refine AllReadyH.cons (i := 4) (by simp only [List.getElem?_toArray, List.getElem?_cons_succ, List.getElem?_cons_zero]; rfl) (fun K hK => ?_) AllReadyH.nil
 go_simp
 (go_at_call 73; (with_reducible refine (HCA4.out _ _ _ _).mono ?_); rintro e v4 ⟨rfl, hb4⟩; have HK3 : Hid (Kids v4 (inH (fun j => S j ∨ w.heap.size + 1 < j)) (.slice (some ⟨G3, 0, none⟩) 1 1) [r]) := HK3.out.below hb4; have HBz : Hid (Below U.heap.size U v4) := bel HBz.out hb4; clear hb4)
 try (go_wp2_with fail)
 refine hK.out _ _ ?_ (fun hHeld => ?_)
 ·((try dsimp only); first | exact HSE.out | exact fun j h1 _ => HBz.out.block j h1 | exact fun j _ _ => rfl)
 clear hK K
 try simp only [Act.put, List.setIfInBounds_toArray, List.set_cons_zero, List.set_cons_succ]
 clear hHeld
 refine wpAnyH_ready (rs := [7]) (by kernel_rfl) (by simp) ?_
 refine AllReadyH.cons (i := 7) (by simp only [List.getElem?_toArray, List.getElem?_cons_succ, List.getElem?_cons_zero]; rfl) (fun K hK => ?_) AllReadyH.nil
 go_simp
 (go_at_call 77; (with_reducible refine (HCA7.out _).mono ?_); rintro e v7 ⟨rfl, hb7⟩; have HK3 : Hid (Kids v7 (inH (fun j => S j ∨ w.heap.size + 1 < j)) (.slice (some ⟨G3, 0, none⟩) 1 1) [r]) := HK3.out.below hb7; have HBz : Hid (Below U.heap.size U v7) := bel HBz.out hb7; clear hb7)
 try (go_wp2_with fail)
 refine hK.out _ _ ?_ (fun hHeld => ?_)
 ·((try dsimp only); first | exact HSE.out | exact fun j h1 _ => HBz.out.block j h1 | exact fun j _ _ => rfl)
 clear hK K
 try simp only [Act.put, List.setIfInBounds_toArray, List.set_cons_zero, List.set_cons_succ]
 clear hHeld
 refine wpAnyH_ready (rs := [8]) (by kernel_rfl) (by simp) ?_
 refine AllReadyH.cons (i := 8) (by simp only [List.getElem?_toArray, List.getElem?_cons_succ, List.getElem?_cons_zero]; rfl) (fun K hK => ?_) AllReadyH.nil
 go_simp
 have hk8 := kids_row (w := v7) (S := (fun j => S j ∨ w.heap.size + 1 < j)) (R := [((⟨2, ⟨#[]⟩, 3212836864, 0, ⟨#[]⟩, [], a⟩ : Nd), .slice none 0 0)]) (cs := #[.int .i64 2, .string ⟨#[]⟩, .int .u32 3212836864, .int .i64 0, .string ⟨#[]⟩, .slice none 0 0, .int .i64 a]) rfl (List.forall_mem_cons.2 ⟨(kids_none _ _), fun r h => by cases h⟩) (.inr (by have := HBz.out.size; have := HSZ.out; omega)) (by simp)
 obtain ⟨G8, hG8⟩ : ∃ G, v7.heap.size = G := ⟨_, rfl⟩
 have hb8 : Below v7.heap.size v7 (v7.alloc (.cells #[.int .i64 2, .string ⟨#[]⟩, .int .u32 3212836864, .int .i64 0, .string ⟨#[]⟩, .slice none 0 0, .int .i64 a] 29)) := bel_alloc _ _
 obtain ⟨v8, hv8⟩ : ∃ V, v7.alloc (.cells #[.int .i64 2, .string ⟨#[]⟩, .int .u32 3212836864, .int .i64 0, .string ⟨#[]⟩, .slice none 0 0, .int .i64 a] 29) = V := ⟨_, rfl⟩
 rw [hG8] at hk8
 rw [hv8] at hb8
 have HK8 : Hid (Kids v8 (inH (fun j => S j ∨ w.heap.size + 1 < j)) (.slice (some ⟨G8, 0, none⟩) 1 1) [(⟨2, ⟨#[]⟩, 3212836864, 0, ⟨#[]⟩, [], a⟩ : Nd)]) := by have := hk8; rw [hv8] at this; exact this
 have HK3 : Hid (Kids v8 (inH (fun j => S j ∨ w.heap.size + 1 < j)) (.slice (some ⟨G3, 0, none⟩) 1 1) [r]) := HK3.out.below hb8
 have HBz : Hid (Below U.heap.size U v8) := bel HBz.out hb8
 rw [hv8, hG8]
 clear hk8 hv8 hG8 hb8
 refine hK.out _ _ ?_ (fun hHeld => ?_)
 ·((try dsimp only); first | exact HSE.out | exact fun j h1 _ => HBz.out.block j h1 | exact fun j _ _ => rfl)
 clear hK K
 try simp only [Act.put, List.setIfInBounds_toArray, List.set_cons_zero, List.set_cons_succ]
 clear hHeld
 refine wpAnyH_ready (rs := [9]) (by kernel_rfl) (by simp) ?_
 refine AllReadyH.cons (i := 9) (by simp only [List.getElem?_toArray, List.getElem?_cons_succ, List.getElem?_cons_zero]; rfl) (fun K hK => ?_) AllReadyH.nil
 go_simp
 (go_at_call 73; (with_reducible refine (HCA9.out _ _ _ _).mono ?_); rintro e v9 ⟨rfl, hb9⟩; have HK3 : Hid (Kids v9 (inH (fun j => S j ∨ w.heap.size + 1 < j)) (.slice (some ⟨G3, 0, none⟩) 1 1) [r]) := HK3.out.below hb9; have HK8 : Hid (Kids v9 (inH (fun j => S j ∨ w.heap.size + 1 < j)) (.slice (some ⟨G8, 0, none⟩) 1 1) [(⟨2, ⟨#[]⟩, 3212836864, 0, ⟨#[]⟩, [], a⟩ : Nd)]) := HK8.out.below hb9; have HBz : Hid (Below U.heap.size U v9) := bel HBz.out hb9; clear hb9)
 try (go_wp2_with fail)
 refine hK.out _ _ ?_ (fun hHeld => ?_)
 ·((try dsimp only); first | exact HSE.out | exact fun j h1 _ => HBz.out.block j h1 | exact fun j _ _ => rfl)
 clear hK K
 try simp only [Act.put, List.setIfInBounds_toArray, List.set_cons_zero, List.set_cons_succ]
 clear hHeld
 refine wpAnyH_ready (rs := [10]) (by kernel_rfl) (by simp) ?_
 refine AllReadyH.cons (i := 10) (by simp only [List.getElem?_toArray, List.getElem?_cons_succ, List.getElem?_cons_zero]; rfl) (fun K hK => ?_) AllReadyH.nil
 go_simp
 have hk10 := kids_row (w := v9) (S := (fun j => S j ∨ w.heap.size + 1 < j)) (R := [(madeN a ⟨#[115, 99, 97, 108, 101, 95, 98, 121, 95, 115, 99, 104, 101, 100, 117, 108, 101]⟩ [r], .slice (some ⟨G3, 0, none⟩) 1 1), (madeN a ⟨#[115, 99, 97, 108, 101]⟩ [(⟨2, ⟨#[]⟩, 3212836864, 0, ⟨#[]⟩, [], a⟩ : Nd)], .slice (some ⟨G8, 0, none⟩) 1 1)]) (cs := #[.int .i64 1, .string ⟨#[115, 99, 97, 108, 101, 95, 98, 121, 95, 115, 99, 104, 101, 100, 117, 108, 101]⟩, .int .u32 0, .int .i64 0, .string ⟨#[]⟩, .slice (some ⟨G3, 0, none⟩) 1 1, .int .i64 a, .int .i64 1, .string ⟨#[115, 99, 97, 108, 101]⟩, .int .u32 0, .int .i64 0, .string ⟨#[]⟩, .slice (some ⟨G8, 0, none⟩) 1 1, .int .i64 a]) rfl (List.forall_mem_cons.2 ⟨HK3.out, List.forall_mem_cons.2 ⟨HK8.out, fun r h => by cases h⟩⟩) (.inr (by have := HBz.out.size; have := HSZ.out; omega)) (by simp)
 obtain ⟨G10, hG10⟩ : ∃ G, v9.heap.size = G := ⟨_, rfl⟩
 have hb10 : Below v9.heap.size v9 (v9.alloc (.cells #[.int .i64 1, .string ⟨#[115, 99, 97, 108, 101, 95, 98, 121, 95, 115, 99, 104, 101, 100, 117, 108, 101]⟩, .int .u32 0, .int .i64 0, .string ⟨#[]⟩, .slice (some ⟨G3, 0, none⟩) 1 1, .int .i64 a, .int .i64 1, .string ⟨#[115, 99, 97, 108, 101]⟩, .int .u32 0, .int .i64 0, .string ⟨#[]⟩, .slice (some ⟨G8, 0, none⟩) 1 1, .int .i64 a] 29)) := bel_alloc _ _
 obtain ⟨v10, hv10⟩ : ∃ V, v9.alloc (.cells #[.int .i64 1, .string ⟨#[115, 99, 97, 108, 101, 95, 98, 121, 95, 115, 99, 104, 101, 100, 117, 108, 101]⟩, .int .u32 0, .int .i64 0, .string ⟨#[]⟩, .slice (some ⟨G3, 0, none⟩) 1 1, .int .i64 a, .int .i64 1, .string ⟨#[115, 99, 97, 108, 101]⟩, .int .u32 0, .int .i64 0, .string ⟨#[]⟩, .slice (some ⟨G8, 0, none⟩) 1 1, .int .i64 a] 29) = V := ⟨_, rfl⟩
 rw [hG10] at hk10
 rw [hv10] at hb10
 have HK10 : Hid (Kids v10 (inH (fun j => S j ∨ w.heap.size + 1 < j)) (.slice (some ⟨G10, 0, none⟩) 2 2) [madeN a ⟨#[115, 99, 97, 108, 101, 95, 98, 121, 95, 115, 99, 104, 101, 100, 117, 108, 101]⟩ [r], madeN a ⟨#[115, 99, 97, 108, 101]⟩ [(⟨2, ⟨#[]⟩, 3212836864, 0, ⟨#[]⟩, [], a⟩ : Nd)]]) := by have := hk10; rw [hv10] at this; exact this
 have HK3 : Hid (Kids v10 (inH (fun j => S j ∨ w.heap.size + 1 < j)) (.slice (some ⟨G3, 0, none⟩) 1 1) [r]) := HK3.out.below hb10
 have HK8 : Hid (Kids v10 (inH (fun j => S j ∨ w.heap.size + 1 < j)) (.slice (some ⟨G8, 0, none⟩) 1 1) [(⟨2, ⟨#[]⟩, 3212836864, 0, ⟨#[]⟩, [], a⟩ : Nd)]) := HK8.out.below hb10
 have HBz : Hid (Below U.heap.size U v10) := bel HBz.out hb10
 rw [hv10, hG10]
 clear hk10 hv10 hG10 hb10
 refine hK.out _ _ ?_ (fun hHeld => ?_)
 ·((try dsimp only); first | exact HSE.out | exact fun j h1 _ => HBz.out.block j h1 | exact fun j _ _ => rfl)
 clear hK K
 try simp only [Act.put, List.setIfInBounds_toArray, List.set_cons_zero, List.set_cons_succ]
 clear hHeld
 refine wpAnyH_ready (rs := [11]) (by kernel_rfl) (by simp) ?_
 refine AllReadyH.cons (i := 11) (by simp only [List.getElem?_toArray, List.getElem?_cons_succ, List.getElem?_cons_zero]; rfl) (fun K hK => ?_) AllReadyH.nil
 go_simp
 (go_at_call 68; (with_reducible refine (HCA11.out _ _ _ _).mono ?_); rintro e v11 ⟨rfl, hb11⟩; have HK3 : Hid (Kids v11 (inH (fun j => S j ∨ w.heap.size + 1 < j)) (.slice (some ⟨G3, 0, none⟩) 1 1) [r]) := HK3.out.below hb11; have HK8 : Hid (Kids v11 (inH (fun j => S j ∨ w.heap.size + 1 < j)) (.slice (some ⟨G8, 0, none⟩) 1 1) [(⟨2, ⟨#[]⟩, 3212836864, 0, ⟨#[]⟩, [], a⟩ : Nd)]) := HK8.out.below hb11; have HK10 : Hid (Kids v11 (inH (fun j => S j ∨ w.heap.size + 1 < j)) (.slice (some ⟨G10, 0, none⟩) 2 2) [madeN a ⟨#[115, 99, 97, 108, 101, 95, 98, 121, 95, 115, 99, 104, 101, 100, 117, 108, 101]⟩ [r], madeN a ⟨#[115, 99, 97, 108, 101]⟩ [(⟨2, ⟨#[]⟩, 3212836864, 0, ⟨#[]⟩, [], a⟩ : Nd)]]) := HK10.out.below hb11; have HBz : Hid (Below U.heap.size U v11) := bel HBz.out hb11; clear hb11)
 try (go_wp2_with fail)
 refine hK.out _ _ ?_ (fun hHeld => ?_)
 ·((try dsimp only); first | exact HSE.out | exact fun j h1 _ => HBz.out.block j h1 | exact fun j _ _ => rfl)
 clear hK K
 try simp only [Act.put, List.setIfInBounds_toArray, List.set_cons_zero, List.set_cons_succ]
 clear hHeld
 refine wpAnyH_ready (rs := [12]) (by kernel_rfl) (by simp) ?_
 refine AllReadyH.cons (i := 12) (by simp only [List.getElem?_toArray, List.getElem?_cons_succ, List.getElem?_cons_zero]; rfl) (fun K hK => ?_) AllReadyH.nil
 obtain ⟨⟨s0, s1, s2, s3, s4, s5, s6⟩, r0, r1, r2, r3, r4, r5, r6⟩ := sevenA (HTW.out.below HBz.out).2.2
 go_simp
 have hoff := offS_seven v11 (w.heap.size + 1) (.int .i64 1) (.string ⟨#[99, 104, 97, 105, 110]⟩) (.int .u32 0) (.int .i64 0) (.string ⟨#[]⟩) (.slice (some ⟨G10, 0, none⟩) 2 2) (.int .i64 a)
 have hosz := size_sevenS v11 (w.heap.size + 1) (.int .i64 1) (.string ⟨#[99, 104, 97, 105, 110]⟩) (.int .u32 0) (.int .i64 0) (.string ⟨#[]⟩) (.slice (some ⟨G10, 0, none⟩) 2 2) (.int .i64 a)
 have hdone := (HTW.out.below HBz.out).done (.int .i64 1) (.string ⟨#[99, 104, 97, 105, 110]⟩) (.int .u32 0) (.int .i64 0) (.string ⟨#[]⟩) (.slice (some ⟨G10, 0, none⟩) 2 2) (.int .i64 a)
 have hsv := put_sevenA (HTW.out.below HBz.out).2.2 (.int .i64 1) (.string ⟨#[99, 104, 97, 105, 110]⟩) (.int .u32 0) (.int .i64 0) (.string ⟨#[]⟩) (.slice (some ⟨G10, 0, none⟩) 2 2) (.int .i64 a)
 have HSzz : Hid (∀ j, j < U.heap.size → j ≠ w.heap.size + 1 → ((((((((v11.setCell ⟨w.heap.size + 1, 0, none⟩ (.int .i64 1)).setCell ⟨w.heap.size + 1, 1, none⟩ (.string ⟨#[99, 104, 97, 105, 110]⟩)).setCell ⟨w.heap.size + 1, 2, none⟩ (.int .u32 0)).setCell ⟨w.heap.size + 1, 3, none⟩ (.int .i64 0)).setCell ⟨w.heap.size + 1, 4, none⟩ (.string ⟨#[]⟩)).setCell ⟨w.heap.size + 1, 5, none⟩ (.slice (some ⟨G10, 0, none⟩) 2 2)).setCell ⟨w.heap.size + 1, 6, none⟩ (.int .i64 a))).heap[j]? = U.heap[j]?) := fun j h1 h2 => (hoff.sameSize hosz (by exact h2)).trans (HBz.out.block j h1)
 obtain ⟨vE, hvE⟩ : ∃ V, (((((((v11.setCell ⟨w.heap.size + 1, 0, none⟩ (.int .i64 1)).setCell ⟨w.heap.size + 1, 1, none⟩ (.string ⟨#[99, 104, 97, 105, 110]⟩)).setCell ⟨w.heap.size + 1, 2, none⟩ (.int .u32 0)).setCell ⟨w.heap.size + 1, 3, none⟩ (.int .i64 0)).setCell ⟨w.heap.size + 1, 4, none⟩ (.string ⟨#[]⟩)).setCell ⟨w.heap.size + 1, 5, none⟩ (.slice (some ⟨G10, 0, none⟩) 2 2)).setCell ⟨w.heap.size + 1, 6, none⟩ (.int .i64 a)) = V := ⟨_, rfl⟩
 rw [hvE] at hdone hsv HSzz
 try rw [hvE]
 have HSE := HSzz
 have HEND : Hid (Below w.heap.size w vE ∧ Kids vE (inH (fun j => S j ∨ w.heap.size + 1 < j)) (.slice (some ⟨G10, 0, none⟩) 2 2) [madeN a ⟨#[115, 99, 97, 108, 101, 95, 98, 121, 95, 115, 99, 104, 101, 100, 117, 108, 101]⟩ [r], madeN a ⟨#[115, 99, 97, 108, 101]⟩ [(⟨2, ⟨#[]⟩, 3212836864, 0, ⟨#[]⟩, [], a⟩ : Nd)]] ∧ vE.heap[w.heap.size + 1]? = some (.cells #[.int .i64 1, .string ⟨#[99, 104, 97, 105, 110]⟩, .int .u32 0, .int .i64 0, .string ⟨#[]⟩, .slice (some ⟨G10, 0, none⟩) 2 2, .int .i64 a] 29)) := ⟨hdone.1, hdone.2 _ _ _ (fun j h => by rcases h with h | h; (have := (HSB.out j (.inr h)).2; omega); omega) HK10.out, hsv⟩
 clear hoff hosz hdone hsv hvE s0 s1 s2 s3 s4 s5 s6 r0 r1 r2 r3 r4 r5 r6
 refine hK.out _ _ ?_ (fun hHeld => ?_)
 ·((try dsimp only); first | exact HSE.out | exact fun j h1 _ => HBz.out.block j h1 | exact fun j _ _ => rfl)
 clear hK K
 try simp only [Act.put, List.setIfInBounds_toArray, List.set_cons_zero, List.set_cons_succ]
 refine wpAnyH_done (by kernel_rfl) ?_ _
 go_wp2
 obtain ⟨⟨s0, s1, s2, s3, s4, s5, s6⟩, r0, r1, r2, r3, r4, r5, r6⟩ := sevenA HEND.out.2.2
 refine bodyPost_ret (by simp [results, Tryz.results65, go_sem, s0, s1, s2, s3, s4, s5, s6]; try rfl) rfl ?_
 exact ⟨_, _, rfl, HEND.out.2.1, HEND.out.1⟩
theorem rated_any (b n : Nat) (a : Int) (nd : ByteArray → Option Nd) (S : Blk) (r : Nd) (w : World) (hr : nd ⟨#[114, 97, 116, 101]⟩ = some r) (hok : okR r) (hS : ∀ j, S j → j < w.heap.size) (hp : PM w b n nd S) :
  Calls Tryz.prog 65 #[.agg #[.map (some b), .int .i64 a]] w fun e w' => ∃ p c, e = .returned (.agg #[.int .i64 1, .string (rnmA r), .int .u32 0, .int .i64 0, .string ⟨#[]⟩, .slice p (rlA a r).length c, .int .i64 a]) ∧ Kids w' (inH (fun j => S j ∨ w.heap.size + 1 < j)) (.slice p (rlA a r).length c) (rlA a r) ∧ Below w.heap.size w w' := by
 unfold rnmA rlA
 by_cases h2 : r.kind = 2
 ·simp only [h2, if_true]
  exact rated_num b n a nd S r w hr (by simpa using h2) hok.1.1 hok.1.2 hS hp
 ·by_cases h3 : r.kind = 3
  ·simp only [h2, h3, if_true, if_false]
   exact rated_int b n a nd S r w hr (by simpa using h2) (by simpa using h3) (hok.2 h3).1 (hok.2 h3).2 hS hp
  ·simp only [h2, h3, if_false]
   exact rated_else b n a nd S r w hr (by simpa using h2) (by simpa using h3) hS hp
end Go.Proofs.YtmiidhgbdecdkaaGreat
