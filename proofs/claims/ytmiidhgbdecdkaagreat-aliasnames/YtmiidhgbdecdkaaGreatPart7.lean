import Derived.Test.YtmiidhgbdecdkaaGreatPart6
namespace Go.Proofs.YtmiidhgbdecdkaaGreat
open Go.RowKit
set_option linter.unusedVariables false
set_option linter.unusedSimpArgs false
theorem keep_set {w : World} {Q R q i : Nat} {v x : Value} (h : Q ≠ R) (hc : w.cell? ⟨Q, q, none⟩ = some v) : (w.setCell ⟨R, i, none⟩ x).cell? ⟨Q, q, none⟩ = some v := (World.cell?_of_block (w := w) (a := ⟨Q, q, none⟩) (Below.heap_setCell _ _ _ _ h)).trans hc
def BoxT (w : World) (t : Nd) (sv : Value) (O : Nat) (U : World) : Prop :=
 Below w.heap.size w U ∧ U.heap[w.heap.size]? = some (.cells #[.int .i64 0, .string ⟨#[]⟩, .int .u32 0, .int .i64 0, .string ⟨#[]⟩, .slice none 0 0, .int .i64 0] 29) ∧ w.heap.size < O ∧ U.heap[O]? = some (.cells #[.int .i64 t.kind, .string t.name, .int .u32 t.num, .int .i64 t.int_, .string t.key, sv, .int .i64 t.at_] 29)
theorem BoxT.below {w U U' : World} {t : Nd} {sv : Value} {O : Nat} (h : BoxT w t sv O U) (k : Below U.heap.size U U') : BoxT w t sv O U' :=
 ⟨bel h.1 k, (k.block _ (hlt h.2.1)).trans h.2.1, h.2.2.1, (k.block _ (hlt h.2.2.2)).trans h.2.2.2⟩
theorem BoxT.start {w x : World} {t : Nd} {sv : Value} {O : Nat} {a0 a1 a2 a3 a4 a5 a6 : Value} (hb : Below w.heap.size w x) (hr : x.heap[w.heap.size]? = some (.cells #[.int .i64 0, .string ⟨#[]⟩, .int .u32 0, .int .i64 0, .string ⟨#[]⟩, .slice none 0 0, .int .i64 0] 29)) (hx : x.heap[O]? = some (.cells #[a0, a1, a2, a3, a4, a5, a6] 29)) (hO : w.heap.size < O) :
  BoxT w t sv O (((((((x.setCell ⟨O, 0, none⟩ (.int .i64 t.kind)).setCell ⟨O, 1, none⟩ (.string t.name)).setCell ⟨O, 2, none⟩ (.int .u32 t.num)).setCell ⟨O, 3, none⟩ (.int .i64 t.int_)).setCell ⟨O, 4, none⟩ (.string t.key)).setCell ⟨O, 5, none⟩ sv).setCell ⟨O, 6, none⟩ (.int .i64 t.at_)) := by
 have h := offS_seven x O (.int .i64 t.kind) (.string t.name) (.int .u32 t.num) (.int .i64 t.int_) (.string t.key) sv (.int .i64 t.at_)
 have hz := size_sevenS x O (.int .i64 t.kind) (.string t.name) (.int .u32 t.num) (.int .i64 t.int_) (.string t.key) sv (.int .i64 t.at_)
 refine ⟨h.below hb (fun b hb' => by have := hlt hr; omega) (fun b hb' e => by have e : b = O := e; omega), ?_, hO, put_sevenA hx _ _ _ _ _ _ _⟩
 rw [h.sameSize hz (by show ¬ w.heap.size = O; omega)]
 exact hr
theorem BoxT.args {w U : World} {t : Nd} {sv : Value} {O : Nat} (h : BoxT w t sv O U) (z : Value) : BoxT w t z O (U.setCell ⟨O, 5, none⟩ z) := by
 obtain ⟨h1, h2, h3, h4⟩ := h
 have k := (OffS.refl (fun j => j = O) U).at 5 z
 have hz : (U.setCell ⟨O, 5, none⟩ z).heap.size = U.heap.size := by simp [World.setCell]
 refine ⟨k.below h1 (fun b hb' => by have := hlt h2; omega) (fun b hb' e => by have e : b = O := e; omega), ?_, h3, ?_⟩
 ·rw [k.sameSize hz (by show ¬ w.heap.size = O; omega)]
  exact h2
 ·have := put_oneA h4 5 z
  simp only [List.setIfInBounds_toArray, List.set_cons_zero, List.set_cons_succ] at this
  exact this
theorem BoxT.again {w U : World} {t : Nd} {sv z : Value} {O : Nat} (h : BoxT w t sv O U) : BoxT w t z O (((U.setCell ⟨O, 1, none⟩ (.string t.name)).setCell ⟨O, 4, none⟩ (.string t.key)).setCell ⟨O, 5, none⟩ z) := by
 obtain ⟨h1, h2, h3, h4⟩ := h
 have k := (((OffS.refl (fun j => j = O) U).at 1 (.string t.name)).at 4 (.string t.key)).at 5 z
 have hz : (((U.setCell ⟨O, 1, none⟩ (.string t.name)).setCell ⟨O, 4, none⟩ (.string t.key)).setCell ⟨O, 5, none⟩ z).heap.size = U.heap.size := by simp [World.setCell]
 refine ⟨k.below h1 (fun b hb' => by have := hlt h2; omega) (fun b hb' e => by have e : b = O := e; omega), ?_, h3, ?_⟩
 ·rw [k.sameSize hz (by show ¬ w.heap.size = O; omega)]
  exact h2
 ·have := put_oneA (put_oneA (put_oneA h4 1 (.string t.name)) 4 (.string t.key)) 5 z
  simp only [List.setIfInBounds_toArray, List.set_cons_zero, List.set_cons_succ] at this
  exact this
set_option maxRecDepth 100000 in
set_option maxHeartbeats 4000000 in
theorem wrs_row (l : List (ByteArray × Nd)) (hl : l.length ≤ 40000) (N : Nat) (ih : WrS l N)
  (t : Nd) (b o : Nat) (p : Option Addr) (c : Nat) (w : World) (hm : mntP l t = none) (hd : dep t ≤ N + 1) (hc : cnt (wrN (envA l) t) ≤ 40000) (hokt : ok1 t) (hs : ScopeA w p l) (hlc : l.length ≤ c) (hn : NodeA w anyH b o t) :
  Calls Tryz.prog 45 #[.slice p l.length c, .pointer (some ⟨b, o, none⟩)] w fun e w' => ∃ sv S, e = .returned (nv (wrN (envA l) t) sv) ∧ Ow w' sv (wrN (envA l) t).args S ∧ (∀ j, S j → w.heap.size ≤ j ∧ j < w'.heap.size) ∧ Below w.heap.size w w' := by
 have hwr := wr_no hm
 have hme := fun (x : World) (k : Below w.heap.size w x) => smeant_any l p c b o t x hl (hs.below k) (hn.below k)
 rw [hm] at hme
 obtain ⟨L, hL⟩ : ∃ L, t.args.map (wrN (envA l)) = L := ⟨_, rfl⟩
 rw [hL] at hwr
 have hcL : cntL L + 1 ≤ 40000 := by
  rw [hwr] at hc
  have : cnt (argsN t L) = 1 + cntL L := rfl
  omega
 have hLG : ∀ j (h : j < t.args.length) (h' : j < L.length), wrN (envA l) t.args[j] = L[j] := fun j h h' => by subst hL; rw [List.getElem_map]
 have hLl : L.length = t.args.length := by rw [← hL, List.length_map]
 have hlen : t.args.length ≤ 40000 := by have := cntL_len L; omega
 obtain ⟨n, hnn⟩ : ∃ n, t.args.length = n := ⟨_, rfl⟩
 obtain ⟨Lk, hLk⟩ : ∃ Lk, l.length = Lk := ⟨_, rfl⟩
 have HIH : Hid (∀ j (hj : j < t.args.length) (h' : j < L.length) (q r : Nat) (x : World), Below w.heap.size w x → NodeA x anyH q r t.args[j] → Calls Tryz.prog 45 #[.slice p Lk c, .pointer (some ⟨q, r, none⟩)] x fun e w' => ∃ sv S, e = .returned (nv L[j] sv) ∧ Ow w' sv L[j].args S ∧ (∀ j, S j → x.heap.size ≤ j ∧ j < w'.heap.size) ∧ Below x.heap.size x w') := fun j hj h' q r x hx hnx => by
  rw [← hLG j hj h', ← hLk]
  exact ih t.args[j] q r p c x (by have h1 := dep_get hj; unfold dep at hd; omega) (by rw [hLG j hj h']; have := cnt_get h'; omega) (okL_get hokt.2 hj) (hs.below hx) hlc hnx
 have HN : Hid (t.args.length = n ∧ L.length = n ∧ wrN (envA l) t = argsN t L) := ⟨hnn, by rw [hLl, hnn], hwr⟩
 obtain ⟨e0, e1, e2, e3, e4, e6, sv, e5, hk⟩ := hn
 obtain ⟨q, d, rfl, -, hka⟩ := hk
 rw [hnn] at e5 hlen
 have HKA : Hid (t.args = [] ∨ ∃ b' o', q = some ⟨b', o', none⟩ ∧ KA w anyH b' o' t.args) := hka
 obtain ⟨W, hW, hX, hB, -⟩ := new_box w
 rw [hLk] at hme ⊢
 rw [hwr]
 have HM : Hid (∀ x, Below w.heap.size w x → Calls Tryz.prog 83 #[.slice p Lk c, .pointer (some ⟨b, o, none⟩)] x fun e w' => e = .returned (.tuple #[.int .i64 0, .bool false]) ∧ Below x.heap.size x w') := hme
 have HC1 : Hid (∀ x, Calls Tryz.prog 85 #[.string t.name] x fun e w' => e = .returned (.string t.name) ∧ Below x.heap.size x w') := fun x => clone_any t.name hokt.1.1 x
 have HC4 : Hid (∀ x, Calls Tryz.prog 85 #[.string t.key] x fun e w' => e = .returned (.string t.key) ∧ Below x.heap.size x w') := fun x => clone_any t.key hokt.1.2.1 x
 have H1 : Hid (w.cell? ⟨b, o + 1, none⟩ = some (.string t.name)) := e1
 have H4 : Hid (w.cell? ⟨b, o + 4, none⟩ = some (.string t.key)) := e4
 have H5 : Hid (w.cell? ⟨b, o + 5, none⟩ = some (.slice q n d)) := e5
 have HE : Hid (w.cell? ⟨b, o, none⟩ = some (.int .i64 t.kind) ∧ w.cell? ⟨b, o + 2, none⟩ = some (.int .u32 t.num) ∧ w.cell? ⟨b, o + 3, none⟩ = some (.int .i64 t.int_) ∧ w.cell? ⟨b, o + 6, none⟩ = some (.int .i64 t.at_)) := ⟨e0, e2, e3, e6⟩
 have HX : Hid (W.heap[w.heap.size]? = some (.cells #[.int .i64 0, .string ⟨#[]⟩, .int .u32 0, .int .i64 0, .string ⟨#[]⟩, .slice none 0 0, .int .i64 0] 29)) := hX
 have HB : Hid (Below w.heap.size w W) := hB
 have HCL : Hid (cntL L + 1 ≤ 40000) := hcL
 clear hme hm hs hlc hwr hc hokt hX hB hL hLG hLl hnn hLk ih hd e0 e1 e2 e3 e4 e5 e6 hka hl hcL
 obtain ⟨i0, hi0, hz0, hz1, hz2⟩ := info_parts info_Node
 go_enter Tryz.func45, Tryz.ntmps45
 go_upto_region 7 with (go_at_call 83; (with_reducible refine (HM.out _ HB.out).mono ?_); rintro e w1 ⟨rfl, hb1⟩; have HB1 : Hid (Below w.heap.size w w1) := bel HB.out hb1; have HX1 : Hid (w1.heap[w.heap.size]? = some (.cells #[.int .i64 0, .string ⟨#[]⟩, .int .u32 0, .int .i64 0, .string ⟨#[]⟩, .slice none 0 0, .int .i64 0] 29)) := (hb1.block _ (hlt HX.out)).trans HX.out; clear hb1)
 obtain ⟨W7, hW7, hX7, hB7, -⟩ := new_box w1
 obtain ⟨⟨q0, q1, q2, q3, q4, q5, q6⟩, r0, r1, r2, r3, r4, r5, r6⟩ := sevenA hX7
 have z0 := (HB1.out.cell (mcell_lt HE.out.1)).trans HE.out.1
 have z1 := (HB1.out.cell (mcell_lt H1.out)).trans H1.out
 have z2 := (HB1.out.cell (mcell_lt HE.out.2.1)).trans HE.out.2.1
 have z3 := (HB1.out.cell (mcell_lt HE.out.2.2.1)).trans HE.out.2.2.1
 have z4 := (HB1.out.cell (mcell_lt H4.out)).trans H4.out
 have z5 := (HB1.out.cell (mcell_lt H5.out)).trans H5.out
 have z6 := (HB1.out.cell (mcell_lt HE.out.2.2.2)).trans HE.out.2.2.2
 go_upto_region 8 with fail
 have ht := BoxT.start (t := t) (sv := .slice q n d) (bel HB1.out hB7) ((hB7.block _ (hlt HX1.out)).trans HX1.out) hX7 (hlt HX1.out)
 obtain ⟨O, hO⟩ : ∃ O, w1.heap.size = O := ⟨_, rfl⟩
 rw [hO] at ht ⊢
 obtain ⟨U7, hU7⟩ : ∃ U, (((((((W7.setCell ⟨O, 0, none⟩ (.int .i64 t.kind)).setCell ⟨O, 1, none⟩ (.string t.name)).setCell ⟨O, 2, none⟩ (.int .u32 t.num)).setCell ⟨O, 3, none⟩ (.int .i64 t.int_)).setCell ⟨O, 4, none⟩ (.string t.key)).setCell ⟨O, 5, none⟩ (.slice q n d)).setCell ⟨O, 6, none⟩ (.int .i64 t.at_)) = U := ⟨_, rfl⟩
 rw [hU7] at ht ⊢
 have HT7 : Hid (BoxT w t (.slice q n d) O U7) := ht
 have y1 := (ht.1.cell (mcell_lt H1.out)).trans H1.out
 have y4 := (ht.1.cell (mcell_lt H4.out)).trans H4.out
 have HBO : Hid (b ≠ O) := by have h1 := mcell_lt H1.out; have h2 := ht.2.2.1; show b ≠ O; simp at h1; omega
 clear ht hU7 hO hW7 hX7 hB7 q0 q1 q2 q3 q4 q5 q6 r0 r1 r2 r3 r4 r5 r6 z0 z1 z2 z3 z4 z5 z6 HX1 HB1 HM hW HB HX
 refine wp_region_held_drew (S := (fun x => x.cell? ⟨b, o + 1, none⟩ = some (.string t.name) ∧ x.cell? ⟨b, o + 4, none⟩ = some (.string t.key))) (by kernel_rfl) ?_ (fun hHeld => ?_)
 ·((try dsimp only); first | assumption | exact ⟨y1, y4⟩ | exact ⟨a1, a4⟩ | exact ⟨d1, d4⟩ | exact ⟨keep_set HBO.out d1, keep_set HBO.out d4⟩ | exact ⟨keep_set HBO.out (keep_set HBO.out d1), keep_set HBO.out (keep_set HBO.out d4)⟩ | exact ⟨keep_set HBO.out (keep_set HBO.out (keep_set HBO.out d1)), keep_set HBO.out (keep_set HBO.out (keep_set HBO.out d4))⟩)
 refine wpAnyH_take (i := 0) (v := ?_) (by simp only [List.getElem?_toArray, List.getElem?_cons_succ, List.getElem?_cons_zero]; rfl) (by kernel_rfl) (by kernel_rfl) (by kernel_rfl) (by exact fun _ _ _ h => h) (Or.inl ⟨by rfl, ?_⟩) (by assumption) ?_
 rotate_left 1
 ·(intro wS hSw; (try dsimp only at hSw); go_simp; try (with_reducible rfl))
 try simp only [Act.put, List.setIfInBounds_toArray, List.set_cons_zero, List.set_cons_succ]
 refine wpAnyH_take (i := 1) (v := ?_) (by simp only [List.getElem?_toArray, List.getElem?_cons_succ, List.getElem?_cons_zero]; rfl) (by kernel_rfl) (by kernel_rfl) (by kernel_rfl) (by exact fun _ _ _ h => h) (Or.inl ⟨by rfl, ?_⟩) (by assumption) ?_
 rotate_left 1
 ·(intro wS hSw; (try dsimp only at hSw); go_simp; try (with_reducible rfl))
 try simp only [Act.put, List.setIfInBounds_toArray, List.set_cons_zero, List.set_cons_succ]
 refine wpAnyH_take (i := 2) (v := ?_) (by simp only [List.getElem?_toArray, List.getElem?_cons_succ, List.getElem?_cons_zero]; rfl) (by kernel_rfl) (by kernel_rfl) (by kernel_rfl) (by exact fun _ _ _ h => h) (Or.inl ⟨by rfl, ?_⟩) (by assumption) ?_
 rotate_left 1
 ·(intro wS hSw; (try dsimp only at hSw); go_simp; try (with_reducible rfl))
 try simp only [Act.put, List.setIfInBounds_toArray, List.set_cons_zero, List.set_cons_succ]
 refine wpAnyH_take (i := 3) (v := ?_) (by simp only [List.getElem?_toArray, List.getElem?_cons_succ, List.getElem?_cons_zero]; rfl) (by kernel_rfl) (by kernel_rfl) (by kernel_rfl) (by exact fun _ _ _ h => h) (Or.inl ⟨by rfl, ?_⟩) (by assumption) ?_
 rotate_left 1
 ·(intro wS hSw; (try dsimp only at hSw); go_simp; try (with_reducible rfl))
 try simp only [Act.put, List.setIfInBounds_toArray, List.set_cons_zero, List.set_cons_succ]
 refine wpAnyH_take (i := 5) (v := ?_) (by simp only [List.getElem?_toArray, List.getElem?_cons_succ, List.getElem?_cons_zero]; rfl) (by kernel_rfl) (by kernel_rfl) (by kernel_rfl) (by exact fun _ _ _ h => h) (Or.inl ⟨by rfl, ?_⟩) (by assumption) ?_
 rotate_left 1
 ·(intro wS hSw; (try dsimp only at hSw); go_simp; try (with_reducible rfl))
 try simp only [Act.put, List.setIfInBounds_toArray, List.set_cons_zero, List.set_cons_succ]
 refine wpAnyH_take (i := 6) (v := ?_) (by simp only [List.getElem?_toArray, List.getElem?_cons_succ, List.getElem?_cons_zero]; rfl) (by kernel_rfl) (by kernel_rfl) (by kernel_rfl) (by exact fun _ _ _ h => h) (Or.inl ⟨by rfl, ?_⟩) (by assumption) ?_
 rotate_left 1
 ·(intro wS hSw; (try dsimp only at hSw); go_simp; try (with_reducible rfl))
 try simp only [Act.put, List.setIfInBounds_toArray, List.set_cons_zero, List.set_cons_succ]
 refine wpAnyH_take (i := 7) (v := ?_) (by simp only [List.getElem?_toArray, List.getElem?_cons_succ, List.getElem?_cons_zero]; rfl) (by kernel_rfl) (by kernel_rfl) (by kernel_rfl) (by exact fun _ _ _ h => h) (Or.inl ⟨by rfl, ?_⟩) (by assumption) ?_
 rotate_left 1
 ·(intro wS hSw; (try dsimp only at hSw); go_simp; try (with_reducible rfl))
 try simp only [Act.put, List.setIfInBounds_toArray, List.set_cons_zero, List.set_cons_succ]
 refine wpAnyH_take (i := 8) (v := ?_) (by simp only [List.getElem?_toArray, List.getElem?_cons_succ, List.getElem?_cons_zero]; rfl) (by kernel_rfl) (by kernel_rfl) (by kernel_rfl) (by exact fun _ _ _ h => h) (Or.inl ⟨by rfl, ?_⟩) (by assumption) ?_
 rotate_left 1
 ·(intro wS hSw; (try dsimp only at hSw); go_simp; try (with_reducible rfl))
 try simp only [Act.put, List.setIfInBounds_toArray, List.set_cons_zero, List.set_cons_succ]
 clear hHeld
 refine wpAnyH_ready (rs := [4]) (by kernel_rfl) (by simp) ?_
 refine AllReadyH.cons (i := 4) (by simp only [List.getElem?_toArray, List.getElem?_cons_succ, List.getElem?_cons_zero]; rfl) (fun K hK => ?_) AllReadyH.nil
 go_simp
 (go_at_call 85; (with_reducible refine (HC1.out _).mono ?_); rintro e v4 ⟨rfl, hb4⟩; have hb4' := bel (bel_d U7) hb4; have HT4 : Hid (BoxT w t (.slice q n d) O v4) := HT7.out.below hb4'; have a1 := (HT4.out.1.cell (mcell_lt H1.out)).trans H1.out; have a4 := (HT4.out.1.cell (mcell_lt H4.out)).trans H4.out; clear hb4 hb4')
 try (go_wp2_with fail)
 refine hK.out _ _ ?_ (fun hHeld => ?_)
 ·((try dsimp only); first | assumption | exact ⟨y1, y4⟩ | exact ⟨a1, a4⟩ | exact ⟨d1, d4⟩ | exact ⟨keep_set HBO.out d1, keep_set HBO.out d4⟩ | exact ⟨keep_set HBO.out (keep_set HBO.out d1), keep_set HBO.out (keep_set HBO.out d4)⟩ | exact ⟨keep_set HBO.out (keep_set HBO.out (keep_set HBO.out d1)), keep_set HBO.out (keep_set HBO.out (keep_set HBO.out d4))⟩)
 clear hK K
 try simp only [Act.put, List.setIfInBounds_toArray, List.set_cons_zero, List.set_cons_succ]
 refine wpAnyH_take (i := 10) (v := ?_) (by simp only [List.getElem?_toArray, List.getElem?_cons_succ, List.getElem?_cons_zero]; rfl) (by kernel_rfl) (by kernel_rfl) (by kernel_rfl) (by exact fun _ _ _ h => h) (Or.inl ⟨by rfl, ?_⟩) (by assumption) ?_
 rotate_left 1
 ·(intro wS hSw; (try dsimp only at hSw); go_simp; try (with_reducible rfl))
 try simp only [Act.put, List.setIfInBounds_toArray, List.set_cons_zero, List.set_cons_succ]
 clear hHeld
 refine wpAnyH_ready (rs := [9]) (by kernel_rfl) (by simp) ?_
 refine AllReadyH.cons (i := 9) (by simp only [List.getElem?_toArray, List.getElem?_cons_succ, List.getElem?_cons_zero]; rfl) (fun K hK => ?_) AllReadyH.nil
 go_simp
 (go_at_call 85; (with_reducible refine (HC4.out _).mono ?_); rintro e v9 ⟨rfl, hb9⟩; have HT9 : Hid (BoxT w t (.slice q n d) O v9) := HT4.out.below hb9; have d1 := (HT9.out.1.cell (mcell_lt H1.out)).trans H1.out; have d4 := (HT9.out.1.cell (mcell_lt H4.out)).trans H4.out; obtain ⟨⟨q0, q1, q2, q3, q4, q5, q6⟩, r0, r1, r2, r3, r4, r5, r6⟩ := sevenA HT9.out.2.2.2; clear hb9)
 try (go_wp2_with fail)
 refine hK.out _ _ ?_ (fun hHeld => ?_)
 ·((try dsimp only); first | assumption | exact ⟨y1, y4⟩ | exact ⟨a1, a4⟩ | exact ⟨d1, d4⟩ | exact ⟨keep_set HBO.out d1, keep_set HBO.out d4⟩ | exact ⟨keep_set HBO.out (keep_set HBO.out d1), keep_set HBO.out (keep_set HBO.out d4)⟩ | exact ⟨keep_set HBO.out (keep_set HBO.out (keep_set HBO.out d1)), keep_set HBO.out (keep_set HBO.out (keep_set HBO.out d4))⟩)
 clear hK K
 try simp only [Act.put, List.setIfInBounds_toArray, List.set_cons_zero, List.set_cons_succ]
 clear hHeld
 refine wpAnyH_ready (rs := [11]) (by kernel_rfl) (by simp) ?_
 refine AllReadyH.cons (i := 11) (by simp only [List.getElem?_toArray, List.getElem?_cons_succ, List.getElem?_cons_zero]; rfl) (fun K hK => ?_) AllReadyH.nil
 go_simp
 refine hK.out _ _ ?_ (fun hHeld => ?_)
 ·((try dsimp only); first | assumption | exact ⟨y1, y4⟩ | exact ⟨a1, a4⟩ | exact ⟨d1, d4⟩ | exact ⟨keep_set HBO.out d1, keep_set HBO.out d4⟩ | exact ⟨keep_set HBO.out (keep_set HBO.out d1), keep_set HBO.out (keep_set HBO.out d4)⟩ | exact ⟨keep_set HBO.out (keep_set HBO.out (keep_set HBO.out d1)), keep_set HBO.out (keep_set HBO.out (keep_set HBO.out d4))⟩)
 clear hK K
 try simp only [Act.put, List.setIfInBounds_toArray, List.set_cons_zero, List.set_cons_succ]
 refine wpAnyH_take (i := 12) (v := ?_) (by simp only [List.getElem?_toArray, List.getElem?_cons_succ, List.getElem?_cons_zero]; rfl) (by kernel_rfl) (by kernel_rfl) (by kernel_rfl) (by exact fun _ _ _ h => h) (Or.inl ⟨by rfl, ?_⟩) (by assumption) ?_
 rotate_left 1
 ·(intro wS hSw; (try dsimp only at hSw); go_simp; try (with_reducible rfl))
 try simp only [Act.put, List.setIfInBounds_toArray, List.set_cons_zero, List.set_cons_succ]
 clear hHeld
 refine wpAnyH_ready (rs := [13]) (by kernel_rfl) (by simp) ?_
 refine AllReadyH.cons (i := 13) (by simp only [List.getElem?_toArray, List.getElem?_cons_succ, List.getElem?_cons_zero]; rfl) (fun K hK => ?_) AllReadyH.nil
 go_simp
 refine hK.out _ _ ?_ (fun hHeld => ?_)
 ·((try dsimp only); first | assumption | exact ⟨y1, y4⟩ | exact ⟨a1, a4⟩ | exact ⟨d1, d4⟩ | exact ⟨keep_set HBO.out d1, keep_set HBO.out d4⟩ | exact ⟨keep_set HBO.out (keep_set HBO.out d1), keep_set HBO.out (keep_set HBO.out d4)⟩ | exact ⟨keep_set HBO.out (keep_set HBO.out (keep_set HBO.out d1)), keep_set HBO.out (keep_set HBO.out (keep_set HBO.out d4))⟩)
 clear hK K
 try simp only [Act.put, List.setIfInBounds_toArray, List.set_cons_zero, List.set_cons_succ]
 refine wpAnyH_take (i := 14) (v := ?_) (by simp only [List.getElem?_toArray, List.getElem?_cons_succ, List.getElem?_cons_zero]; rfl) (by kernel_rfl) (by kernel_rfl) (by kernel_rfl) (by exact fun _ _ _ h => h) (Or.inl ⟨by rfl, ?_⟩) (by assumption) ?_
 rotate_left 1
 ·(intro wS hSw; (try dsimp only at hSw); go_simp; try (with_reducible rfl))
 try simp only [Act.put, List.setIfInBounds_toArray, List.set_cons_zero, List.set_cons_succ]
 clear hHeld
 refine wpAnyH_ready (rs := [15]) (by kernel_rfl) (by simp) ?_
 refine AllReadyH.cons (i := 15) (by simp only [List.getElem?_toArray, List.getElem?_cons_succ, List.getElem?_cons_zero]; rfl) (fun K hK => ?_) AllReadyH.nil
 go_simp
 refine hK.out _ _ ?_ (fun hHeld => ?_)
 ·((try dsimp only); first | assumption | exact ⟨y1, y4⟩ | exact ⟨a1, a4⟩ | exact ⟨d1, d4⟩ | exact ⟨keep_set HBO.out d1, keep_set HBO.out d4⟩ | exact ⟨keep_set HBO.out (keep_set HBO.out d1), keep_set HBO.out (keep_set HBO.out d4)⟩ | exact ⟨keep_set HBO.out (keep_set HBO.out (keep_set HBO.out d1)), keep_set HBO.out (keep_set HBO.out (keep_set HBO.out d4))⟩)
 clear hK K
 try simp only [Act.put, List.setIfInBounds_toArray, List.set_cons_zero, List.set_cons_succ]
 refine wpAnyH_done (by kernel_rfl) ?_ _
 skip
 have ht := HT9.out.again (z := .slice none 0 0)
 obtain ⟨U8, hU8⟩ : ∃ U, ((v9.setCell ⟨O, 1, none⟩ (.string t.name)).setCell ⟨O, 4, none⟩ (.string t.key)).setCell ⟨O, 5, none⟩ (.slice none 0 0) = U := ⟨_, rfl⟩
 rw [hU8] at ht ⊢
 have HT8 : Hid (BoxT w t (.slice none 0 0) O U8) := ht
 have x5 := (ht.1.cell (mcell_lt H5.out)).trans H5.out
 obtain ⟨C, hC⟩ : ∃ C, U8.heap.size = C := ⟨_, rfl⟩
 have HC8 : Hid (U8.heap.size = C ∧ O < C) := ⟨hC, by rw [← hC]; exact hlt ht.2.2.2⟩
 clear ht hU8 hC q0 q1 q2 q3 q4 q5 q6 r0 r1 r2 r3 r4 r5 r6 a1 a4 d1 d4 y1 y4 HT7 HT4 HT9 HC1 HC4
 go_wp2
 go_loopw [59] (fun iv wr => ∃ j : Nat, j ≤ n ∧ iv = .int .i64 j ∧ Hid (∃ ov R F, BoxT w t ov O wr ∧ C ≤ wr.heap.size ∧ RowO wr C ov (L.take j) R F)) (fun iv _ => n - (intOf iv).toNat)
 case atStart => exact ⟨0, Nat.zero_le _, rfl, _, _, _, HT8.out, Nat.le_of_eq HC8.out.1.symm, RowO.nil _ _⟩
 case round =>
  obtain ⟨j, hj, rfl, HS⟩ := hrel
  obtain ⟨ov, R, F, hbt, hCw, hro⟩ := HS.out
  clear HS HT8 x5
  by_cases hlt0 : j < n
  ·have hll : j < t.args.length := by rw [HN.out.1]; exact hlt0
   have hlL : j < L.length := by rw [HN.out.2.1]; exact hlt0
   obtain ⟨b', o', rfl, hka⟩ : ∃ b' o', q = some ⟨b', o', none⟩ ∧ KA w anyH b' o' t.args := by
    rcases HKA.out with e | e
    ·rw [e] at hll; exact absurd hll (Nat.not_lt_zero _)
    ·exact e
   have hnj := KA_get hka hll
   have hwc := fun (x : World) (k : Below wr.heap.size wr x) => HIH.out j hll hlL b' (o' + j * 7) x (bel hbt.1 k) (hnj.below (bel hbt.1 k))
   have HTK : Hid (L.take (j + 1) = L.take j ++ [L[j]]) := by show _ = _; exact ntake_succ hlL
   obtain ⟨Y, hY⟩ : ∃ Y, L[j] = Y := ⟨_, rfl⟩
   rw [hY] at HTK
   simp only [hY] at hwc
   have HWC : Hid (∀ x, Below wr.heap.size wr x → Calls Tryz.prog 45 #[.slice p Lk c, .pointer (some ⟨b', o' + j * 7, none⟩)] x fun e w' => ∃ sv S, e = .returned (.agg #[.int .i64 Y.kind, .string Y.name, .int .u32 Y.num, .int .i64 Y.int_, .string Y.key, sv, .int .i64 Y.at_]) ∧ Ow w' sv Y.args S ∧ (∀ j, S j → x.heap.size ≤ j ∧ j < w'.heap.size) ∧ Below x.heap.size x w') := hwc
   have HR : Hid (RowO wr C ov (L.take j) R F) := hro
   have HJL : Hid ((L.take j).length = j) := by show _ = _; rw [List.length_take]; omega
   have HBT : Hid (BoxT w t ov O wr) := hbt
   have HOC : Hid (w.heap.size < O ∧ O < C) := ⟨hbt.2.2.1, HC8.out.2⟩
   have HCS : Hid (C ≤ wr.heap.size) := hCw
   have x5 := (hbt.1.cell (mcell_lt H5.out)).trans H5.out
   have xO := (sevenA hbt.2.2.2).1.2.2.2.2.2.1
   have i1 : (0 : Int) ≤ (j : Int) := by omega
   have i2 : (j : Int) < (n : Int) := by omega
   clear hwc hY hnj hka hbt hro hCw HIH HKA HE H1 H4
   go_upto_region 12 with fail
   refine wp_region_held_drew (S := (fun x => x.cell? ⟨b, o + 5, none⟩ = some (.slice (some ⟨b', o', none⟩) n d))) (by kernel_rfl) ?_ (fun hHeld => ?_)
   ·((try dsimp only); first | assumption | exact x5 | exact m5 | exact m5A | exact n5 | exact keep_set HBO.out n5)
   refine wpAnyH_take (i := 0) (v := ?_) (by simp only [List.getElem?_toArray, List.getElem?_cons_succ, List.getElem?_cons_zero]; rfl) (by kernel_rfl) (by kernel_rfl) (by kernel_rfl) (by exact fun _ _ _ h => h) (Or.inl ⟨by rfl, ?_⟩) (by assumption) ?_
   rotate_left 1
   ·(intro wS hSw; (try dsimp only at hSw); go_simp; try (with_reducible rfl))
   try simp only [Act.put, List.setIfInBounds_toArray, List.set_cons_zero, List.set_cons_succ]
   refine wpAnyH_take (i := 2) (v := ?_) (by simp only [List.getElem?_toArray, List.getElem?_cons_succ, List.getElem?_cons_zero]; rfl) (by kernel_rfl) (by kernel_rfl) (by kernel_rfl) (by exact fun _ _ _ h => h) (Or.inl ⟨by rfl, ?_⟩) (by assumption) ?_
   rotate_left 1
   ·(intro wS hSw; (try dsimp only at hSw); go_simp; try (with_reducible rfl))
   try simp only [Act.put, List.setIfInBounds_toArray, List.set_cons_zero, List.set_cons_succ]
   refine wpAnyH_take (i := 3) (v := ?_) (by simp only [List.getElem?_toArray, List.getElem?_cons_succ, List.getElem?_cons_zero]; rfl) (by kernel_rfl) (by kernel_rfl) (by kernel_rfl) (by exact fun _ _ _ h => h) (Or.inl ⟨by rfl, ?_⟩) (by assumption) ?_
   rotate_left 1
   ·(intro wS hSw; (try dsimp only at hSw); go_simp; try (with_reducible rfl))
   try simp only [Act.put, List.setIfInBounds_toArray, List.set_cons_zero, List.set_cons_succ]
   refine wpAnyH_take (i := 4) (v := ?_) (by simp only [List.getElem?_toArray, List.getElem?_cons_succ, List.getElem?_cons_zero]; rfl) (by kernel_rfl) (by kernel_rfl) (by kernel_rfl) (by exact fun _ _ _ h => h) (Or.inl ⟨by rfl, ?_⟩) (by assumption) ?_
   rotate_left 1
   ·(intro wS hSw; (try dsimp only at hSw); go_simp; try (with_reducible rfl))
   try simp only [Act.put, List.setIfInBounds_toArray, List.set_cons_zero, List.set_cons_succ]
   refine wpAnyH_take (i := 5) (v := ?_) (by simp only [List.getElem?_toArray, List.getElem?_cons_succ, List.getElem?_cons_zero]; rfl) (by kernel_rfl) (by kernel_rfl) (by kernel_rfl) (by exact fun _ _ _ h => h) (Or.inl ⟨by rfl, ?_⟩) (by assumption) ?_
   rotate_left 1
   ·(intro wS hSw; (try dsimp only at hSw); go_simp; try (with_reducible rfl))
   try simp only [Act.put, List.setIfInBounds_toArray, List.set_cons_zero, List.set_cons_succ]
   refine wpAnyH_take (i := 6) (v := ?_) (by simp only [List.getElem?_toArray, List.getElem?_cons_succ, List.getElem?_cons_zero]; rfl) (by kernel_rfl) (by kernel_rfl) (by kernel_rfl) (by exact fun _ _ _ h => h) (Or.inl ⟨by rfl, ?_⟩) (by assumption) ?_
   rotate_left 1
   ·(intro wS hSw; (try dsimp only at hSw); go_simp; try (with_reducible rfl))
   try simp only [Act.put, List.setIfInBounds_toArray, List.set_cons_zero, List.set_cons_succ]
   refine wpAnyH_take (i := 7) (v := ?_) (by simp only [List.getElem?_toArray, List.getElem?_cons_succ, List.getElem?_cons_zero]; rfl) (by kernel_rfl) (by kernel_rfl) (by kernel_rfl) (by exact fun _ _ _ h => h) (Or.inl ⟨by rfl, ?_⟩) (by assumption) ?_
   rotate_left 1
   ·(intro wS hSw; (try dsimp only at hSw); go_simp; try (with_reducible rfl))
   try simp only [Act.put, List.setIfInBounds_toArray, List.set_cons_zero, List.set_cons_succ]
   refine wpAnyH_take (i := 8) (v := ?_) (by simp only [List.getElem?_toArray, List.getElem?_cons_succ, List.getElem?_cons_zero]; rfl) (by kernel_rfl) (by kernel_rfl) (by kernel_rfl) (by exact fun _ _ _ h => h) (Or.inl ⟨by rfl, ?_⟩) (by assumption) ?_
   rotate_left 1
   ·(intro wS hSw; (try dsimp only at hSw); go_simp; try (with_reducible rfl))
   try simp only [Act.put, List.setIfInBounds_toArray, List.set_cons_zero, List.set_cons_succ]
   clear hHeld
   refine wpAnyH_ready (rs := [1, 9]) (by kernel_rfl) (by simp) ?_
   refine AllReadyH.cons (i := 1) (by simp only [List.getElem?_toArray, List.getElem?_cons_succ, List.getElem?_cons_zero]; rfl) (fun K hK => ?_) ?_
   ·go_simp
    refine hK.out _ _ ?_ (fun hHeld => ?_)
    ·((try dsimp only); first | assumption | exact x5 | exact m5 | exact m5A | exact n5 | exact keep_set HBO.out n5)
    clear hK K
    try simp only [Act.put, List.setIfInBounds_toArray, List.set_cons_zero, List.set_cons_succ]
    clear hHeld
    refine wpAnyH_ready (rs := [9]) (by kernel_rfl) (by simp) ?_
    refine AllReadyH.cons (i := 9) (by simp only [List.getElem?_toArray, List.getElem?_cons_succ, List.getElem?_cons_zero]; rfl) (fun K hK => ?_) AllReadyH.nil
    go_simp
    (go_at_call 45; (with_reducible refine (HWC.out _ (bel_d _)).mono ?_); rintro e w3 ⟨sv3, S3, rfl, how3, hS3, hb3⟩; obtain ⟨p3, c3, rfl, -⟩ := id how3; have hb3' := bel (bel_d wr) hb3; have HOW3 : Hid (Ow w3 (.slice p3 Y.args.length c3) Y.args S3) := how3; have HS3 : Hid (∀ j, S3 j → wr.heap.size ≤ j ∧ j < w3.heap.size) := hS3; have HB3 : Hid (Below wr.heap.size wr w3) := hb3'; have m5 := (hb3'.cell (mcell_lt x5)).trans x5; have mO := (hb3'.cell (mcell_lt xO)).trans xO; have HR3 : Hid (RowO w3 C ov (L.take j) R F) := HR.out.below hb3'; have HZ3 : Hid (C ≤ w3.heap.size) := (Nat.le_trans HCS.out hb3'.size); clear how3 hS3 hb3 hb3')
    try (go_wp2_with fail)
    refine hK.out _ _ ?_ (fun hHeld => ?_)
    ·((try dsimp only); first | assumption | exact x5 | exact m5 | exact m5A | exact n5 | exact keep_set HBO.out n5)
    clear hK K
    try simp only [Act.put, List.setIfInBounds_toArray, List.set_cons_zero, List.set_cons_succ]
    clear hHeld
    refine wpAnyH_ready (rs := [10]) (by kernel_rfl) (by simp) ?_
    refine AllReadyH.cons (i := 10) (by simp only [List.getElem?_toArray, List.getElem?_cons_succ, List.getElem?_cons_zero]; rfl) (fun K hK => ?_) AllReadyH.nil
    go_simp
    have m5A := ((bel_alloc w3 (.cells #[.int .i64 Y.kind, .string Y.name, .int .u32 Y.num, .int .i64 Y.int_, .string Y.key, (.slice p3 Y.args.length c3), .int .i64 Y.at_] 29)).cell (mcell_lt m5)).trans m5
    have mOA := ((bel_alloc w3 (.cells #[.int .i64 Y.kind, .string Y.name, .int .u32 Y.num, .int .i64 Y.int_, .string Y.key, (.slice p3 Y.args.length c3), .int .i64 Y.at_] 29)).cell (mcell_lt mO)).trans mO
    refine hK.out _ _ ?_ (fun hHeld => ?_)
    ·((try dsimp only); first | assumption | exact x5 | exact m5 | exact m5A | exact n5 | exact keep_set HBO.out n5)
    clear hK K
    try simp only [Act.put, List.setIfInBounds_toArray, List.set_cons_zero, List.set_cons_succ]
    clear hHeld
    refine wpAnyH_ready (rs := [11]) (by kernel_rfl) (by simp) ?_
    refine AllReadyH.cons (i := 11) (by simp only [List.getElem?_toArray, List.getElem?_cons_succ, List.getElem?_cons_zero]; rfl) (fun K hK => ?_) AllReadyH.nil
    refine step_append_lies _ rfl _ _ 27 rfl C 29 i0 _ 7 88 Tryz.underlying27 hi0 hz0 hz1 hz2 rfl (by decide) ov j (cellsN R) rfl (World.ownsRow.alloc (show w3.ownsRow C 29 7 ov j (cellsN R) from by have := HR3.out.2.1; rw [HJL.out] at this; exact this) _) ⟨w3.heap.size, 0, none⟩ 1 1 [.int .i64 Y.kind, .string Y.name, .int .u32 Y.num, .int .i64 Y.int_, .string Y.key, (.slice p3 Y.args.length c3), .int .i64 Y.at_] rfl rfl (World.news_of_block (cs := #[.int .i64 Y.kind, .string Y.name, .int .u32 Y.num, .int .i64 Y.int_, .string Y.key, (.slice p3 Y.args.length c3), .int .i64 Y.at_]) (t := 29) (fr := (0, 0)) (box_heapA w3 _)) (by simp [Value.oneCell']) (by decide) (by unfold maxLen; omega) (by omega) (by simp; have := HZ3.out; omega) (w3.heap.size + 1) (by simp) ?_
    intro g cap w4 hown4 hg4 hat4 hlt4
    have HF4 : Hid (RowO w4 C (.slice (some ⟨g, 0, none⟩) (j + 1) cap) (L.take (j + 1)) (R ++ [(Y, .slice p3 Y.args.length c3)]) (fun i => if i = R.length then S3 else F i)) := by
     have := RowO.push (t := Y) (s := .slice p3 Y.args.length c3) HR.out HCS.out HB3.out HOW3.out HS3.out hg4 hat4 (by rw [HJL.out]; exact hown4)
     rw [HJL.out] at this
     show RowO _ _ _ _ _ _
     rw [HTK.out]
     exact this
    have HK4 : Hid (∀ x, x < C → w4.heap[x]? = wr.heap[x]?) := fun x hx => by
     rw [hg4.block x (by simp; have := HZ3.out; omega) (fun e => by have := (HR3.out.lt e.symm).1; omega), (bel_alloc w3 _).block x (by have := HZ3.out; omega)]
     exact HB3.out.block x (by have := HCS.out; omega)
    have hz4 : w3.heap.size ≤ w4.heap.size := by have := hg4.size; simp at this; omega
    have n5 : w4.cell? ⟨b, o + 5, none⟩ = some (.slice (some ⟨b', o', none⟩) n d) := (World.cell?_of_block (w := wr) (HK4.out b (by have h1 := mcell_lt H5.out; have := HOC.out; simp at h1; omega))).trans x5
    have hb4 : Below w.heap.size w w4 := ⟨hg4.os.trans (HB3.out.os.trans HBT.out.1.os), hg4.tape.trans (HB3.out.tape.trans HBT.out.1.tape), hg4.output.trans (HB3.out.output.trans HBT.out.1.output), by have := HBT.out.1.size; have := HB3.out.size; omega, fun x hx => (HK4.out x (by have := HOC.out; omega)).trans (HBT.out.1.block x hx)⟩
    have HBT4 : Hid (BoxT w t ov O w4 ∧ C ≤ w4.heap.size) := ⟨⟨hb4, (HK4.out _ (by have := HOC.out; omega)).trans HBT.out.2.1, HOC.out.1, (HK4.out O HOC.out.2).trans HBT.out.2.2.2⟩, by have := HZ3.out; omega⟩
    obtain ⟨⟨q0, q1, q2, q3, q4, q5, q6⟩, r0, r1, r2, r3, r4, r5, r6⟩ := sevenA HBT4.out.1.2.2.2
    clear hown4 hg4 hat4 hz4 hb4
    refine hK.out _ _ ?_ (fun hHeld => ?_)
    ·((try dsimp only); first | assumption | exact x5 | exact m5 | exact m5A | exact n5 | exact keep_set HBO.out n5)
    clear hK K
    try simp only [Act.put, List.setIfInBounds_toArray, List.set_cons_zero, List.set_cons_succ]
    refine wpAnyH_take (i := 12) (v := ?_) (by simp only [List.getElem?_toArray, List.getElem?_cons_succ, List.getElem?_cons_zero]; rfl) (by kernel_rfl) (by kernel_rfl) (by kernel_rfl) (by exact fun _ _ _ h => h) (Or.inl ⟨by rfl, ?_⟩) (by assumption) ?_
    rotate_left 1
    ·(intro wS hSw; (try dsimp only at hSw); go_simp; try (with_reducible rfl))
    try simp only [Act.put, List.setIfInBounds_toArray, List.set_cons_zero, List.set_cons_succ]
    clear hHeld
    refine wpAnyH_ready (rs := [13]) (by kernel_rfl) (by simp) ?_
    refine AllReadyH.cons (i := 13) (by simp only [List.getElem?_toArray, List.getElem?_cons_succ, List.getElem?_cons_zero]; rfl) (fun K hK => ?_) AllReadyH.nil
    go_simp
    have HF5 : Hid (∃ ov R F, BoxT w t ov O (w4.setCell ⟨O, 5, none⟩ (.slice (some ⟨g, 0, none⟩) (j + 1) cap)) ∧ C ≤ (w4.setCell ⟨O, 5, none⟩ (.slice (some ⟨g, 0, none⟩) (j + 1) cap)).heap.size ∧ RowO (w4.setCell ⟨O, 5, none⟩ (.slice (some ⟨g, 0, none⟩) (j + 1) cap)) C ov (L.take (j + 1)) R F) := ⟨_, _, _, HBT4.out.1.args _, by rw [show (w4.setCell ⟨O, 5, none⟩ (.slice (some ⟨g, 0, none⟩) (j + 1) cap)).heap.size = w4.heap.size by simp [World.setCell]]; exact HBT4.out.2, HF4.out.set HOC.out.2 _ _⟩
    refine hK.out _ _ ?_ (fun hHeld => ?_)
    ·((try dsimp only); first | assumption | exact x5 | exact m5 | exact m5A | exact n5 | exact keep_set HBO.out n5)
    clear hK K
    try simp only [Act.put, List.setIfInBounds_toArray, List.set_cons_zero, List.set_cons_succ]
    refine wpAnyH_done (by kernel_rfl) ?_ _
    clear x5 xO
    have HS2 := HF5
    go_wp2
    go_roundw
    case rel => exact ⟨j + 1, by omega, by go_num, HS2.out⟩
    case measure => simp [intOf]; omega
   refine AllReadyH.cons (i := 9) (by simp only [List.getElem?_toArray, List.getElem?_cons_succ, List.getElem?_cons_zero]; rfl) (fun K hK => ?_) AllReadyH.nil
   go_simp
   (go_at_call 45; (with_reducible refine (HWC.out _ (bel_d _)).mono ?_); rintro e w3 ⟨sv3, S3, rfl, how3, hS3, hb3⟩; obtain ⟨p3, c3, rfl, -⟩ := id how3; have hb3' := bel (bel_d wr) hb3; have HOW3 : Hid (Ow w3 (.slice p3 Y.args.length c3) Y.args S3) := how3; have HS3 : Hid (∀ j, S3 j → wr.heap.size ≤ j ∧ j < w3.heap.size) := hS3; have HB3 : Hid (Below wr.heap.size wr w3) := hb3'; have m5 := (hb3'.cell (mcell_lt x5)).trans x5; have mO := (hb3'.cell (mcell_lt xO)).trans xO; have HR3 : Hid (RowO w3 C ov (L.take j) R F) := HR.out.below hb3'; have HZ3 : Hid (C ≤ w3.heap.size) := (Nat.le_trans HCS.out hb3'.size); clear how3 hS3 hb3 hb3')
   try (go_wp2_with fail)
   refine hK.out _ _ ?_ (fun hHeld => ?_)
   ·((try dsimp only); first | assumption | exact x5 | exact m5 | exact m5A | exact n5 | exact keep_set HBO.out n5)
   clear hK K
   try simp only [Act.put, List.setIfInBounds_toArray, List.set_cons_zero, List.set_cons_succ]
   clear hHeld
   refine wpAnyH_ready (rs := [1, 10]) (by kernel_rfl) (by simp) ?_
   refine AllReadyH.cons (i := 1) (by simp only [List.getElem?_toArray, List.getElem?_cons_succ, List.getElem?_cons_zero]; rfl) (fun K hK => ?_) ?_
   ·go_simp
    refine hK.out _ _ ?_ (fun hHeld => ?_)
    ·((try dsimp only); first | assumption | exact x5 | exact m5 | exact m5A | exact n5 | exact keep_set HBO.out n5)
    clear hK K
    try simp only [Act.put, List.setIfInBounds_toArray, List.set_cons_zero, List.set_cons_succ]
    clear hHeld
    refine wpAnyH_ready (rs := [10]) (by kernel_rfl) (by simp) ?_
    refine AllReadyH.cons (i := 10) (by simp only [List.getElem?_toArray, List.getElem?_cons_succ, List.getElem?_cons_zero]; rfl) (fun K hK => ?_) AllReadyH.nil
    go_simp
    have m5A := ((bel_alloc w3 (.cells #[.int .i64 Y.kind, .string Y.name, .int .u32 Y.num, .int .i64 Y.int_, .string Y.key, (.slice p3 Y.args.length c3), .int .i64 Y.at_] 29)).cell (mcell_lt m5)).trans m5
    have mOA := ((bel_alloc w3 (.cells #[.int .i64 Y.kind, .string Y.name, .int .u32 Y.num, .int .i64 Y.int_, .string Y.key, (.slice p3 Y.args.length c3), .int .i64 Y.at_] 29)).cell (mcell_lt mO)).trans mO
    refine hK.out _ _ ?_ (fun hHeld => ?_)
    ·((try dsimp only); first | assumption | exact x5 | exact m5 | exact m5A | exact n5 | exact keep_set HBO.out n5)
    clear hK K
    try simp only [Act.put, List.setIfInBounds_toArray, List.set_cons_zero, List.set_cons_succ]
    clear hHeld
    refine wpAnyH_ready (rs := [11]) (by kernel_rfl) (by simp) ?_
    refine AllReadyH.cons (i := 11) (by simp only [List.getElem?_toArray, List.getElem?_cons_succ, List.getElem?_cons_zero]; rfl) (fun K hK => ?_) AllReadyH.nil
    refine step_append_lies _ rfl _ _ 27 rfl C 29 i0 _ 7 88 Tryz.underlying27 hi0 hz0 hz1 hz2 rfl (by decide) ov j (cellsN R) rfl (World.ownsRow.alloc (show w3.ownsRow C 29 7 ov j (cellsN R) from by have := HR3.out.2.1; rw [HJL.out] at this; exact this) _) ⟨w3.heap.size, 0, none⟩ 1 1 [.int .i64 Y.kind, .string Y.name, .int .u32 Y.num, .int .i64 Y.int_, .string Y.key, (.slice p3 Y.args.length c3), .int .i64 Y.at_] rfl rfl (World.news_of_block (cs := #[.int .i64 Y.kind, .string Y.name, .int .u32 Y.num, .int .i64 Y.int_, .string Y.key, (.slice p3 Y.args.length c3), .int .i64 Y.at_]) (t := 29) (fr := (0, 0)) (box_heapA w3 _)) (by simp [Value.oneCell']) (by decide) (by unfold maxLen; omega) (by omega) (by simp; have := HZ3.out; omega) (w3.heap.size + 1) (by simp) ?_
    intro g cap w4 hown4 hg4 hat4 hlt4
    have HF4 : Hid (RowO w4 C (.slice (some ⟨g, 0, none⟩) (j + 1) cap) (L.take (j + 1)) (R ++ [(Y, .slice p3 Y.args.length c3)]) (fun i => if i = R.length then S3 else F i)) := by
     have := RowO.push (t := Y) (s := .slice p3 Y.args.length c3) HR.out HCS.out HB3.out HOW3.out HS3.out hg4 hat4 (by rw [HJL.out]; exact hown4)
     rw [HJL.out] at this
     show RowO _ _ _ _ _ _
     rw [HTK.out]
     exact this
    have HK4 : Hid (∀ x, x < C → w4.heap[x]? = wr.heap[x]?) := fun x hx => by
     rw [hg4.block x (by simp; have := HZ3.out; omega) (fun e => by have := (HR3.out.lt e.symm).1; omega), (bel_alloc w3 _).block x (by have := HZ3.out; omega)]
     exact HB3.out.block x (by have := HCS.out; omega)
    have hz4 : w3.heap.size ≤ w4.heap.size := by have := hg4.size; simp at this; omega
    have n5 : w4.cell? ⟨b, o + 5, none⟩ = some (.slice (some ⟨b', o', none⟩) n d) := (World.cell?_of_block (w := wr) (HK4.out b (by have h1 := mcell_lt H5.out; have := HOC.out; simp at h1; omega))).trans x5
    have hb4 : Below w.heap.size w w4 := ⟨hg4.os.trans (HB3.out.os.trans HBT.out.1.os), hg4.tape.trans (HB3.out.tape.trans HBT.out.1.tape), hg4.output.trans (HB3.out.output.trans HBT.out.1.output), by have := HBT.out.1.size; have := HB3.out.size; omega, fun x hx => (HK4.out x (by have := HOC.out; omega)).trans (HBT.out.1.block x hx)⟩
    have HBT4 : Hid (BoxT w t ov O w4 ∧ C ≤ w4.heap.size) := ⟨⟨hb4, (HK4.out _ (by have := HOC.out; omega)).trans HBT.out.2.1, HOC.out.1, (HK4.out O HOC.out.2).trans HBT.out.2.2.2⟩, by have := HZ3.out; omega⟩
    obtain ⟨⟨q0, q1, q2, q3, q4, q5, q6⟩, r0, r1, r2, r3, r4, r5, r6⟩ := sevenA HBT4.out.1.2.2.2
    clear hown4 hg4 hat4 hz4 hb4
    refine hK.out _ _ ?_ (fun hHeld => ?_)
    ·((try dsimp only); first | assumption | exact x5 | exact m5 | exact m5A | exact n5 | exact keep_set HBO.out n5)
    clear hK K
    try simp only [Act.put, List.setIfInBounds_toArray, List.set_cons_zero, List.set_cons_succ]
    refine wpAnyH_take (i := 12) (v := ?_) (by simp only [List.getElem?_toArray, List.getElem?_cons_succ, List.getElem?_cons_zero]; rfl) (by kernel_rfl) (by kernel_rfl) (by kernel_rfl) (by exact fun _ _ _ h => h) (Or.inl ⟨by rfl, ?_⟩) (by assumption) ?_
    rotate_left 1
    ·(intro wS hSw; (try dsimp only at hSw); go_simp; try (with_reducible rfl))
    try simp only [Act.put, List.setIfInBounds_toArray, List.set_cons_zero, List.set_cons_succ]
    clear hHeld
    refine wpAnyH_ready (rs := [13]) (by kernel_rfl) (by simp) ?_
    refine AllReadyH.cons (i := 13) (by simp only [List.getElem?_toArray, List.getElem?_cons_succ, List.getElem?_cons_zero]; rfl) (fun K hK => ?_) AllReadyH.nil
    go_simp
    have HF5 : Hid (∃ ov R F, BoxT w t ov O (w4.setCell ⟨O, 5, none⟩ (.slice (some ⟨g, 0, none⟩) (j + 1) cap)) ∧ C ≤ (w4.setCell ⟨O, 5, none⟩ (.slice (some ⟨g, 0, none⟩) (j + 1) cap)).heap.size ∧ RowO (w4.setCell ⟨O, 5, none⟩ (.slice (some ⟨g, 0, none⟩) (j + 1) cap)) C ov (L.take (j + 1)) R F) := ⟨_, _, _, HBT4.out.1.args _, by rw [show (w4.setCell ⟨O, 5, none⟩ (.slice (some ⟨g, 0, none⟩) (j + 1) cap)).heap.size = w4.heap.size by simp [World.setCell]]; exact HBT4.out.2, HF4.out.set HOC.out.2 _ _⟩
    refine hK.out _ _ ?_ (fun hHeld => ?_)
    ·((try dsimp only); first | assumption | exact x5 | exact m5 | exact m5A | exact n5 | exact keep_set HBO.out n5)
    clear hK K
    try simp only [Act.put, List.setIfInBounds_toArray, List.set_cons_zero, List.set_cons_succ]
    refine wpAnyH_done (by kernel_rfl) ?_ _
    clear x5 xO
    have HS2 := HF5
    go_wp2
    go_roundw
    case rel => exact ⟨j + 1, by omega, by go_num, HS2.out⟩
    case measure => simp [intOf]; omega
   refine AllReadyH.cons (i := 10) (by simp only [List.getElem?_toArray, List.getElem?_cons_succ, List.getElem?_cons_zero]; rfl) (fun K hK => ?_) AllReadyH.nil
   go_simp
   have m5A := ((bel_alloc w3 (.cells #[.int .i64 Y.kind, .string Y.name, .int .u32 Y.num, .int .i64 Y.int_, .string Y.key, (.slice p3 Y.args.length c3), .int .i64 Y.at_] 29)).cell (mcell_lt m5)).trans m5
   have mOA := ((bel_alloc w3 (.cells #[.int .i64 Y.kind, .string Y.name, .int .u32 Y.num, .int .i64 Y.int_, .string Y.key, (.slice p3 Y.args.length c3), .int .i64 Y.at_] 29)).cell (mcell_lt mO)).trans mO
   refine hK.out _ _ ?_ (fun hHeld => ?_)
   ·((try dsimp only); first | assumption | exact x5 | exact m5 | exact m5A | exact n5 | exact keep_set HBO.out n5)
   clear hK K
   try simp only [Act.put, List.setIfInBounds_toArray, List.set_cons_zero, List.set_cons_succ]
   clear hHeld
   refine wpAnyH_ready (rs := [1]) (by kernel_rfl) (by simp) ?_
   refine AllReadyH.cons (i := 1) (by simp only [List.getElem?_toArray, List.getElem?_cons_succ, List.getElem?_cons_zero]; rfl) (fun K hK => ?_) AllReadyH.nil
   go_simp
   refine hK.out _ _ ?_ (fun hHeld => ?_)
   ·((try dsimp only); first | assumption | exact x5 | exact m5 | exact m5A | exact n5 | exact keep_set HBO.out n5)
   clear hK K
   try simp only [Act.put, List.setIfInBounds_toArray, List.set_cons_zero, List.set_cons_succ]
   clear hHeld
   refine wpAnyH_ready (rs := [11]) (by kernel_rfl) (by simp) ?_
   refine AllReadyH.cons (i := 11) (by simp only [List.getElem?_toArray, List.getElem?_cons_succ, List.getElem?_cons_zero]; rfl) (fun K hK => ?_) AllReadyH.nil
   refine step_append_lies _ rfl _ _ 27 rfl C 29 i0 _ 7 88 Tryz.underlying27 hi0 hz0 hz1 hz2 rfl (by decide) ov j (cellsN R) rfl (World.ownsRow.alloc (show w3.ownsRow C 29 7 ov j (cellsN R) from by have := HR3.out.2.1; rw [HJL.out] at this; exact this) _) ⟨w3.heap.size, 0, none⟩ 1 1 [.int .i64 Y.kind, .string Y.name, .int .u32 Y.num, .int .i64 Y.int_, .string Y.key, (.slice p3 Y.args.length c3), .int .i64 Y.at_] rfl rfl (World.news_of_block (cs := #[.int .i64 Y.kind, .string Y.name, .int .u32 Y.num, .int .i64 Y.int_, .string Y.key, (.slice p3 Y.args.length c3), .int .i64 Y.at_]) (t := 29) (fr := (0, 0)) (box_heapA w3 _)) (by simp [Value.oneCell']) (by decide) (by unfold maxLen; omega) (by omega) (by simp; have := HZ3.out; omega) (w3.heap.size + 1) (by simp) ?_
   intro g cap w4 hown4 hg4 hat4 hlt4
   have HF4 : Hid (RowO w4 C (.slice (some ⟨g, 0, none⟩) (j + 1) cap) (L.take (j + 1)) (R ++ [(Y, .slice p3 Y.args.length c3)]) (fun i => if i = R.length then S3 else F i)) := by
    have := RowO.push (t := Y) (s := .slice p3 Y.args.length c3) HR.out HCS.out HB3.out HOW3.out HS3.out hg4 hat4 (by rw [HJL.out]; exact hown4)
    rw [HJL.out] at this
    show RowO _ _ _ _ _ _
    rw [HTK.out]
    exact this
   have HK4 : Hid (∀ x, x < C → w4.heap[x]? = wr.heap[x]?) := fun x hx => by
    rw [hg4.block x (by simp; have := HZ3.out; omega) (fun e => by have := (HR3.out.lt e.symm).1; omega), (bel_alloc w3 _).block x (by have := HZ3.out; omega)]
    exact HB3.out.block x (by have := HCS.out; omega)
   have hz4 : w3.heap.size ≤ w4.heap.size := by have := hg4.size; simp at this; omega
   have n5 : w4.cell? ⟨b, o + 5, none⟩ = some (.slice (some ⟨b', o', none⟩) n d) := (World.cell?_of_block (w := wr) (HK4.out b (by have h1 := mcell_lt H5.out; have := HOC.out; simp at h1; omega))).trans x5
   have hb4 : Below w.heap.size w w4 := ⟨hg4.os.trans (HB3.out.os.trans HBT.out.1.os), hg4.tape.trans (HB3.out.tape.trans HBT.out.1.tape), hg4.output.trans (HB3.out.output.trans HBT.out.1.output), by have := HBT.out.1.size; have := HB3.out.size; omega, fun x hx => (HK4.out x (by have := HOC.out; omega)).trans (HBT.out.1.block x hx)⟩
   have HBT4 : Hid (BoxT w t ov O w4 ∧ C ≤ w4.heap.size) := ⟨⟨hb4, (HK4.out _ (by have := HOC.out; omega)).trans HBT.out.2.1, HOC.out.1, (HK4.out O HOC.out.2).trans HBT.out.2.2.2⟩, by have := HZ3.out; omega⟩
   obtain ⟨⟨q0, q1, q2, q3, q4, q5, q6⟩, r0, r1, r2, r3, r4, r5, r6⟩ := sevenA HBT4.out.1.2.2.2
   clear hown4 hg4 hat4 hz4 hb4
   refine hK.out _ _ ?_ (fun hHeld => ?_)
   ·((try dsimp only); first | assumption | exact x5 | exact m5 | exact m5A | exact n5 | exact keep_set HBO.out n5)
   clear hK K
   try simp only [Act.put, List.setIfInBounds_toArray, List.set_cons_zero, List.set_cons_succ]
   refine wpAnyH_take (i := 12) (v := ?_) (by simp only [List.getElem?_toArray, List.getElem?_cons_succ, List.getElem?_cons_zero]; rfl) (by kernel_rfl) (by kernel_rfl) (by kernel_rfl) (by exact fun _ _ _ h => h) (Or.inl ⟨by rfl, ?_⟩) (by assumption) ?_
   rotate_left 1
   ·(intro wS hSw; (try dsimp only at hSw); go_simp; try (with_reducible rfl))
   try simp only [Act.put, List.setIfInBounds_toArray, List.set_cons_zero, List.set_cons_succ]
   clear hHeld
   refine wpAnyH_ready (rs := [13]) (by kernel_rfl) (by simp) ?_
   refine AllReadyH.cons (i := 13) (by simp only [List.getElem?_toArray, List.getElem?_cons_succ, List.getElem?_cons_zero]; rfl) (fun K hK => ?_) AllReadyH.nil
   go_simp
   have HF5 : Hid (∃ ov R F, BoxT w t ov O (w4.setCell ⟨O, 5, none⟩ (.slice (some ⟨g, 0, none⟩) (j + 1) cap)) ∧ C ≤ (w4.setCell ⟨O, 5, none⟩ (.slice (some ⟨g, 0, none⟩) (j + 1) cap)).heap.size ∧ RowO (w4.setCell ⟨O, 5, none⟩ (.slice (some ⟨g, 0, none⟩) (j + 1) cap)) C ov (L.take (j + 1)) R F) := ⟨_, _, _, HBT4.out.1.args _, by rw [show (w4.setCell ⟨O, 5, none⟩ (.slice (some ⟨g, 0, none⟩) (j + 1) cap)).heap.size = w4.heap.size by simp [World.setCell]]; exact HBT4.out.2, HF4.out.set HOC.out.2 _ _⟩
   refine hK.out _ _ ?_ (fun hHeld => ?_)
   ·((try dsimp only); first | assumption | exact x5 | exact m5 | exact m5A | exact n5 | exact keep_set HBO.out n5)
   clear hK K
   try simp only [Act.put, List.setIfInBounds_toArray, List.set_cons_zero, List.set_cons_succ]
   refine wpAnyH_done (by kernel_rfl) ?_ _
   clear x5 xO
   have HS2 := HF5
   go_wp2
   go_roundw
   case rel => exact ⟨j + 1, by omega, by go_num, HS2.out⟩
   case measure => simp [intOf]; omega
  ·have : j = n := by omega
   subst this
   have i2 : ¬ ((j : Int) < (j : Int)) := by omega
   have hlj : L.take j = L := List.take_of_length_le (by rw [HN.out.2.1]; exact Nat.le_refl _)
   rw [hlj] at hro
   obtain ⟨S, how, hS⟩ := hro.ow
   obtain ⟨po, co, rfl, -⟩ := id how
   have hbs : BoxS w (argsN t L) (.slice po L.length co) S O wr := ⟨hbt.1, hbt.2.1, hbt.2.2.1, hbt.2.2.2, how, fun x hx => ⟨by have := hS x hx; have := HC8.out.2; have := hbt.2.2.1; omega, by have := hS x hx; have := HC8.out.2; omega, (hS x hx).2⟩⟩
   have HBK : Hid (BoxS w (argsN t L) (.slice po L.length co) S O wr) := hbs
   obtain ⟨⟨q0, q1, q2, q3, q4, q5, q6⟩, -⟩ := sevenA hbs.2.2.2.1
   obtain ⟨⟨s0, s1, s2, s3, s4, s5, s6⟩, r0, r1, r2, r3, r4, r5, r6⟩ := sevenA hbs.2.1
   clear hbs how hS hro hbt hlj HIH HKA
   go_wp2
   refine bodyPost_ret (by simp [results, Tryz.results45, go_sem, s0, s1, s2, s3, s4, s5, s6, r0, r1, r2, r3, r4, r5, r6]; try rfl) rfl ?_
   obtain ⟨⟨S', hd1, hd2⟩, hd3⟩ := HBK.out.done (.int .i64 t.kind) (.string t.name) (.int .u32 t.num) (.int .i64 t.int_) (.string t.key) (.slice po L.length co) (.int .i64 t.at_)
   exact ⟨_, rfl, S', hd1, hd2, hd3⟩
end Go.Proofs.YtmiidhgbdecdkaaGreat
