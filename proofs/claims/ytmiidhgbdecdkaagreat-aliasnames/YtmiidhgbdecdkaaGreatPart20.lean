import Derived.Test.YtmiidhgbdecdkaaGreatPart19
import Derived.ChangeKeysEq
import Derived.Test.YtmiidhgbdecdkaaGreatPart1
import Derived.Test.YtmiidhgbdecdkaaGreatPart4
namespace Go.Proofs.YtmiidhgbdecdkaaGreat
open Go.RowKit
set_option linter.unusedVariables false
set_option linter.unusedSimpArgs false
theorem off_sevenR (v : World) (O : Nat) (a b c d e f g : Value) : Off O v (((((((v.setCell ⟨O, 0, none⟩ a).setCell ⟨O, 1, none⟩ b).setCell ⟨O, 2, none⟩ c).setCell ⟨O, 3, none⟩ d).setCell ⟨O, 4, none⟩ e).setCell ⟨O, 5, none⟩ f).setCell ⟨O, 6, none⟩ g) :=
 ((((((((Off.refl O v).set 0 a).set 1 b).set 2 c).set 3 d).set 4 e).set 5 f).set 6 g)
theorem row_cells {w : World} {A Z : Array Value} {b' : Nat} {F : Nat → Blk} {S : Blk} {l : List Nd} {j k i : Nat} {v : World} (h : RpS w A Z b' F S l j k v) (hi : i < l.length) :
  ((∃ u, v.cell? ⟨b', i * 7, none⟩ = some u) ∧ v.frozen? ⟨b', i * 7, none⟩ = false) ∧ ((∃ u, v.cell? ⟨b', i * 7 + 1, none⟩ = some u) ∧ v.frozen? ⟨b', i * 7 + 1, none⟩ = false) ∧ ((∃ u, v.cell? ⟨b', i * 7 + 2, none⟩ = some u) ∧ v.frozen? ⟨b', i * 7 + 2, none⟩ = false) ∧ ((∃ u, v.cell? ⟨b', i * 7 + 3, none⟩ = some u) ∧ v.frozen? ⟨b', i * 7 + 3, none⟩ = false) ∧ ((∃ u, v.cell? ⟨b', i * 7 + 4, none⟩ = some u) ∧ v.frozen? ⟨b', i * 7 + 4, none⟩ = false) ∧ ((∃ u, v.cell? ⟨b', i * 7 + 5, none⟩ = some u) ∧ v.frozen? ⟨b', i * 7 + 5, none⟩ = false) ∧ ((∃ u, v.cell? ⟨b', i * 7 + 6, none⟩ = some u) ∧ v.frozen? ⟨b', i * 7 + 6, none⟩ = false) := by
 obtain ⟨cs, h1, h2⟩ := h.blk (ne_of_lt hi)
 have key : ∀ q, q < 7 → (∃ u, v.cell? ⟨b', i * 7 + q, none⟩ = some u) ∧ v.frozen? ⟨b', i * 7 + q, none⟩ = false := fun q hq => by
  have := at_cell h1 (i * 7 + q) (u := cs[i * 7 + q]'(by omega)) (Array.getElem?_eq_getElem _)
  exact ⟨⟨_, this.1⟩, this.2⟩
 exact ⟨key 0 (by decide), key 1 (by decide), key 2 (by decide), key 3 (by decide), key 4 (by decide), key 5 (by decide), key 6 (by decide)⟩
def ReplM (N : Nat) : Prop := ∀ (bt : Nat) (t : Nd) (sv : Value) (S : Blk) (w : World), dep t ≤ N → cnt t ≤ 40000 → ok1 t → int1 t → (faultA t).1 = 0 → Tab w bt → (∀ j, S j → j < w.heap.size) → Ow w sv t.args S →
 Calls Tryz.prog 21 #[.map (some bt), nv t sv] w fun e w' => ∃ sv', e = .returned (nv (wholeN t) sv') ∧ Kids w' (inH (fun j => S j ∨ w.heap.size ≤ j)) sv' (wholeN t).args ∧ OffN S w w'
set_option maxRecDepth 100000 in
set_option maxHeartbeats 4000000 in
theorem replm_step (N : Nat) (ih : ReplM N) : ReplM (N + 1) := by
 intro bt t sv S w hd hc hok hin hfa ht hS ho
 have hlen : t.args.length ≤ 40000 := by have := cntL_len t.args; unfold cnt at hc; omega
 obtain ⟨p, c, b', F, rfl, hp, hf, hst⟩ := rp_start ho hS
 obtain ⟨her, hfl⟩ := fault_parts hfa
 obtain ⟨l, hll⟩ : ∃ l, t.args = l := ⟨_, rfl⟩
 have hW : wholeN t = oneA t (wholeL l) := by rw [← hll]; rfl
 have HIH : Hid (∀ j (hj : j < l.length) (sv : Value) (S' : Blk) (x : World), Tab x bt → (∀ j, S' j → j < x.heap.size) → Ow x sv l[j].args S' → Calls Tryz.prog 21 #[.map (some bt), nv l[j] sv] x fun e w' => ∃ sv', e = .returned (nv (wholeN l[j]) sv') ∧ Kids w' (inH (fun z => S' z ∨ x.heap.size ≤ z)) sv' (wholeN l[j]).args ∧ OffN S' x w') := fun j hj sv S' x h1 h2 h3 => by
  subst hll
  exact ih bt t.args[j] sv S' x (by have h1 := dep_get hj; unfold dep at hd; omega) (by have h1 := cnt_get hj; unfold cnt at hc; omega) (okL_get hok.2 hj) (intL_get hin.2 hj) (faultAL_get hfl hj) h1 h2 h3
 have hokl : ∀ x ∈ l, okR x := fun x hx => by
  subst hll
  obtain ⟨i, hi, rfl⟩ := List.getElem_of_mem hx
  have h1 := (okL_get hok.2 hi).1
  exact ⟨⟨h1.2.2.1, h1.2.2.2⟩, (intL_get hin.2 hi).1⟩
 have hkk : ∀ x ∈ wholeL l, x.key.size ≤ maxLen := fun x hx => by
  rw [wholeL_map] at hx
  obtain ⟨y, hy, rfl⟩ := List.mem_map.1 hx
  rw [whole_key]
  exact keys_size hok.2 y (by rw [hll]; exact hy)
 have hnm : t.name.size ≤ maxLen := by have := hok.1.1; unfold maxLen; omega
 rw [hll] at hp hf hst hlen
 have HP : Hid ((l = [] ∧ p = none ∧ c = 0) ∨ (l ≠ [] ∧ p = some ⟨b', 0, none⟩ ∧ l.length ≤ c)) := hp
 have HF : Hid (RpF w b' F S l) := hf
 have HT : Hid (Tab w bt) := ht
 obtain ⟨n, hnn⟩ : ∃ n, l.length = n := ⟨_, rfl⟩
 have HN : Hid (l.length = n) := hnn
 rw [hll, hnn]
 rw [hnn] at hlen
 have HLN : Hid (n ≤ 40000) := hlen
 obtain ⟨A, hA⟩ : ∃ A : Array Value, (#[.int .i64 t.kind, .string t.name, .int .u32 t.num, .int .i64 t.int_, .string t.key, .slice p n c, .int .i64 t.at_] : Array Value) = A := ⟨_, rfl⟩
 obtain ⟨Z, hZ⟩ : ∃ Z : Array Value, (#[.int .i64 0, .string ⟨#[]⟩, .int .u32 0, .int .i64 0, .string ⟨#[]⟩, .slice none 0 0, .int .i64 0] : Array Value) = Z := ⟨_, rfl⟩
 obtain ⟨W, hWw⟩ : ∃ W, w.alloc (.cells #[.int .i64 t.kind, .string t.name, .int .u32 t.num, .int .i64 t.int_, .string t.key, .slice p n c, .int .i64 t.at_] 29) = W := ⟨_, rfl⟩
 have hbx : Below w.heap.size w W := by rw [← hWw]; exact bel_alloc _ _
 have hxx : W.heap[w.heap.size]? = some (.cells A 29) := by rw [← hWw, ← hA]; exact box_heapA _ _
 have hsz : W.heap.size = w.heap.size + 1 := by rw [← hWw]; simp
 obtain ⟨W1, hW1, hX1, hB1, -⟩ := new_box W
 rw [hsz, hZ] at hX1
 have HST : Hid (RpS w A Z b' F S l 0 0 W1) := hst W1 A Z (bel hbx hB1) ((hB1.block _ (hlt hxx)).trans hxx) hX1
 have HB5 : Hid (∀ v : World, v.heap[w.heap.size]? = some (.cells A 29) → v.cell? ⟨w.heap.size, 5, none⟩ = some (.slice p n c)) := fun v hv => by
  rw [← hA] at hv
  exact (sevenA hv).1.2.2.2.2.2.1
 have s5 := HB5.out W1 HST.out.bx
 have HWW : Hid (wholeN t = oneA t (wholeL l) ∧ t.args = l) := ⟨hW, hll⟩
 have HER : Hid ((errA t).1 = 0) := her
 have HOK : Hid ((∀ x ∈ l, okR x) ∧ (∀ x ∈ wholeL l, x.key.size ≤ maxLen) ∧ t.name.size ≤ maxLen) := ⟨hokl, hkk, hnm⟩
 have HAZ : Hid ((#[.int .i64 t.kind, .string t.name, .int .u32 t.num, .int .i64 t.int_, .string t.key, .slice p n c, .int .i64 t.at_] : Array Value) = A ∧ (#[.int .i64 0, .string ⟨#[]⟩, .int .u32 0, .int .i64 0, .string ⟨#[]⟩, .slice none 0 0, .int .i64 0] : Array Value) = Z) := ⟨hA, hZ⟩
 unfold nv
 clear hd hc hok hin hfa ht hS ho ih hp hf hst hbx hxx hX1 hB1 hll hW her hfl hokl hkk hnm hnn hA hZ
 go_enter Tryz.func21, Tryz.ntmps21
 go_wp2
 go_loopw [12] (fun iv wr => ∃ j : Nat, j ≤ n ∧ iv = .int .i64 j ∧ Hid (RpS w A Z b' F S l j j wr)) (fun iv _ => n - (intOf iv).toNat)
 case atStart => exact ⟨0, Nat.zero_le _, rfl, HST.out⟩
 case round =>
  obtain ⟨j, hj, rfl, HS⟩ := hrel
  clear HST s5 hWw hW1 hsz
  by_cases hlt0 : j < n
  ·have hll : j < l.length := by rw [HN.out]; exact hlt0
   obtain ⟨rfl, hlc⟩ : p = some ⟨b', 0, none⟩ ∧ l.length ≤ c := by
    rcases HP.out with ⟨e, -⟩ | ⟨-, e⟩
    ·rw [e] at hll; exact absurd hll (Nat.not_lt_zero _)
    ·exact e
   have hno := HS.out.yet j hll (Nat.le_refl _)
   obtain ⟨X, hX⟩ : ∃ X, l[j] = X := ⟨_, rfl⟩
   obtain ⟨T, hT⟩ : ∃ T, wholeN l[j] = T := ⟨_, rfl⟩
   have hca := HIH.out j hll
   rw [hT] at hca
   rw [hX] at hno hca
   obtain ⟨y0, y1, y2, y3, y4, y6, svx, y5, hox⟩ := hno
   obtain ⟨px, cx, rfl, -⟩ := id hox
   have HCJ : Hid (∀ x, Below wr.heap.size wr x → Calls Tryz.prog 21 #[.map (some bt), .agg #[.int .i64 X.kind, .string X.name, .int .u32 X.num, .int .i64 X.int_, .string X.key, .slice px X.args.length cx, .int .i64 X.at_]] x fun e w' => ∃ p c, e = .returned (.agg #[.int .i64 T.kind, .string T.name, .int .u32 T.num, .int .i64 T.int_, .string T.key, .slice p T.args.length c, .int .i64 T.at_]) ∧ Kids w' (inH (fun z => F j z ∨ w.heap.size + 1 < z)) (.slice p T.args.length c) T.args ∧ OffN (F j) wr w') := fun x hx => by
    have hSz : ∀ z, F j z → z < wr.heap.size := fun z hz => by have h1 := HF.out.lt z (HF.out.inS j z hz).1; have h2 := HS.out.big; omega
    refine (hca (.slice px X.args.length cx) (F j) x ((HT.out.offN HS.out.off).below hx) (fun z hz => by have := hSz z hz; have := hx.size; omega) (hox.keep fun z hz => hx.block z (hSz z hz))).mono fun e w' ⟨sv', h1, h2, h3⟩ => ?_
    obtain ⟨p4, c4, rfl, -⟩ := id h2
    exact ⟨p4, c4, h1, h2.weak (inH.sub fun z hz => hz.imp id fun hz => by have := HS.out.big; have := hx.size; omega), (OffN.of hx).trans h3⟩
   have HRC : Hid (∀ x, OffN (F j) wr x → RpS w A Z b' F S l j (j + 1) x) := fun x hx => HS.out.call HF.out hx
   have HBS : Hid (b' < w.heap.size) := HF.out.lt b' (HF.out.hb (ne_of_lt hll)).1
   have HTT : Hid (wholeN l[j] = T) := hT
   have x5 := HB5.out wr HS.out.bx
   have i1 : (0 : Int) ≤ (j : Int) := by omega
   have i2 : (j : Int) < (n : Int) := by omega
   clear hca hox hX hT HIH HS hlc HT HER HOK HWW HAZ
   go_upto_region 4 with fail
   refine wp_region_held_drew (S := (fun x => x.cell? ⟨w.heap.size, 5, none⟩ = some (.slice (some ⟨b', 0, none⟩) n c))) (by kernel_rfl) ?_ (fun hHeld => ?_)
   ·((try dsimp only); first | assumption | exact x5 | exact m5 | exact m5s)
   refine wpAnyH_take (i := 0) (v := ?_) (by simp only [List.getElem?_toArray, List.getElem?_cons_succ, List.getElem?_cons_zero]; rfl) (by kernel_rfl) (by kernel_rfl) (by kernel_rfl) (by exact fun _ _ _ h => h) (Or.inl ⟨by rfl, ?_⟩) (by assumption) ?_
   rotate_left 1
   ·(intro wS hSw; (try dsimp only at hSw); go_simp; try (with_reducible rfl))
   try simp only [Act.put, List.setIfInBounds_toArray, List.set_cons_zero, List.set_cons_succ]
   refine wpAnyH_take (i := 1) (v := ?_) (by simp only [List.getElem?_toArray, List.getElem?_cons_succ, List.getElem?_cons_zero]; rfl) (by kernel_rfl) (by kernel_rfl) (by kernel_rfl) (by exact fun _ _ _ h => h) (Or.inl ⟨by rfl, ?_⟩) (by assumption) ?_
   rotate_left 1
   ·(intro wS hSw; (try dsimp only at hSw); go_simp; try (with_reducible rfl))
   try simp only [Act.put, List.setIfInBounds_toArray, List.set_cons_zero, List.set_cons_succ]
   refine wpAnyH_take (i := 2) (v := ?_) (by simp only [List.getElem?_toArray, List.getElem?_cons_succ, List.getElem?_cons_zero]; rfl) (by kernel_rfl) (by kernel_rfl) (by kernel_rfl) (by exact fun _ _ _ h => h) (Or.inl ⟨by rfl, ?_⟩) (by assumption) ?_
   rotate_left 1
   ·(intro wS hSw; (try dsimp only at hSw); go_simp; try (with_reducible rfl))
   try simp only [Act.put, List.setIfInBounds_toArray, List.set_cons_zero, List.set_cons_succ]
   refine wpAnyH_take (i := 3) (v := ?_) (by simp only [List.getElem?_toArray, List.getElem?_cons_succ, List.getElem?_cons_zero]; rfl) (by kernel_rfl) (by kernel_rfl) (by kernel_rfl) (by exact fun _ _ _ h => h) (Or.inl ⟨by rfl, ?_⟩) (by assumption) ?_
   rotate_left 1
   ·(intro wS hSw; (try dsimp only at hSw); go_simp; try (with_reducible rfl))
   try simp only [Act.put, List.setIfInBounds_toArray, List.set_cons_zero, List.set_cons_succ]
   refine wpAnyH_take (i := 4) (v := ?_) (by simp only [List.getElem?_toArray, List.getElem?_cons_succ, List.getElem?_cons_zero]; rfl) (by kernel_rfl) (by kernel_rfl) (by kernel_rfl) (by exact fun _ _ _ h => h) (Or.inl ⟨by rfl, ?_⟩) (by assumption) ?_
   rotate_left 1
   ·(intro wS hSw; (try dsimp only at hSw); go_simp; try (with_reducible rfl))
   try simp only [Act.put, List.setIfInBounds_toArray, List.set_cons_zero, List.set_cons_succ]
   refine wpAnyH_take (i := 5) (v := ?_) (by simp only [List.getElem?_toArray, List.getElem?_cons_succ, List.getElem?_cons_zero]; rfl) (by kernel_rfl) (by kernel_rfl) (by kernel_rfl) (by exact fun _ _ _ h => h) (Or.inl ⟨by rfl, ?_⟩) (by assumption) ?_
   rotate_left 1
   ·(intro wS hSw; (try dsimp only at hSw); go_simp; try (with_reducible rfl))
   try simp only [Act.put, List.setIfInBounds_toArray, List.set_cons_zero, List.set_cons_succ]
   refine wpAnyH_take (i := 6) (v := ?_) (by simp only [List.getElem?_toArray, List.getElem?_cons_succ, List.getElem?_cons_zero]; rfl) (by kernel_rfl) (by kernel_rfl) (by kernel_rfl) (by exact fun _ _ _ h => h) (Or.inl ⟨by rfl, ?_⟩) (by assumption) ?_
   rotate_left 1
   ·(intro wS hSw; (try dsimp only at hSw); go_simp; try (with_reducible rfl))
   try simp only [Act.put, List.setIfInBounds_toArray, List.set_cons_zero, List.set_cons_succ]
   refine wpAnyH_take (i := 7) (v := ?_) (by simp only [List.getElem?_toArray, List.getElem?_cons_succ, List.getElem?_cons_zero]; rfl) (by kernel_rfl) (by kernel_rfl) (by kernel_rfl) (by exact fun _ _ _ h => h) (Or.inl ⟨by rfl, ?_⟩) (by assumption) ?_
   rotate_left 1
   ·(intro wS hSw; (try dsimp only at hSw); go_simp; try (with_reducible rfl))
   try simp only [Act.put, List.setIfInBounds_toArray, List.set_cons_zero, List.set_cons_succ]
   clear hHeld
   refine wpAnyH_ready (rs := [8]) (by kernel_rfl) (by simp) ?_
   refine AllReadyH.cons (i := 8) (by simp only [List.getElem?_toArray, List.getElem?_cons_succ, List.getElem?_cons_zero]; rfl) (fun K hK => ?_) AllReadyH.nil
   go_simp
   refine hK.out _ _ ?_ (fun hHeld => ?_)
   ·((try dsimp only); first | assumption | exact x5 | exact m5 | exact m5s)
   clear hK K
   try simp only [Act.put, List.setIfInBounds_toArray, List.set_cons_zero, List.set_cons_succ]
   clear hHeld
   refine wpAnyH_ready (rs := [9]) (by kernel_rfl) (by simp) ?_
   refine AllReadyH.cons (i := 9) (by simp only [List.getElem?_toArray, List.getElem?_cons_succ, List.getElem?_cons_zero]; rfl) (fun K hK => ?_) AllReadyH.nil
   go_simp
   (go_at_call 21; (with_reducible refine (HCJ.out _ (bel_d _)).mono ?_); rintro e w3 ⟨p3, c3, rfl, hk3, hx3⟩; have HRP3 : Hid (RpS w A Z b' F S l j (j + 1) w3) := HRC.out w3 hx3; have HK3 : Hid (Kids w3 (inH (fun z => F j z ∨ w.heap.size + 1 < z)) (.slice p3 T.args.length c3) T.args) := hk3; clear hk3 hx3; have m5 := (HB5.out _ HRP3.out.bx); obtain ⟨⟨⟨u0, a0⟩, b0⟩, ⟨⟨u1, a1⟩, b1⟩, ⟨⟨u2, a2⟩, b2⟩, ⟨⟨u3, a3⟩, b3⟩, ⟨⟨u4, a4⟩, b4⟩, ⟨⟨u5, a5⟩, b5⟩, ⟨⟨u6, a6⟩, b6⟩⟩ := row_cells HRP3.out hll)
   try (go_wp2_with fail)
   refine hK.out _ _ ?_ (fun hHeld => ?_)
   ·((try dsimp only); first | assumption | exact x5 | exact m5 | exact m5s)
   clear hK K
   try simp only [Act.put, List.setIfInBounds_toArray, List.set_cons_zero, List.set_cons_succ]
   refine wpAnyH_take (i := 10) (v := ?_) (by simp only [List.getElem?_toArray, List.getElem?_cons_succ, List.getElem?_cons_zero]; rfl) (by kernel_rfl) (by kernel_rfl) (by kernel_rfl) (by exact fun _ _ _ h => h) (Or.inl ⟨by rfl, ?_⟩) (by assumption) ?_
   rotate_left 1
   ·(intro wS hSw; (try dsimp only at hSw); go_simp; try (with_reducible rfl))
   try simp only [Act.put, List.setIfInBounds_toArray, List.set_cons_zero, List.set_cons_succ]
   clear hHeld
   refine wpAnyH_ready (rs := [11]) (by kernel_rfl) (by simp) ?_
   refine AllReadyH.cons (i := 11) (by simp only [List.getElem?_toArray, List.getElem?_cons_succ, List.getElem?_cons_zero]; rfl) (fun K hK => ?_) AllReadyH.nil
   go_simp
   have m5s : (((((((w3.setCell ⟨b', j * 7, none⟩ (.int .i64 T.kind)).setCell ⟨b', j * 7 + 1, none⟩ (.string T.name)).setCell ⟨b', j * 7 + 2, none⟩ (.int .u32 T.num)).setCell ⟨b', j * 7 + 3, none⟩ (.int .i64 T.int_)).setCell ⟨b', j * 7 + 4, none⟩ (.string T.key)).setCell ⟨b', j * 7 + 5, none⟩ (.slice p3 T.args.length c3)).setCell ⟨b', j * 7 + 6, none⟩ (.int .i64 T.at_)).cell? ⟨w.heap.size, 5, none⟩ = some (.slice (some ⟨b', 0, none⟩) n c) := by
    have ho := put7_off w3 b' (j * 7) (.int .i64 T.kind) (.string T.name) (.int .u32 T.num) (.int .i64 T.int_) (.string T.key) (.slice p3 T.args.length c3) (.int .i64 T.at_)
    exact (World.cell?_of_block (w := w3) (a := ⟨w.heap.size, 5, none⟩) (ho.2.2.2.2 w.heap.size (by have := HBS.out; omega))).trans m5
   refine hK.out _ _ ?_ (fun hHeld => ?_)
   ·((try dsimp only); first | assumption | exact x5 | exact m5 | exact m5s)
   clear hK K
   try simp only [Act.put, List.setIfInBounds_toArray, List.set_cons_zero, List.set_cons_succ]
   refine wpAnyH_done (by kernel_rfl) ?_ _
   skip
   have hrp := HRP3.out.put HF.out hll HTT.out HK3.out
   have HRN : Hid (RpS w A Z b' F S l (j + 1) (j + 1) (((((((w3.setCell ⟨b', j * 7, none⟩ (.int .i64 T.kind)).setCell ⟨b', j * 7 + 1, none⟩ (.string T.name)).setCell ⟨b', j * 7 + 2, none⟩ (.int .u32 T.num)).setCell ⟨b', j * 7 + 3, none⟩ (.int .i64 T.int_)).setCell ⟨b', j * 7 + 4, none⟩ (.string T.key)).setCell ⟨b', j * 7 + 5, none⟩ (.slice p3 T.args.length c3)).setCell ⟨b', j * 7 + 6, none⟩ (.int .i64 T.at_))) := hrp
   clear hrp x5 m5 m5s y0 y1 y2 y3 y4 y5 y6 a0 a1 a2 a3 a4 a5 a6 b0 b1 b2 b3 b4 b5 b6
   go_wp2
   go_roundw
   case rel => exact ⟨j + 1, by omega, by go_num, HRN.out⟩
   case measure => simp [intOf]; omega
  ·have : j = n := by omega
   subst this
   have i2 : ¬ ((j : Int) < (j : Int)) := by omega
   have hks := HS.out.kids HF.out HN.out (by rw [← HN.out]; exact HP.out)
   have hbx := HS.out.bx
   have hrx := HS.out.rx
   rw [← HAZ.out.1] at hbx
   rw [← HAZ.out.2] at hrx
   have HBX := hidM hbx
   have HRX := hidM hrx
   obtain ⟨⟨x0, x1, x2, x3, x4, x5, x6⟩, -⟩ := sevenA hbx
   have HNA : Hid (NodeA wr (inH (fun x => S x ∨ w.heap.size + 1 < x)) w.heap.size 0 (argsN t (wholeL l))) := ⟨x0, x1, x2, x3, x4, x6, _, x5, by have := hks; rw [← HN.out] at this ⊢; rw [← wholeL_len l] at this ⊢; exact this⟩
   have HKS := hidM hks
   have HOF : Hid (OffN S w wr ∧ Tab wr bt ∧ w.heap.size + 2 ≤ wr.heap.size) := ⟨HS.out.off, HT.out.offN HS.out.off, HS.out.big⟩
   have hfd := tfind_any bt w.heap.size 0 (argsN t (wholeL l)) wr HOK.out.2.2 HOF.out.2.1 (HNA.out.weak fun _ _ _ _ => trivial)
   have hfe2 : findE (argsN t (wholeL l)) = findE t := rfl
   rw [hfe2] at hfd
   have HFD : Hid (Calls Tryz.prog 46 #[.map (some bt), .pointer (some ⟨w.heap.size, 0, none⟩)] wr fun e w' => Below wr.heap.size wr w' ∧ ((∃ en q c f x1 x2, findE t = some en ∧ RowE w' (.agg #[.slice q en.2.1.length c, .func f x1 x2]) en ∧ e = .returned (.tuple #[.agg #[.slice q en.2.1.length c, .func f x1 x2], .bool true])) ∨ (findE t = none ∧ e = .returned (.tuple #[.agg #[.slice none 0 0, .nilFunc], .bool false])))) := hfd
   clear hbx hrx hks hfd hfe2 x0 x1 x2 x3 x4 x5 x6 HIH HS HT HP
   cases hfe : findE t with
   | none =>
    rw [hfe] at HFD
    have HWN : Hid (wholeN t = argsN t (wholeL l)) := by
     show _ = _
     rw [HWW.out.1]
     unfold oneA
     rcases find_both t with ⟨-, h2⟩ | ⟨p, -, h2, -⟩
     ·rw [h2]
     ·rw [hfe] at h2; cases h2
    clear hfe HWW HER HOK HAZ HNA
    go_upto_region 8 with (go_at_call 46; (with_reducible refine HFD.out.mono ?_); rintro e v1 ⟨hb1, ⟨en, q, c, f, x1, x2, hh, -⟩ | ⟨-, rfl⟩⟩; (exact absurd hh (by simp)); have HB1 := hidM hb1; clear hb1; obtain ⟨W3, hW3, hX3, hB3⟩ := new_row v1; obtain ⟨⟨u0, u1⟩, a0, a1⟩ := twoC hX3; have HB3 := hidM hB3; clear hX3 hB3)
    have hb9 := bel HB1.out (below_at (below_at HB3.out (Nat.le_refl _) 0 (.slice none 0 0)) (Nat.le_refl _) 1 .nilFunc)
    obtain ⟨U, hU⟩ : ∃ UU, (W3.setCell ⟨v1.heap.size, 0, none⟩ (.slice none 0 0)).setCell ⟨v1.heap.size, 1, none⟩ .nilFunc = UU := ⟨_, rfl⟩
    rw [hU] at hb9 ⊢
    have HBU := hidM hb9
    have hbU := (hb9.block _ (hlt HBX.out)).trans HBX.out
    have hrU := (hb9.block _ (hlt HRX.out)).trans HRX.out
    obtain ⟨⟨x0, x1, x2, x3, x4, x5, x6⟩, -⟩ := sevenA hbU
    obtain ⟨⟨q0, q1, q2, q3, q4, q5, q6⟩, r0, r1, r2, r3, r4, r5, r6⟩ := sevenA hrU
    clear hU hW3 u0 u1 a0 a1 HB3 HFD hb9 hbU hrU HB1
    go_wp2
    refine bodyPost_ret (by simp [results, Tryz.results21, go_sem, q0, q1, q2, q3, q4, q5, q6, r0, r1, r2, r3, r4, r5, r6]; try rfl) rfl ?_
    have hoff := off_sevenR U (w.heap.size + 1) (.int .i64 t.kind) (.string t.name) (.int .u32 t.num) (.int .i64 t.int_) (.string t.key) (.slice p j c) (.int .i64 t.at_)
    refine ⟨_, by rw [HWN.out]; rfl, ?_, (HOF.out.1.trans (OffN.of HBU.out)).off hoff (fun h => absurd h (by omega))⟩
    rw [HWN.out]
    have hk2 := ((HKS.out.below HBU.out).inKeep fun j hj => hoff.2.2.2.2 j (by rcases hj with h | h; (· have := HF.out.lt j h; omega); (· omega)))
    have hk3 := hk2.weak (inH.sub (S' := fun j => S j ∨ w.heap.size ≤ j) fun j hj => hj.imp id (fun h => by omega))
    exact hk3
   | some en =>
    rw [hfe] at HFD
    obtain ⟨r, g, lst, hre, hgv, hll2, hpl, ⟨x, hx, hx0⟩, hone⟩ := found_facts HER.out hfe (l' := wholeL l) (by rw [HWW.out.2]; exact whole_keys l)
    have hen := findE_in hfe
    obtain ⟨BE, hBE⟩ : ∃ B, becA r.name t.at_ lst = B := ⟨_, rfl⟩
    rw [hBE] at hone
    have HWN : Hid (wholeN t = keyN BE t.key) := HWW.out.1.trans hone
    have hokx : okR (ix lst 0) := by
     rw [hx0]
     rw [wholeL_map] at hx
     obtain ⟨y, hy, rfl⟩ := List.mem_map.1 hx
     exact whole_num (HOK.out.1 y hy)
    have hleaf : ∀ x ∈ en.2.1, x.2.args = [] := fun x hx => by
     have hfine := fine_all hre
     exact hfine.leaf x.2 (by rw [← hfine.vals]; exact List.mem_map.2 ⟨x, hx, rfl⟩)
    obtain ⟨Ln, hLn⟩ : ∃ n, en.2.1.length = n := ⟨_, rfl⟩
    have HFE : Hid (Calls Tryz.prog 46 #[.map (some bt), .pointer (some ⟨w.heap.size, 0, none⟩)] wr fun e w' => Below wr.heap.size wr w' ∧ ∃ q c K cap, EntA K ∧ ArgsG w' q en.2.1 ∧ BecK w' (.func (.func K) #[] cap) r ∧ e = .returned (.tuple #[.agg #[.slice q Ln c, .func (.func K) #[] cap], .bool true])) := HFD.out.mono fun e w' ⟨h1, h2⟩ => by
     refine ⟨h1, ?_⟩
     rcases h2 with ⟨en', q, c, f, x1, x2, h3, h4, h5⟩ | ⟨h3, -⟩
     ·cases h3
      have hbk := bec_all hre h4.args.2
      obtain ⟨K, cap, hfv, hent, -⟩ := id hbk
      rw [hfv] at hbk h5
      exact ⟨q, c, K, cap, hent, h4.args.1, hbk, by rw [← hLn]; exact h5⟩
     ·cases h3
    obtain ⟨A0, hA0⟩ : ∃ A, t.at_ = A := ⟨_, rfl⟩
    obtain ⟨ND, hND⟩ : ∃ N, partsL A0 en.2.1 g = N := ⟨_, rfl⟩
    have HPT0 : Hid (∀ (q : Option Addr) (cq K : Nat) (cap : Array Value) (U : World), Below wr.heap.size wr U → ArgsG U q en.2.1 → ∀ x, Below U.heap.size U x → Calls Tryz.prog 48 #[.agg #[.slice q Ln cq, .func (.func K) #[] cap], .pointer (some ⟨w.heap.size, 0, none⟩)] x fun e w' => ∃ bm m, e = .returned (.agg #[.map (some bm), .int .i64 A0]) ∧ PM w' bm m ND (fun j => (S j ∨ w.heap.size + 1 < j) ∧ j < U.heap.size) ∧ x.heap.size < bm ∧ Below x.heap.size x w') := fun q cq K cap U hU ha x hx => by
     have hnb : NodeA x (inH (fun j => (S j ∨ w.heap.size + 1 < j) ∧ j < U.heap.size)) w.heap.size 0 (argsN t (wholeL l)) := by
      obtain ⟨z0, z1, z2, z3, z4, z6, sv, z5, hk⟩ := HNA.out.below hU
      exact (show NodeA U (inH (fun j => (S j ∨ w.heap.size + 1 < j) ∧ j < U.heap.size)) w.heap.size 0 (argsN t (wholeL l)) from ⟨z0, z1, z2, z3, z4, z6, sv, z5, hk.bound⟩).below hx
     have := aparts_any en.2.1 (argsN t (wholeL l)) q cq (.func K) #[] cap w.heap.size 0 _ g x (by have := (row_small hen).1; omega) (by show (wholeL l).length ≤ 40000; rw [wholeL_len, HN.out]; exact HLN.out) (row_sizes hen) hleaf HOK.out.2.1 (fun j hj => by have := hj.2; have := hx.size; omega) (ha.kp (Kp.of hx)) hnb hgv
     rw [hLn] at this
     have e2 : (argsN t (wholeL l)).at_ = A0 := hA0
     rw [e2, hND] at this
     exact this
    have HBC0 : Hid (∀ (q : Option Addr) (K : Nat) (cap : Array Value) (U : World), BecK U (.func (.func K) #[] cap) r → ∀ (bm m : Nat) (x : World), Below U.heap.size U x → PM x bm m ND (fun j => (S j ∨ w.heap.size + 1 < j) ∧ j < U.heap.size) → Calls Tryz.prog K (#[.agg #[.map (some bm), .int .i64 A0]] ++ cap) x fun e w' => ∃ p c, e = .returned (.agg #[.int .i64 BE.kind, .string BE.name, .int .u32 BE.num, .int .i64 BE.int_, .string BE.key, .slice p BE.args.length c, .int .i64 BE.at_]) ∧ Kids w' (inH (fun j => ((S j ∨ w.heap.size + 1 < j) ∧ j < U.heap.size) ∨ x.heap.size + 1 < j)) (.slice p BE.args.length c) BE.args ∧ Below x.heap.size x w') := fun q K cap U hbk bm m x hx hpm => by
     obtain ⟨K', cap', hfv, -, hcall⟩ := hbk
     simp only [Value.func.injEq, Fn.func.injEq, true_and] at hfv
     obtain ⟨rfl, rfl⟩ := hfv
     have := hcall bm m A0 ND _ lst x (Kp.of hx) hll2 (fun k nm hn => by rw [← hND, ← hA0]; exact hpl k nm hn) hokx (fun j hj => by have := hj.2; have := hx.size; omega) hpm
     rw [← hA0, hBE] at this
     rw [← hA0]
     exact this
    clear hre hgv hll2 hpl hx hx0 hone hen hokx hleaf hLn hND hA0 hBE HFD HOK HER HWW HAZ HNA hfe
    go_upto_region 9 with (go_at_call 46; (with_reducible refine HFE.out.mono ?_); rintro e v1 ⟨hb1, q, cq, K, cap, hent, ha1, hbk1, rfl⟩; have HB1 := hidM hb1; have HA1 := hidM ha1; have HBK1 := hidM hbk1; have HEN := hidM hent; clear hb1 ha1 hbk1 hent; obtain ⟨W3, hW3, hX3, hB3⟩ := new_row v1; obtain ⟨⟨u0, u1⟩, a0, a1⟩ := twoC hX3; have HX3 := hidM hX3; have HB3 := hidM hB3; clear hX3 hB3)
    have hXU := put_twoC HX3.out (.slice q Ln cq) (.func (.func K) #[] cap)
    have hBU := below_at (below_at HB3.out (Nat.le_refl _) 0 (.slice q Ln cq)) (Nat.le_refl _) 1 (.func (.func K) #[] cap)
    obtain ⟨U, hU⟩ : ∃ UU, (W3.setCell ⟨v1.heap.size, 0, none⟩ (.slice q Ln cq)).setCell ⟨v1.heap.size, 1, none⟩ (.func (.func K) #[] cap) = UU := ⟨_, rfl⟩
    rw [hU] at hXU hBU ⊢
    obtain ⟨G, hG⟩ : ∃ G, v1.heap.size = G := ⟨_, rfl⟩
    rw [hG] at hXU ⊢
    have HBU : Hid (Below wr.heap.size wr U) := bel HB1.out hBU
    have HUW : Hid (w.heap.size + 2 ≤ U.heap.size) := by show _ ≤ _; have h1 := HBU.out.size; have h2 := HOF.out.2.2; omega
    obtain ⟨SB, hSB⟩ : ∃ SB : Blk, (fun j => (S j ∨ w.heap.size + 1 < j) ∧ j < U.heap.size) = SB := ⟨_, rfl⟩
    have HSB : Hid (∀ j, SB j → (S j ∨ w.heap.size + 1 < j) ∧ j < U.heap.size) := fun j hj => by rw [← hSB] at hj; exact hj
    have hpt := HPT0.out q cq K cap U HBU.out (HA1.out.kp (Kp.of hBU))
    have hbc := HBC0.out q K cap U (by obtain ⟨K', cap', e1, e2, e3⟩ := HBK1.out; exact ⟨K', cap', e1, e2, fun b n a nd S lst v hkp => e3 b n a nd S lst v ((Kp.of hBU).trans hkp)⟩)
    rw [hSB] at hpt
    simp only [show ∀ j, ((S j ∨ w.heap.size + 1 < j) ∧ j < U.heap.size) = SB j from fun j => congrFun hSB j] at hbc
    have HPT : Hid (∀ x, Below U.heap.size U x → Calls Tryz.prog 48 #[.agg #[.slice q Ln cq, .func (.func K) #[] cap], .pointer (some ⟨w.heap.size, 0, none⟩)] x fun e w' => ∃ bm m, e = .returned (.agg #[.map (some bm), .int .i64 A0]) ∧ PM w' bm m ND SB ∧ x.heap.size < bm ∧ Below x.heap.size x w') := hpt
    have HBC : Hid (∀ (bm m : Nat) (x : World), Below U.heap.size U x → PM x bm m ND SB → Calls Tryz.prog K (#[.agg #[.map (some bm), .int .i64 A0]] ++ cap) x fun e w' => ∃ p c, e = .returned (.agg #[.int .i64 BE.kind, .string BE.name, .int .u32 BE.num, .int .i64 BE.int_, .string BE.key, .slice p BE.args.length c, .int .i64 BE.at_]) ∧ Kids w' (inH (fun j => SB j ∨ x.heap.size + 1 < j)) (.slice p BE.args.length c) BE.args ∧ Below x.heap.size x w') := hbc
    obtain ⟨⟨g0, g1⟩, -⟩ := twoC hXU
    have hent := HEN.out
    unfold EntA at hent
    clear hU hG hXU hBU hW3 u0 u1 a0 a1 HB3 HX3 HA1 HB1 HBK1 HPT0 HBC0 HFE hpt hbc hSB HEN
    go_cut [8] (fun ov wx => ∃ O, ov = .pointer (some ⟨O, 0, none⟩) ∧ ∃ pe ce, Hid (wx.heap[O]? = some (.cells #[.int .i64 BE.kind, .string BE.name, .int .u32 BE.num, .int .i64 BE.int_, .string BE.key, .slice pe BE.args.length ce, .int .i64 BE.at_] 29) ∧ Kids wx (inH (fun j => (S j ∨ w.heap.size + 1 < j) ∧ j ≠ O)) (.slice pe BE.args.length ce) BE.args ∧ Below U.heap.size U wx ∧ U.heap.size ≤ O))
    case first =>
     refine wp_region_held_drew (S := (fun x => x.cell? ⟨G, 0, none⟩ = some (.slice q Ln cq) ∧ x.cell? ⟨G, 1, none⟩ = some (.func (.func K) #[] cap))) (by kernel_rfl) ?_ (fun hHeld => ?_)
     ·((try dsimp only); first | exact ⟨g0, g1⟩ | exact ⟨k0, k1⟩ | exact ⟨n0, n1⟩)
     refine wpAnyH_take (i := 0) (v := ?_) (by simp only [List.getElem?_toArray, List.getElem?_cons_succ, List.getElem?_cons_zero]; rfl) (by kernel_rfl) (by kernel_rfl) (by kernel_rfl) (by exact fun _ _ _ h => h) (Or.inl ⟨by rfl, ?_⟩) (by assumption) ?_
     rotate_left 1
     ·(intro wS hSw; (try dsimp only at hSw); go_simp; try (with_reducible rfl))
     try simp only [Act.put, List.setIfInBounds_toArray, List.set_cons_zero, List.set_cons_succ]
     refine wpAnyH_take (i := 1) (v := ?_) (by simp only [List.getElem?_toArray, List.getElem?_cons_succ, List.getElem?_cons_zero]; rfl) (by kernel_rfl) (by kernel_rfl) (by kernel_rfl) (by exact fun _ _ _ h => h) (Or.inl ⟨by rfl, ?_⟩) (by assumption) ?_
     rotate_left 1
     ·(intro wS hSw; (try dsimp only at hSw); go_simp; try (with_reducible rfl))
     try simp only [Act.put, List.setIfInBounds_toArray, List.set_cons_zero, List.set_cons_succ]
     refine wpAnyH_take (i := 2) (v := ?_) (by simp only [List.getElem?_toArray, List.getElem?_cons_succ, List.getElem?_cons_zero]; rfl) (by kernel_rfl) (by kernel_rfl) (by kernel_rfl) (by exact fun _ _ _ h => h) (Or.inl ⟨by rfl, ?_⟩) (by assumption) ?_
     rotate_left 1
     ·(intro wS hSw; (try dsimp only at hSw); go_simp; try (with_reducible rfl))
     try simp only [Act.put, List.setIfInBounds_toArray, List.set_cons_zero, List.set_cons_succ]
     clear hHeld
     refine wpAnyH_ready (rs := [3, 5]) (by kernel_rfl) (by simp) ?_
     refine AllReadyH.cons (i := 3) (by simp only [List.getElem?_toArray, List.getElem?_cons_succ, List.getElem?_cons_zero]; rfl) (fun K hK => ?_) ?_
     ·go_simp
      (go_at_call 48; (with_reducible refine (HPT.out _ (bel_d _)).mono ?_); rintro e z3 ⟨bm, m, rfl, hpm, hbm, hb3⟩; have HPM : Hid (PM z3 bm m ND SB) := hpm; have hbz := bel (bel_d _) hb3; have HBz : Hid (Below U.heap.size U z3) := hbz; have k0 := (hbz.cell (mcell_lt g0)).trans g0; have k1 := (hbz.cell (mcell_lt g1)).trans g1; clear hpm hbm hb3 hbz)
      try (go_wp2_with fail)
      refine hK.out _ _ ?_ (fun hHeld => ?_)
      ·((try dsimp only); first | exact ⟨g0, g1⟩ | exact ⟨k0, k1⟩ | exact ⟨n0, n1⟩)
      clear hK K
      try simp only [Act.put, List.setIfInBounds_toArray, List.set_cons_zero, List.set_cons_succ]
      clear hHeld
      refine wpAnyH_ready (rs := [4, 5]) (by kernel_rfl) (by simp) ?_
      refine AllReadyH.cons (i := 4) (by simp only [List.getElem?_toArray, List.getElem?_cons_succ, List.getElem?_cons_zero]; rfl) (fun K hK => ?_) ?_
      ·go_simp
       ((with_reducible refine (HBC.out _ _ _ HBz.out HPM.out).mono ?_); rintro e z4 ⟨pe, ce, rfl, hke, hb4⟩; have hbz := bel HBz.out hb4; have HKD : Hid (Kids z4 (inH (fun j => S j ∨ w.heap.size + 1 < j)) (.slice pe BE.args.length ce) BE.args) := hke.weak (inH.sub fun j hj => hj.elim (fun h => (HSB.out j h).1) (fun h => .inr (by have := HUW.out; have h2 := HBz.out.size; omega))); clear HBz k0 k1; have HBz : Hid (Below U.heap.size U z4) := hbz; have k0 := (hbz.cell (mcell_lt g0)).trans g0; have k1 := (hbz.cell (mcell_lt g1)).trans g1; clear hke hb4 hbz)
       try (go_wp2_with fail)
       refine hK.out _ _ ?_ (fun hHeld => ?_)
       ·((try dsimp only); first | exact ⟨g0, g1⟩ | exact ⟨k0, k1⟩ | exact ⟨n0, n1⟩)
       clear hK K
       try simp only [Act.put, List.setIfInBounds_toArray, List.set_cons_zero, List.set_cons_succ]
       clear hHeld
       refine wpAnyH_ready (rs := [5]) (by kernel_rfl) (by simp) ?_
       refine AllReadyH.cons (i := 5) (by simp only [List.getElem?_toArray, List.getElem?_cons_succ, List.getElem?_cons_zero]; rfl) (fun K hK => ?_) AllReadyH.nil
       go_simp
       have HOZ : Hid (U.heap.size ≤ z4.heap.size) := HBz.out.size
       obtain ⟨O, hO⟩ : ∃ O, z4.heap.size = O := ⟨_, rfl⟩
       obtain ⟨z5, hz5⟩ : ∃ V, (z4.alloc (.cells #[.int .i64 0, .string ⟨#[]⟩, .int .u32 0, .int .i64 0, .string ⟨#[]⟩, .slice none 0 0, .int .i64 0] 29)) = V := ⟨_, rfl⟩
       have HXO : Hid (z5.heap[O]? = some (.cells #[.int .i64 0, .string ⟨#[]⟩, .int .u32 0, .int .i64 0, .string ⟨#[]⟩, .slice none 0 0, .int .i64 0] 29)) := by show _ = _; rw [← hz5, ← hO]; exact box_heapA z4 _
       have hb5 : Below z4.heap.size z4 z5 := by rw [← hz5]; exact bel_alloc _ _
       have HKE : Hid (Kids z5 (inH (fun j => (S j ∨ w.heap.size + 1 < j) ∧ j ≠ O)) (.slice pe BE.args.length ce) BE.args) := (HKD.out.bound.below hb5).weak (inH.sub fun j hj => ⟨hj.1, by omega⟩)
       clear HKD
       have HBz' := HBz
       clear HBz
       have HBz : Hid (Below U.heap.size U z5) := bel HBz'.out hb5
       clear HBz'
       clear k0 k1
       have HOU : Hid (U.heap.size ≤ O) := by show _ ≤ _; rw [← hO]; exact HOZ.out
       have k0 := (HBz.out.cell (mcell_lt g0)).trans g0
       have k1 := (HBz.out.cell (mcell_lt g1)).trans g1
       rw [hz5, hO]
       clear hz5 hO hb5
       refine hK.out _ _ ?_ (fun hHeld => ?_)
       ·((try dsimp only); first | exact ⟨g0, g1⟩ | exact ⟨k0, k1⟩ | exact ⟨n0, n1⟩)
       clear hK K
       try simp only [Act.put, List.setIfInBounds_toArray, List.set_cons_zero, List.set_cons_succ]
       clear hHeld
       refine wpAnyH_ready (rs := [6]) (by kernel_rfl) (by simp) ?_
       refine AllReadyH.cons (i := 6) (by simp only [List.getElem?_toArray, List.getElem?_cons_succ, List.getElem?_cons_zero]; rfl) (fun K hK => ?_) AllReadyH.nil
       obtain ⟨⟨m0, m1, m2, m3, m4, m5, m6⟩, e0, e1, e2, e3, e4, e5, e6⟩ := sevenA HXO.out
       go_simp
       have hXE := put_sevenA HXO.out (.int .i64 BE.kind) (.string BE.name) (.int .u32 BE.num) (.int .i64 BE.int_) (.string BE.key) (.slice pe BE.args.length ce) (.int .i64 BE.at_)
       have hoE := off_sevenR z5 O (.int .i64 BE.kind) (.string BE.name) (.int .u32 BE.num) (.int .i64 BE.int_) (.string BE.key) (.slice pe BE.args.length ce) (.int .i64 BE.at_)
       obtain ⟨zE, hzE⟩ : ∃ V, (((((((z5.setCell ⟨O, 0, none⟩ (.int .i64 BE.kind)).setCell ⟨O, 1, none⟩ (.string BE.name)).setCell ⟨O, 2, none⟩ (.int .u32 BE.num)).setCell ⟨O, 3, none⟩ (.int .i64 BE.int_)).setCell ⟨O, 4, none⟩ (.string BE.key)).setCell ⟨O, 5, none⟩ (.slice pe BE.args.length ce)).setCell ⟨O, 6, none⟩ (.int .i64 BE.at_)) = V := ⟨_, rfl⟩
       rw [hzE] at hXE hoE
       try rw [hzE]
       have HZE : Hid (zE.heap[O]? = some (.cells #[.int .i64 BE.kind, .string BE.name, .int .u32 BE.num, .int .i64 BE.int_, .string BE.key, .slice pe BE.args.length ce, .int .i64 BE.at_] 29) ∧ Kids zE (inH (fun j => (S j ∨ w.heap.size + 1 < j) ∧ j ≠ O)) (.slice pe BE.args.length ce) BE.args ∧ Below U.heap.size U zE ∧ U.heap.size ≤ O) := ⟨hXE, HKE.out.inKeep fun j hj => hoE.2.2.2.2 j hj.2, hoE.below HBz.out HOU.out, HOU.out⟩
       have n0 := (HZE.out.2.2.1.cell (mcell_lt g0)).trans g0
       have n1 := (HZE.out.2.2.1.cell (mcell_lt g1)).trans g1
       clear hzE hXE hoE m0 m1 m2 m3 m4 m5 m6 e0 e1 e2 e3 e4 e5 e6
       refine hK.out _ _ ?_ (fun hHeld => ?_)
       ·((try dsimp only); first | exact ⟨g0, g1⟩ | exact ⟨k0, k1⟩ | exact ⟨n0, n1⟩)
       clear hK K
       try simp only [Act.put, List.setIfInBounds_toArray, List.set_cons_zero, List.set_cons_succ]
       refine wpAnyH_done (by kernel_rfl) ?_ _
       clear k0 k1 HBz HXO HKE HPM
       go_wp2_with fail
       go_meet
       exact ⟨O, rfl, pe, ce, HZE.out⟩
      refine AllReadyH.cons (i := 5) (by simp only [List.getElem?_toArray, List.getElem?_cons_succ, List.getElem?_cons_zero]; rfl) (fun K hK => ?_) AllReadyH.nil
      go_simp
      have HOZ : Hid (U.heap.size ≤ z3.heap.size) := HBz.out.size
      obtain ⟨O, hO⟩ : ∃ O, z3.heap.size = O := ⟨_, rfl⟩
      obtain ⟨z5, hz5⟩ : ∃ V, (z3.alloc (.cells #[.int .i64 0, .string ⟨#[]⟩, .int .u32 0, .int .i64 0, .string ⟨#[]⟩, .slice none 0 0, .int .i64 0] 29)) = V := ⟨_, rfl⟩
      have HXO : Hid (z5.heap[O]? = some (.cells #[.int .i64 0, .string ⟨#[]⟩, .int .u32 0, .int .i64 0, .string ⟨#[]⟩, .slice none 0 0, .int .i64 0] 29)) := by show _ = _; rw [← hz5, ← hO]; exact box_heapA z3 _
      have hb5 : Below z3.heap.size z3 z5 := by rw [← hz5]; exact bel_alloc _ _
      have HPM' := HPM
      clear HPM
      have HPM : Hid (PM z5 bm m ND SB) := HPM'.out.below hb5
      clear HPM'
      have HBz' := HBz
      clear HBz
      have HBz : Hid (Below U.heap.size U z5) := bel HBz'.out hb5
      clear HBz'
      clear k0 k1
      have HOU : Hid (U.heap.size ≤ O) := by show _ ≤ _; rw [← hO]; exact HOZ.out
      have k0 := (HBz.out.cell (mcell_lt g0)).trans g0
      have k1 := (HBz.out.cell (mcell_lt g1)).trans g1
      rw [hz5, hO]
      clear hz5 hO hb5
      refine hK.out _ _ ?_ (fun hHeld => ?_)
      ·((try dsimp only); first | exact ⟨g0, g1⟩ | exact ⟨k0, k1⟩ | exact ⟨n0, n1⟩)
      clear hK K
      try simp only [Act.put, List.setIfInBounds_toArray, List.set_cons_zero, List.set_cons_succ]
      clear hHeld
      refine wpAnyH_ready (rs := [4]) (by kernel_rfl) (by simp) ?_
      refine AllReadyH.cons (i := 4) (by simp only [List.getElem?_toArray, List.getElem?_cons_succ, List.getElem?_cons_zero]; rfl) (fun K hK => ?_) AllReadyH.nil
      go_simp
      ((with_reducible refine (HBC.out _ _ _ HBz.out HPM.out).mono ?_); rintro e z4 ⟨pe, ce, rfl, hke, hb4⟩; have hbz := bel HBz.out hb4; have HKE : Hid (Kids z4 (inH (fun j => (S j ∨ w.heap.size + 1 < j) ∧ j ≠ O)) (.slice pe BE.args.length ce) BE.args) := hke.weak (inH.sub fun j hj => ⟨hj.elim (fun h => (HSB.out j h).1) (fun h => .inr (by have := HUW.out; have h2 := HBz.out.size; omega)), by rcases hj with h | h; (· have := (HSB.out j h).2; have := HOU.out; omega); (· have := hlt HXO.out; omega)⟩); have HXO' := HXO; clear HXO; have HXO : Hid (z4.heap[O]? = some (.cells #[.int .i64 0, .string ⟨#[]⟩, .int .u32 0, .int .i64 0, .string ⟨#[]⟩, .slice none 0 0, .int .i64 0] 29)) := (hb4.block _ (hlt HXO'.out)).trans HXO'.out; clear HXO'; clear HBz k0 k1; have HBz : Hid (Below U.heap.size U z4) := hbz; have k0 := (hbz.cell (mcell_lt g0)).trans g0; have k1 := (hbz.cell (mcell_lt g1)).trans g1; clear hke hb4 hbz)
      try (go_wp2_with fail)
      refine hK.out _ _ ?_ (fun hHeld => ?_)
      ·((try dsimp only); first | exact ⟨g0, g1⟩ | exact ⟨k0, k1⟩ | exact ⟨n0, n1⟩)
      clear hK K
      try simp only [Act.put, List.setIfInBounds_toArray, List.set_cons_zero, List.set_cons_succ]
      clear hHeld
      refine wpAnyH_ready (rs := [6]) (by kernel_rfl) (by simp) ?_
      refine AllReadyH.cons (i := 6) (by simp only [List.getElem?_toArray, List.getElem?_cons_succ, List.getElem?_cons_zero]; rfl) (fun K hK => ?_) AllReadyH.nil
      obtain ⟨⟨m0, m1, m2, m3, m4, m5, m6⟩, e0, e1, e2, e3, e4, e5, e6⟩ := sevenA HXO.out
      go_simp
      have hXE := put_sevenA HXO.out (.int .i64 BE.kind) (.string BE.name) (.int .u32 BE.num) (.int .i64 BE.int_) (.string BE.key) (.slice pe BE.args.length ce) (.int .i64 BE.at_)
      have hoE := off_sevenR z4 O (.int .i64 BE.kind) (.string BE.name) (.int .u32 BE.num) (.int .i64 BE.int_) (.string BE.key) (.slice pe BE.args.length ce) (.int .i64 BE.at_)
      obtain ⟨zE, hzE⟩ : ∃ V, (((((((z4.setCell ⟨O, 0, none⟩ (.int .i64 BE.kind)).setCell ⟨O, 1, none⟩ (.string BE.name)).setCell ⟨O, 2, none⟩ (.int .u32 BE.num)).setCell ⟨O, 3, none⟩ (.int .i64 BE.int_)).setCell ⟨O, 4, none⟩ (.string BE.key)).setCell ⟨O, 5, none⟩ (.slice pe BE.args.length ce)).setCell ⟨O, 6, none⟩ (.int .i64 BE.at_)) = V := ⟨_, rfl⟩
      rw [hzE] at hXE hoE
      try rw [hzE]
      have HZE : Hid (zE.heap[O]? = some (.cells #[.int .i64 BE.kind, .string BE.name, .int .u32 BE.num, .int .i64 BE.int_, .string BE.key, .slice pe BE.args.length ce, .int .i64 BE.at_] 29) ∧ Kids zE (inH (fun j => (S j ∨ w.heap.size + 1 < j) ∧ j ≠ O)) (.slice pe BE.args.length ce) BE.args ∧ Below U.heap.size U zE ∧ U.heap.size ≤ O) := ⟨hXE, HKE.out.inKeep fun j hj => hoE.2.2.2.2 j hj.2, hoE.below HBz.out HOU.out, HOU.out⟩
      have n0 := (HZE.out.2.2.1.cell (mcell_lt g0)).trans g0
      have n1 := (HZE.out.2.2.1.cell (mcell_lt g1)).trans g1
      clear hzE hXE hoE m0 m1 m2 m3 m4 m5 m6 e0 e1 e2 e3 e4 e5 e6
      refine hK.out _ _ ?_ (fun hHeld => ?_)
      ·((try dsimp only); first | exact ⟨g0, g1⟩ | exact ⟨k0, k1⟩ | exact ⟨n0, n1⟩)
      clear hK K
      try simp only [Act.put, List.setIfInBounds_toArray, List.set_cons_zero, List.set_cons_succ]
      refine wpAnyH_done (by kernel_rfl) ?_ _
      clear k0 k1 HBz HXO HKE HPM
      go_wp2_with fail
      go_meet
      exact ⟨O, rfl, pe, ce, HZE.out⟩
     refine AllReadyH.cons (i := 5) (by simp only [List.getElem?_toArray, List.getElem?_cons_succ, List.getElem?_cons_zero]; rfl) (fun K hK => ?_) AllReadyH.nil
     go_simp
     obtain ⟨O, hO⟩ : ∃ O, U.heap.size = O := ⟨_, rfl⟩
     obtain ⟨z5, hz5⟩ : ∃ V, (U.alloc (.cells #[.int .i64 0, .string ⟨#[]⟩, .int .u32 0, .int .i64 0, .string ⟨#[]⟩, .slice none 0 0, .int .i64 0] 29)).drew = V := ⟨_, rfl⟩
     have HXO : Hid (z5.heap[O]? = some (.cells #[.int .i64 0, .string ⟨#[]⟩, .int .u32 0, .int .i64 0, .string ⟨#[]⟩, .slice none 0 0, .int .i64 0] 29)) := by show _ = _; rw [← hz5, ← hO]; exact box_heapA U _
     have hb5 : Below U.heap.size U z5 := by rw [← hz5]; exact bel (bel_alloc _ _) (bel_d _)
     have HBz : Hid (Below U.heap.size U z5) := hb5
     have HOU : Hid (U.heap.size ≤ O) := by show _ ≤ _; rw [← hO]; exact Nat.le_refl _
     have k0 := (HBz.out.cell (mcell_lt g0)).trans g0
     have k1 := (HBz.out.cell (mcell_lt g1)).trans g1
     rw [hz5, hO]
     clear hz5 hO hb5
     refine hK.out _ _ ?_ (fun hHeld => ?_)
     ·((try dsimp only); first | exact ⟨g0, g1⟩ | exact ⟨k0, k1⟩ | exact ⟨n0, n1⟩)
     clear hK K
     try simp only [Act.put, List.setIfInBounds_toArray, List.set_cons_zero, List.set_cons_succ]
     clear hHeld
     refine wpAnyH_ready (rs := [3]) (by kernel_rfl) (by simp) ?_
     refine AllReadyH.cons (i := 3) (by simp only [List.getElem?_toArray, List.getElem?_cons_succ, List.getElem?_cons_zero]; rfl) (fun K hK => ?_) AllReadyH.nil
     go_simp
     (go_at_call 48; (with_reducible refine (HPT.out _ HBz.out).mono ?_); rintro e z3 ⟨bm, m, rfl, hpm, hbm, hb3⟩; have HPM : Hid (PM z3 bm m ND SB) := hpm; have hbz := bel HBz.out hb3; have HXO' := HXO; clear HXO; have HXO : Hid (z3.heap[O]? = some (.cells #[.int .i64 0, .string ⟨#[]⟩, .int .u32 0, .int .i64 0, .string ⟨#[]⟩, .slice none 0 0, .int .i64 0] 29)) := (hb3.block _ (hlt HXO'.out)).trans HXO'.out; clear HXO' HBz; have HBz : Hid (Below U.heap.size U z3) := hbz; have k0 := (hbz.cell (mcell_lt g0)).trans g0; have k1 := (hbz.cell (mcell_lt g1)).trans g1; clear hpm hbm hb3 hbz)
     try (go_wp2_with fail)
     refine hK.out _ _ ?_ (fun hHeld => ?_)
     ·((try dsimp only); first | exact ⟨g0, g1⟩ | exact ⟨k0, k1⟩ | exact ⟨n0, n1⟩)
     clear hK K
     try simp only [Act.put, List.setIfInBounds_toArray, List.set_cons_zero, List.set_cons_succ]
     clear hHeld
     refine wpAnyH_ready (rs := [4]) (by kernel_rfl) (by simp) ?_
     refine AllReadyH.cons (i := 4) (by simp only [List.getElem?_toArray, List.getElem?_cons_succ, List.getElem?_cons_zero]; rfl) (fun K hK => ?_) AllReadyH.nil
     go_simp
     ((with_reducible refine (HBC.out _ _ _ HBz.out HPM.out).mono ?_); rintro e z4 ⟨pe, ce, rfl, hke, hb4⟩; have hbz := bel HBz.out hb4; have HKE : Hid (Kids z4 (inH (fun j => (S j ∨ w.heap.size + 1 < j) ∧ j ≠ O)) (.slice pe BE.args.length ce) BE.args) := hke.weak (inH.sub fun j hj => ⟨hj.elim (fun h => (HSB.out j h).1) (fun h => .inr (by have := HUW.out; have h2 := HBz.out.size; omega)), by rcases hj with h | h; (· have := (HSB.out j h).2; have := HOU.out; omega); (· have := hlt HXO.out; omega)⟩); have HXO' := HXO; clear HXO; have HXO : Hid (z4.heap[O]? = some (.cells #[.int .i64 0, .string ⟨#[]⟩, .int .u32 0, .int .i64 0, .string ⟨#[]⟩, .slice none 0 0, .int .i64 0] 29)) := (hb4.block _ (hlt HXO'.out)).trans HXO'.out; clear HXO'; clear HBz k0 k1; have HBz : Hid (Below U.heap.size U z4) := hbz; have k0 := (hbz.cell (mcell_lt g0)).trans g0; have k1 := (hbz.cell (mcell_lt g1)).trans g1; clear hke hb4 hbz)
     try (go_wp2_with fail)
     refine hK.out _ _ ?_ (fun hHeld => ?_)
     ·((try dsimp only); first | exact ⟨g0, g1⟩ | exact ⟨k0, k1⟩ | exact ⟨n0, n1⟩)
     clear hK K
     try simp only [Act.put, List.setIfInBounds_toArray, List.set_cons_zero, List.set_cons_succ]
     clear hHeld
     refine wpAnyH_ready (rs := [6]) (by kernel_rfl) (by simp) ?_
     refine AllReadyH.cons (i := 6) (by simp only [List.getElem?_toArray, List.getElem?_cons_succ, List.getElem?_cons_zero]; rfl) (fun K hK => ?_) AllReadyH.nil
     obtain ⟨⟨m0, m1, m2, m3, m4, m5, m6⟩, e0, e1, e2, e3, e4, e5, e6⟩ := sevenA HXO.out
     go_simp
     have hXE := put_sevenA HXO.out (.int .i64 BE.kind) (.string BE.name) (.int .u32 BE.num) (.int .i64 BE.int_) (.string BE.key) (.slice pe BE.args.length ce) (.int .i64 BE.at_)
     have hoE := off_sevenR z4 O (.int .i64 BE.kind) (.string BE.name) (.int .u32 BE.num) (.int .i64 BE.int_) (.string BE.key) (.slice pe BE.args.length ce) (.int .i64 BE.at_)
     obtain ⟨zE, hzE⟩ : ∃ V, (((((((z4.setCell ⟨O, 0, none⟩ (.int .i64 BE.kind)).setCell ⟨O, 1, none⟩ (.string BE.name)).setCell ⟨O, 2, none⟩ (.int .u32 BE.num)).setCell ⟨O, 3, none⟩ (.int .i64 BE.int_)).setCell ⟨O, 4, none⟩ (.string BE.key)).setCell ⟨O, 5, none⟩ (.slice pe BE.args.length ce)).setCell ⟨O, 6, none⟩ (.int .i64 BE.at_)) = V := ⟨_, rfl⟩
     rw [hzE] at hXE hoE
     try rw [hzE]
     have HZE : Hid (zE.heap[O]? = some (.cells #[.int .i64 BE.kind, .string BE.name, .int .u32 BE.num, .int .i64 BE.int_, .string BE.key, .slice pe BE.args.length ce, .int .i64 BE.at_] 29) ∧ Kids zE (inH (fun j => (S j ∨ w.heap.size + 1 < j) ∧ j ≠ O)) (.slice pe BE.args.length ce) BE.args ∧ Below U.heap.size U zE ∧ U.heap.size ≤ O) := ⟨hXE, HKE.out.inKeep fun j hj => hoE.2.2.2.2 j hj.2, hoE.below HBz.out HOU.out, HOU.out⟩
     have n0 := (HZE.out.2.2.1.cell (mcell_lt g0)).trans g0
     have n1 := (HZE.out.2.2.1.cell (mcell_lt g1)).trans g1
     clear hzE hXE hoE m0 m1 m2 m3 m4 m5 m6 e0 e1 e2 e3 e4 e5 e6
     refine hK.out _ _ ?_ (fun hHeld => ?_)
     ·((try dsimp only); first | exact ⟨g0, g1⟩ | exact ⟨k0, k1⟩ | exact ⟨n0, n1⟩)
     clear hK K
     try simp only [Act.put, List.setIfInBounds_toArray, List.set_cons_zero, List.set_cons_succ]
     refine wpAnyH_done (by kernel_rfl) ?_ _
     clear k0 k1 HBz HXO HKE HPM
     go_wp2_with fail
     go_meet
     exact ⟨O, rfl, pe, ce, HZE.out⟩
    case rest =>
     obtain ⟨O, rfl, pe, ce, HZE⟩ := hcut
     have hbW : Below wr.heap.size wr wc := bel HBU.out HZE.out.2.2.1
     have HBW := hidM hbW
     have hbx := (hbW.block _ (hlt HBX.out)).trans HBX.out
     have hrx := (hbW.block _ (hlt HRX.out)).trans HRX.out
     have HRC := hidM hrx
     have HNE : Hid (w.heap.size + 1 < O) := by show _ < _; have := HUW.out; have := HZE.out.2.2.2; omega
     obtain ⟨⟨m0, m1, m2, m3, m4, m5, m6⟩, e0, e1, e2, e3, e4, e5, e6⟩ := sevenA HZE.out.1
     obtain ⟨⟨-, -, -, -, x4, -, -⟩, -⟩ := sevenA hbx
     clear hbW hbx hrx g0 g1 hent HPT HBC
     go_upto_region 11 with fail
     have hX4 := put_oneA HZE.out.1 4 (.string t.key)
     simp only [List.setIfInBounds_toArray, List.set_cons_zero, List.set_cons_succ] at hX4
     have hoff := (Off.refl O wc).set 4 (.string t.key)
     obtain ⟨z6, hz6⟩ : ∃ V, wc.setCell ⟨O, 4, none⟩ (.string t.key) = V := ⟨_, rfl⟩
     rw [hz6] at hX4 hoff ⊢
     have HOO := hidM hoff
     have hr6 := (hoff.2.2.2.2 (w.heap.size + 1) (by have := HNE.out; omega)).trans HRC.out
     clear m0 m1 m2 m3 m4 m5 m6 e0 e1 e2 e3 e4 e5 e6 x4 hz6 hoff
     obtain ⟨⟨m0, m1, m2, m3, m4, m5, m6⟩, -⟩ := sevenA hX4
     obtain ⟨⟨q0, q1, q2, q3, q4, q5, q6⟩, r0, r1, r2, r3, r4, r5, r6⟩ := sevenA hr6
     clear hX4 hr6
     go_wp2
     refine bodyPost_ret (by simp [results, Tryz.results21, go_sem, q0, q1, q2, q3, q4, q5, q6, r0, r1, r2, r3, r4, r5, r6]; try rfl) rfl ?_
     have hoffR := off_sevenR z6 (w.heap.size + 1) (.int .i64 BE.kind) (.string BE.name) (.int .u32 BE.num) (.int .i64 BE.int_) (.string t.key) (.slice pe BE.args.length ce) (.int .i64 BE.at_)
     have hne := HNE.out
     refine ⟨_, by rw [HWN.out]; rfl, ?_, ((HOF.out.1.trans (OffN.of HBW.out)).off HOO.out (fun h => absurd h (by omega))).off hoffR (fun h => absurd h (by omega))⟩
     rw [HWN.out]
     have hk2 := (HZE.out.2.1.inKeep fun j hj => HOO.out.2.2.2.2 j hj.2).inKeep fun j hj => hoffR.2.2.2.2 j (by rcases hj.1 with h | h; (· have := HF.out.lt j h; omega); (· omega))
     exact hk2.weak (inH.sub (S' := fun j => S j ∨ w.heap.size ≤ j) fun j hj => hj.1.imp id (fun h => by omega))
theorem replm_to : ∀ N, ReplM N
 | 0 => fun bt t sv S w hd => absurd hd (by unfold dep; omega)
 | N + 1 => replm_step N (replm_to N)
end Go.Proofs.YtmiidhgbdecdkaaGreat
namespace Go.Proofs.YtmiidhgbdecdkaaGreat
open Go.RowKit
set_option linter.unusedVariables false
set_option linter.unusedSimpArgs false
end Go.Proofs.YtmiidhgbdecdkaaGreat
namespace Go.Proofs.YtmiidhgbdecdkaaGreat
open Go.RowKit
set_option linter.unusedVariables false
set_option linter.unusedSimpArgs false
theorem wkL_check (l : List Nd) : ∀ (d : Int) (u : Option Nd), (wkL gCheck l d u 0).1 = ((wkL gCheck l d u 0).2 == 0) := by
 apply forest (P := fun l => ∀ (d : Int) (u : Option Nd), (wkL gCheck l d u 0).1 = ((wkL gCheck l d u 0).2 == 0))
 ·intro d u; rw [wkL_nil]; rfl
 ·intro t r h1 h2 d u
  have e : (wk gCheck t d u 0).1 = ((wk gCheck t d u 0).2 == 0) := by
   unfold wk
   rw [show gCheck 0 t d u = (judgeP t u == 0, judgeP t u) from rfl]
   by_cases c : judgeP t u = 0
   ·rw [c]; exact h1 _ _
   ·have z : (judgeP t u == 0) = false := by simpa using c
    simp only [z]
    simp [c]
  rw [wkL_cons]
  by_cases c : (wk gCheck t d u 0).2 = 0
  ·have e' : (wk gCheck t d u 0).1 = true := by rw [e, c]; rfl
   rw [c, if_pos e']
   exact h2 _ _
  ·have z : ((wk gCheck t d u 0).2 == 0) = false := by simpa using c
   rw [z] at e
   rw [if_neg (by rw [e]; decide)]
   exact z.symm
theorem wk_check (t : Nd) (d : Int) (u : Option Nd) : (wk gCheck t d u 0).1 = ((wk gCheck t d u 0).2 == 0) := by
 rw [← wkL_one]; exact wkL_check _ _ _
end Go.Proofs.YtmiidhgbdecdkaaGreat
namespace Go.Proofs.YtmiidhgbdecdkaaGreat
set_option linter.unusedVariables false
theorem fneg_lo (a : Int) (h0 : 0 ≤ a) (h1 : a < 4294967296) : 0 ≤ fneg a ∧ fneg a < 4294967296 := by
 have h : 0 ≤ (if 2147483648 ≤ a then a - 2147483648 else a + 2147483648) ∧ (if 2147483648 ≤ a then a - 2147483648 else a + 2147483648) < 4294967296 := by split <;> omega
 exact canon_lo _ h.1 h.2
end Go.Proofs.YtmiidhgbdecdkaaGreat
