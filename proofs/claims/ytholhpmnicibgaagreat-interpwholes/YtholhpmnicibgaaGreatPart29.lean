import Derived.Test.YtholhpmnicibgaaGreatPart28
namespace Go.Proofs.YtholhpmnicibgaaGreat
open Go.RowKit
set_option linter.unusedVariables false
set_option linter.unusedSimpArgs false
set_option maxRecDepth 100000 in
set_option maxHeartbeats 4000000 in
theorem slot_any {T : Nat → Prop} {B : Nat} (w : World) (R : Nat) (a : Lay) (X : Nat → Value) (c : Cd) (l : List Hd) (h : RunAt T B w R a X c l) (hg : Good c) (n : Nat) (hn : n < l.length) :
  Calls Tryz.prog 16 #[.pointer (some ⟨R, 0, none⟩), .int .i64 n] w fun e w' => ∃ p d, e = .returned (.tuple #[.slice p (l[n]).pats.length d, .int .i64 (l[n]).whole, .int .i64 0]) ∧ Pt (fun b => b < w.heap.size) w' (.slice p (l[n]).pats.length d) (l[n]).pats ∧ Below w.heap.size w w' := by
 have hnc : n < c.slots.length := by rw [← h.len]; exact hn
 have r1 : w.cell? ⟨R, 1, none⟩ = some (.slice a.sp c.slots.length a.sc) := h.run.at 1 rfl
 have hsp : a.sp = some ⟨a.S, 0, none⟩ := by
  rcases h.slots.sp with e | e
  ·rw [e] at hn; exact absurd hn (Nat.not_lt_zero _)
  ·exact e
 rw [hsp] at r1
 have s1 := h.slots.row.cell (i := 2 * n) (by have := h.slots.le; omega)
 have s2 := h.slots.row.cell (i := 2 * n + 1) (by have := h.slots.le; omega)
 rw [h.slots.whole n hn] at s2
 have hp := h.slots.pats n hn
 have hw := (h.ok n hnc hn).1
 have hwd := hg.width c.slots[n].ty
 obtain ⟨q, cap, hq⟩ := hp.len
 have KC := hidM (fun (v : World) (hv : Below w.heap.size w v) => clone_F (X (2 * n)) l[n].pats v (hp.row.below hv) (by omega))
 rw [hq] at s1 KC
 rw [Nat.mul_comm 2 n] at s1 s2
 have hN := hg.slotsL
 obtain ⟨Sb, hSb⟩ : ∃ Sb, a.S = Sb := ⟨_, rfl⟩
 obtain ⟨N, hN'⟩ : ∃ N, c.slots.length = N := ⟨_, rfl⟩
 obtain ⟨sc, hsc⟩ : ∃ sc, a.sc = sc := ⟨_, rfl⟩
 obtain ⟨pt, hpt⟩ : ∃ pt, l[n].pats = pt := ⟨_, rfl⟩
 obtain ⟨wh, hwh⟩ : ∃ wh, l[n].whole = wh := ⟨_, rfl⟩
 rw [hpt] at KC s1
 rw [hwh] at s2
 rw [hpt, hwh]
 obtain ⟨L, hL⟩ : ∃ L, pt.length = L := ⟨_, rfl⟩
 simp only [hSb, hN', hsc, hL] at r1 s1 s2 hN hnc KC ⊢
 have e1 : ¬ ((n : Int) < 0) := by omega
 have e2 : ¬ ((N : Int) ≤ (n : Int)) := by omega
 have e3 : (n : Int) < (N : Int) := by omega
 clear h hg hsp hp hw hwd hq hSb hN' hsc hpt hwh hL hn
 go_enter Tryz.func16, Tryz.ntmps16
 go_wp2
 refine wp_region_held_drew (S := (fun v => v.cell? ⟨R, 1, none⟩ = some (.slice (some ⟨Sb, 0, none⟩) N sc) ∧ v.cell? ⟨Sb, n * 2, none⟩ = some (.slice q L cap) ∧ v.cell? ⟨Sb, n * 2 + 1, none⟩ = some (.int .i64 wh))) (by kernel_rfl) ?_ (fun hHeld => ?_)
 ·((try dsimp only); go_keep)
 refine wpAnyH_take (i := 0) (v := ?_) (by simp only [List.getElem?_toArray, List.getElem?_cons_succ, List.getElem?_cons_zero]; rfl) (by kernel_rfl) (by kernel_rfl) (by kernel_rfl) (by exact fun _ _ _ h => h) (Or.inl ⟨by rfl, ?_⟩) (by assumption) ?_
 rotate_left 1
 ·(intro wS hSw; (try dsimp only at hSw); go_simp; try (with_reducible rfl))
 try simp only [Act.put, List.setIfInBounds_toArray, List.set_cons_zero, List.set_cons_succ]
 refine wpAnyH_take (i := 1) (v := ?_) (by simp only [List.getElem?_toArray, List.getElem?_cons_succ, List.getElem?_cons_zero]; rfl) (by kernel_rfl) (by kernel_rfl) (by kernel_rfl) (by exact fun _ _ _ h => h) (Or.inl ⟨by rfl, ?_⟩) (by assumption) ?_
 rotate_left 1
 ·(intro wS hSw; (try dsimp only at hSw); go_simp; try (with_reducible rfl))
 try simp only [Act.put, List.setIfInBounds_toArray, List.set_cons_zero, List.set_cons_succ]
 refine wpAnyH_take (i := 2) (v := ?_) (by simp only [List.getElem?_toArray, List.getElem?_cons_succ, List.getElem?_cons_zero]; rfl) (by kernel_rfl) (by kernel_rfl) (by kernel_rfl) (by exact fun _ _ _ h => h) (Or.inl ⟨by rfl, ?_⟩) (by assumption) ?_
 rotate_left 1
 ·(intro wS hSw; (try dsimp only at hSw); go_simp; try (with_reducible rfl))
 try simp only [Act.put, List.setIfInBounds_toArray, List.set_cons_zero, List.set_cons_succ]
 refine wpAnyH_take (i := 3) (v := ?_) (by simp only [List.getElem?_toArray, List.getElem?_cons_succ, List.getElem?_cons_zero]; rfl) (by kernel_rfl) (by kernel_rfl) (by kernel_rfl) (by exact fun _ _ _ h => h) (Or.inl ⟨by rfl, ?_⟩) (by assumption) ?_
 rotate_left 1
 ·(intro wS hSw; (try dsimp only at hSw); go_simp; try (with_reducible rfl))
 try simp only [Act.put, List.setIfInBounds_toArray, List.set_cons_zero, List.set_cons_succ]
 refine wpAnyH_take (i := 4) (v := ?_) (by simp only [List.getElem?_toArray, List.getElem?_cons_succ, List.getElem?_cons_zero]; rfl) (by kernel_rfl) (by kernel_rfl) (by kernel_rfl) (by exact fun _ _ _ h => h) (Or.inl ⟨by rfl, ?_⟩) (by assumption) ?_
 rotate_left 1
 ·(intro wS hSw; (try dsimp only at hSw); go_simp; try (with_reducible rfl))
 try simp only [Act.put, List.setIfInBounds_toArray, List.set_cons_zero, List.set_cons_succ]
 refine wpAnyH_take (i := 5) (v := ?_) (by simp only [List.getElem?_toArray, List.getElem?_cons_succ, List.getElem?_cons_zero]; rfl) (by kernel_rfl) (by kernel_rfl) (by kernel_rfl) (by exact fun _ _ _ h => h) (Or.inl ⟨by rfl, ?_⟩) (by assumption) ?_
 rotate_left 1
 ·(intro wS hSw; (try dsimp only at hSw); go_simp; try (with_reducible rfl))
 try simp only [Act.put, List.setIfInBounds_toArray, List.set_cons_zero, List.set_cons_succ]
 refine wpAnyH_take (i := 6) (v := ?_) (by simp only [List.getElem?_toArray, List.getElem?_cons_succ, List.getElem?_cons_zero]; rfl) (by kernel_rfl) (by kernel_rfl) (by kernel_rfl) (by exact fun _ _ _ h => h) (Or.inl ⟨by rfl, ?_⟩) (by assumption) ?_
 rotate_left 1
 ·(intro wS hSw; (try dsimp only at hSw); go_simp; try (with_reducible rfl))
 try simp only [Act.put, List.setIfInBounds_toArray, List.set_cons_zero, List.set_cons_succ]
 refine wpAnyH_take (i := 7) (v := ?_) (by simp only [List.getElem?_toArray, List.getElem?_cons_succ, List.getElem?_cons_zero]; rfl) (by kernel_rfl) (by kernel_rfl) (by kernel_rfl) (by exact fun _ _ _ h => h) (Or.inl ⟨by rfl, ?_⟩) (by assumption) ?_
 rotate_left 1
 ·(intro wS hSw; (try dsimp only at hSw); go_simp; try (with_reducible rfl))
 try simp only [Act.put, List.setIfInBounds_toArray, List.set_cons_zero, List.set_cons_succ]
 refine wpAnyH_take (i := 9) (v := ?_) (by simp only [List.getElem?_toArray, List.getElem?_cons_succ, List.getElem?_cons_zero]; rfl) (by kernel_rfl) (by kernel_rfl) (by kernel_rfl) (by exact fun _ _ _ h => h) (Or.inl ⟨by rfl, ?_⟩) (by assumption) ?_
 rotate_left 1
 ·(intro wS hSw; (try dsimp only at hSw); go_simp; try (with_reducible rfl))
 try simp only [Act.put, List.setIfInBounds_toArray, List.set_cons_zero, List.set_cons_succ]
 refine wpAnyH_take (i := 10) (v := ?_) (by simp only [List.getElem?_toArray, List.getElem?_cons_succ, List.getElem?_cons_zero]; rfl) (by kernel_rfl) (by kernel_rfl) (by kernel_rfl) (by exact fun _ _ _ h => h) (Or.inl ⟨by rfl, ?_⟩) (by assumption) ?_
 rotate_left 1
 ·(intro wS hSw; (try dsimp only at hSw); go_simp; try (with_reducible rfl))
 try simp only [Act.put, List.setIfInBounds_toArray, List.set_cons_zero, List.set_cons_succ]
 refine wpAnyH_take (i := 11) (v := ?_) (by simp only [List.getElem?_toArray, List.getElem?_cons_succ, List.getElem?_cons_zero]; rfl) (by kernel_rfl) (by kernel_rfl) (by kernel_rfl) (by exact fun _ _ _ h => h) (Or.inl ⟨by rfl, ?_⟩) (by assumption) ?_
 rotate_left 1
 ·(intro wS hSw; (try dsimp only at hSw); go_simp; try (with_reducible rfl))
 try simp only [Act.put, List.setIfInBounds_toArray, List.set_cons_zero, List.set_cons_succ]
 refine wpAnyH_take (i := 12) (v := ?_) (by simp only [List.getElem?_toArray, List.getElem?_cons_succ, List.getElem?_cons_zero]; rfl) (by kernel_rfl) (by kernel_rfl) (by kernel_rfl) (by exact fun _ _ _ h => h) (Or.inl ⟨by rfl, ?_⟩) (by assumption) ?_
 rotate_left 1
 ·(intro wS hSw; (try dsimp only at hSw); go_simp; try (with_reducible rfl))
 try simp only [Act.put, List.setIfInBounds_toArray, List.set_cons_zero, List.set_cons_succ]
 refine wpAnyH_take (i := 13) (v := ?_) (by simp only [List.getElem?_toArray, List.getElem?_cons_succ, List.getElem?_cons_zero]; rfl) (by kernel_rfl) (by kernel_rfl) (by kernel_rfl) (by exact fun _ _ _ h => h) (Or.inl ⟨by rfl, ?_⟩) (by assumption) ?_
 rotate_left 1
 ·(intro wS hSw; (try dsimp only at hSw); go_simp; try (with_reducible rfl))
 try simp only [Act.put, List.setIfInBounds_toArray, List.set_cons_zero, List.set_cons_succ]
 refine wpAnyH_take (i := 14) (v := ?_) (by simp only [List.getElem?_toArray, List.getElem?_cons_succ, List.getElem?_cons_zero]; rfl) (by kernel_rfl) (by kernel_rfl) (by kernel_rfl) (by exact fun _ _ _ h => h) (Or.inl ⟨by rfl, ?_⟩) (by assumption) ?_
 rotate_left 1
 ·(intro wS hSw; (try dsimp only at hSw); go_simp; try (with_reducible rfl))
 try simp only [Act.put, List.setIfInBounds_toArray, List.set_cons_zero, List.set_cons_succ]
 refine wpAnyH_take (i := 15) (v := ?_) (by simp only [List.getElem?_toArray, List.getElem?_cons_succ, List.getElem?_cons_zero]; rfl) (by kernel_rfl) (by kernel_rfl) (by kernel_rfl) (by exact fun _ _ _ h => h) (Or.inl ⟨by rfl, ?_⟩) (by assumption) ?_
 rotate_left 1
 ·(intro wS hSw; (try dsimp only at hSw); go_simp; try (with_reducible rfl))
 try simp only [Act.put, List.setIfInBounds_toArray, List.set_cons_zero, List.set_cons_succ]
 refine wpAnyH_take (i := 16) (v := ?_) (by simp only [List.getElem?_toArray, List.getElem?_cons_succ, List.getElem?_cons_zero]; rfl) (by kernel_rfl) (by kernel_rfl) (by kernel_rfl) (by exact fun _ _ _ h => h) (Or.inl ⟨by rfl, ?_⟩) (by assumption) ?_
 rotate_left 1
 ·(intro wS hSw; (try dsimp only at hSw); go_simp; try (with_reducible rfl))
 try simp only [Act.put, List.setIfInBounds_toArray, List.set_cons_zero, List.set_cons_succ]
 clear hHeld
 refine wpAnyH_ready (rs := [8]) (by kernel_rfl) (by simp) ?_
 refine AllReadyH.cons (i := 8) (by simp only [List.getElem?_toArray, List.getElem?_cons_succ, List.getElem?_cons_zero]; rfl) (fun K hK => ?_) AllReadyH.nil
 go_simp
 (go_at_call 33; refine (KC.out _ (bel_drew _)).mono ?_; rintro e w1 ⟨p, d, rfl, hr, -, hb1⟩; have HB1 := bel (bel_drew _) hb1; have HR := hidM hr; have z1 := kc HB1 r1; have z2 := kc HB1 s1; have z3 := kc HB1 s2; clear hb1 hr)
 try (go_wp2_with fail)
 refine hK.out _ _ ?_ (fun hHeld => ?_)
 ·((try dsimp only); go_keep)
 clear hK K
 try simp only [Act.put, List.setIfInBounds_toArray, List.set_cons_zero, List.set_cons_succ]
 refine wpAnyH_take (i := 17) (v := ?_) (by simp only [List.getElem?_toArray, List.getElem?_cons_succ, List.getElem?_cons_zero]; rfl) (by kernel_rfl) (by kernel_rfl) (by kernel_rfl) (by exact fun _ _ _ h => h) (Or.inl ⟨by rfl, ?_⟩) (by assumption) ?_
 rotate_left 1
 ·(intro wS hSw; (try dsimp only at hSw); go_simp; try (with_reducible rfl))
 try simp only [Act.put, List.setIfInBounds_toArray, List.set_cons_zero, List.set_cons_succ]
 refine wpAnyH_take (i := 18) (v := ?_) (by simp only [List.getElem?_toArray, List.getElem?_cons_succ, List.getElem?_cons_zero]; rfl) (by kernel_rfl) (by kernel_rfl) (by kernel_rfl) (by exact fun _ _ _ h => h) (Or.inl ⟨by rfl, ?_⟩) (by assumption) ?_
 rotate_left 1
 ·(intro wS hSw; (try dsimp only at hSw); go_simp; try (with_reducible rfl))
 try simp only [Act.put, List.setIfInBounds_toArray, List.set_cons_zero, List.set_cons_succ]
 refine wpAnyH_take (i := 19) (v := ?_) (by simp only [List.getElem?_toArray, List.getElem?_cons_succ, List.getElem?_cons_zero]; rfl) (by kernel_rfl) (by kernel_rfl) (by kernel_rfl) (by exact fun _ _ _ h => h) (Or.inl ⟨by rfl, ?_⟩) (by assumption) ?_
 rotate_left 1
 ·(intro wS hSw; (try dsimp only at hSw); go_simp; try (with_reducible rfl))
 try simp only [Act.put, List.setIfInBounds_toArray, List.set_cons_zero, List.set_cons_succ]
 refine wpAnyH_done (by kernel_rfl) ?_ _
 go_wp2
 go_returns
 exact ⟨p, d, rfl, HR.out, HB1⟩
theorem VsT.cellsOf {T : Nat → Prop} {w : World} {v : Value} {L : List (List Int)} (h : VsT T w v L) : ∃ p c, v = .slice p L.length c ∧ ∀ i (hi : i < L.length), ∃ b o q d, p = some ⟨b, o, none⟩ ∧ w.cell? ⟨b, o + i, none⟩ = some (.slice q (L[i]).length d) ∧ Reads w q (L[i]).length (fun j => .int .u32 (atL L[i] j)) := by
 obtain ⟨p, c, hv, hh⟩ := h
 refine ⟨p, c, hv, fun i hi => ?_⟩
 rcases hh with e | ⟨b, o, hp, _, _, hh⟩
 ·rw [e] at hi; exact absurd hi (Nat.not_lt_zero _)
 ·obtain ⟨u, h1, h2⟩ := hh i hi
  obtain ⟨q, d, hq⟩ := h2.len
  rw [hq] at h1 h2
  exact ⟨b, o, q, d, hp, h1, h2.reads.2⟩
set_option maxRecDepth 100000 in
set_option maxHeartbeats 8000000 in
theorem same_any {T T' : Nat → Prop} (w : World) (u v : Value) (L : List (List Int)) (hu : VsT T w u L) (hv : VsT T' w v L) (hL : L.length ≤ 1048576) (hl : ∀ l ∈ L, l.length ≤ 1048576) :
  Calls Tryz.prog 14 #[u, v] w fun e w' => e = .returned (.bool true) ∧ Below w.heap.size w w' := by
 obtain ⟨p, c, rfl, hcu⟩ := hu.cellsOf
 obtain ⟨p', c', rfl, hcv⟩ := hv.cellsOf
 obtain ⟨N, hN⟩ : ∃ N, L.length = N := ⟨_, rfl⟩
 rw [hN] at hL ⊢
 have HCU : Hid (∀ i (hi : i < L.length), ∃ b o q d, p = some ⟨b, o, none⟩ ∧ w.cell? ⟨b, o + i, none⟩ = some (.slice q (L[i]).length d) ∧ Reads w q (L[i]).length (fun j => .int .u32 (atL L[i] j))) := hcu
 have HCV : Hid (∀ i (hi : i < L.length), ∃ b o q d, p' = some ⟨b, o, none⟩ ∧ w.cell? ⟨b, o + i, none⟩ = some (.slice q (L[i]).length d) ∧ Reads w q (L[i]).length (fun j => .int .u32 (atL L[i] j))) := hcv
 have HN : Hid (L.length = N ∧ ∀ l ∈ L, l.length ≤ 1048576) := ⟨hN, hl⟩
 clear hu hv hcu hcv hN hl
 go_enter Tryz.func14, Tryz.ntmps14
 go_wp2
 go_loopw [5] (fun iv wr => ∃ j : Nat, j ≤ N ∧ iv = .int .i64 j ∧ Hid (Below w.heap.size w wr)) (fun iv _ => N - (intOf iv).toNat)
 case atStart => exact ⟨0, Nat.zero_le _, rfl, bel0 _⟩
 case round =>
  obtain ⟨j, hj, rfl, HB⟩ := hrel
  by_cases hlt : j < N
  ·have hjL : j < L.length := by rw [HN.out.1]; exact hlt
   obtain ⟨b, o, q, d, rfl, h1, h2⟩ := HCU.out j hjL
   obtain ⟨b', o', q', d', rfl, h1', h2'⟩ := HCV.out j hjL
   have hln := HN.out.2 _ (List.getElem_mem hjL)
   obtain ⟨M, hM⟩ : ∃ M, (L[j]).length = M := ⟨_, rfl⟩
   obtain ⟨Y, hY⟩ : ∃ Y, atL L[j] = Y := ⟨_, rfl⟩
   rw [hM] at h1 h2 h1' h2' hln
   simp only [hY] at h2 h2'
   have k1 := kc HB.out h1
   have k2 := kc HB.out h1'
   have HRU := hidM (h2.below HB.out)
   have HRV := hidM (h2'.below HB.out)
   clear h1 h1' h2 h2' hM hY
   go_wp2
   refine wp_region_held_drew (S := (fun x => x.cell? ⟨b, o + j, none⟩ = some (.slice q M d) ∧ x.cell? ⟨b', o' + j, none⟩ = some (.slice q' M d'))) (by kernel_rfl) ?_ (fun hHeld => ?_)
   ·((try dsimp only); go_keep)
   refine wpAnyH_take (i := 0) (v := ?_) (by simp only [List.getElem?_toArray, List.getElem?_cons_succ, List.getElem?_cons_zero]; rfl) (by kernel_rfl) (by kernel_rfl) (by kernel_rfl) (by exact fun _ _ _ h => h) (Or.inl ⟨by rfl, ?_⟩) (by assumption) ?_
   rotate_left 1
   ·(intro wS hSw; (try dsimp only at hSw); go_simp; try (with_reducible rfl))
   try simp only [Act.put, List.setIfInBounds_toArray, List.set_cons_zero, List.set_cons_succ]
   refine wpAnyH_take (i := 1) (v := ?_) (by simp only [List.getElem?_toArray, List.getElem?_cons_succ, List.getElem?_cons_zero]; rfl) (by kernel_rfl) (by kernel_rfl) (by kernel_rfl) (by exact fun _ _ _ h => h) (Or.inl ⟨by rfl, ?_⟩) (by assumption) ?_
   rotate_left 1
   ·(intro wS hSw; (try dsimp only at hSw); go_simp; try (with_reducible rfl))
   try simp only [Act.put, List.setIfInBounds_toArray, List.set_cons_zero, List.set_cons_succ]
   refine wpAnyH_take (i := 2) (v := ?_) (by simp only [List.getElem?_toArray, List.getElem?_cons_succ, List.getElem?_cons_zero]; rfl) (by kernel_rfl) (by kernel_rfl) (by kernel_rfl) (by exact fun _ _ _ h => h) (Or.inl ⟨by rfl, ?_⟩) (by assumption) ?_
   rotate_left 1
   ·(intro wS hSw; (try dsimp only at hSw); go_simp; try (with_reducible rfl))
   try simp only [Act.put, List.setIfInBounds_toArray, List.set_cons_zero, List.set_cons_succ]
   refine wpAnyH_take (i := 3) (v := ?_) (by simp only [List.getElem?_toArray, List.getElem?_cons_succ, List.getElem?_cons_zero]; rfl) (by kernel_rfl) (by kernel_rfl) (by kernel_rfl) (by exact fun _ _ _ h => h) (Or.inl ⟨by rfl, ?_⟩) (by assumption) ?_
   rotate_left 1
   ·(intro wS hSw; (try dsimp only at hSw); go_simp; try (with_reducible rfl))
   try simp only [Act.put, List.setIfInBounds_toArray, List.set_cons_zero, List.set_cons_succ]
   refine wpAnyH_take (i := 4) (v := ?_) (by simp only [List.getElem?_toArray, List.getElem?_cons_succ, List.getElem?_cons_zero]; rfl) (by kernel_rfl) (by kernel_rfl) (by kernel_rfl) (by exact fun _ _ _ h => h) (Or.inl ⟨by rfl, ?_⟩) (by assumption) ?_
   rotate_left 1
   ·(intro wS hSw; (try dsimp only at hSw); go_simp; try (with_reducible rfl))
   try simp only [Act.put, List.setIfInBounds_toArray, List.set_cons_zero, List.set_cons_succ]
   refine wpAnyH_take (i := 5) (v := ?_) (by simp only [List.getElem?_toArray, List.getElem?_cons_succ, List.getElem?_cons_zero]; rfl) (by kernel_rfl) (by kernel_rfl) (by kernel_rfl) (by exact fun _ _ _ h => h) (Or.inl ⟨by rfl, ?_⟩) (by assumption) ?_
   rotate_left 1
   ·(intro wS hSw; (try dsimp only at hSw); go_simp; try (with_reducible rfl))
   try simp only [Act.put, List.setIfInBounds_toArray, List.set_cons_zero, List.set_cons_succ]
   refine wpAnyH_take (i := 6) (v := ?_) (by simp only [List.getElem?_toArray, List.getElem?_cons_succ, List.getElem?_cons_zero]; rfl) (by kernel_rfl) (by kernel_rfl) (by kernel_rfl) (by exact fun _ _ _ h => h) (Or.inl ⟨by rfl, ?_⟩) (by assumption) ?_
   rotate_left 1
   ·(intro wS hSw; (try dsimp only at hSw); go_simp; try (with_reducible rfl))
   try simp only [Act.put, List.setIfInBounds_toArray, List.set_cons_zero, List.set_cons_succ]
   refine wpAnyH_take (i := 7) (v := ?_) (by simp only [List.getElem?_toArray, List.getElem?_cons_succ, List.getElem?_cons_zero]; rfl) (by kernel_rfl) (by kernel_rfl) (by kernel_rfl) (by exact fun _ _ _ h => h) (Or.inl ⟨by rfl, ?_⟩) (by assumption) ?_
   rotate_left 1
   ·(intro wS hSw; (try dsimp only at hSw); go_simp; try (with_reducible rfl))
   try simp only [Act.put, List.setIfInBounds_toArray, List.set_cons_zero, List.set_cons_succ]
   refine wpAnyH_take (i := 8) (v := ?_) (by simp only [List.getElem?_toArray, List.getElem?_cons_succ, List.getElem?_cons_zero]; rfl) (by kernel_rfl) (by kernel_rfl) (by kernel_rfl) (by exact fun _ _ _ h => h) (Or.inl ⟨by rfl, ?_⟩) (by assumption) ?_
   rotate_left 1
   ·(intro wS hSw; (try dsimp only at hSw); go_simp; try (with_reducible rfl))
   try simp only [Act.put, List.setIfInBounds_toArray, List.set_cons_zero, List.set_cons_succ]
   refine wpAnyH_take (i := 9) (v := ?_) (by simp only [List.getElem?_toArray, List.getElem?_cons_succ, List.getElem?_cons_zero]; rfl) (by kernel_rfl) (by kernel_rfl) (by kernel_rfl) (by exact fun _ _ _ h => h) (Or.inl ⟨by rfl, ?_⟩) (by assumption) ?_
   rotate_left 1
   ·(intro wS hSw; (try dsimp only at hSw); go_simp; try (with_reducible rfl))
   try simp only [Act.put, List.setIfInBounds_toArray, List.set_cons_zero, List.set_cons_succ]
   refine wpAnyH_take (i := 10) (v := ?_) (by simp only [List.getElem?_toArray, List.getElem?_cons_succ, List.getElem?_cons_zero]; rfl) (by kernel_rfl) (by kernel_rfl) (by kernel_rfl) (by exact fun _ _ _ h => h) (Or.inl ⟨by rfl, ?_⟩) (by assumption) ?_
   rotate_left 1
   ·(intro wS hSw; (try dsimp only at hSw); go_simp; try (with_reducible rfl))
   try simp only [Act.put, List.setIfInBounds_toArray, List.set_cons_zero, List.set_cons_succ]
   refine wpAnyH_done (by kernel_rfl) ?_ _
   go_wp2
   rename World => W0
   go_loopw [6] (fun iv wr2 => ∃ k : Nat, k ≤ M ∧ iv = .int .i64 k ∧ Hid (Below W0.heap.size W0 wr2)) (fun iv _ => M - (intOf iv).toNat)
   case atStart => exact ⟨0, Nat.zero_le _, rfl, bel_drew _⟩
   case round =>
    obtain ⟨k, hk, rfl, HB2⟩ := hrel
    have m1 := kc HB2.out k1
    have m2 := kc HB2.out k2
    by_cases hlt2 : k < M
    ·rcases HRU.out with e | ⟨ub, uo, hue, hur⟩
     ·omega
     rcases HRV.out with e | ⟨vb, vo, hve, hvr⟩
     ·omega
     have n1 := kc HB2.out (hur k hlt2)
     have n2 := kc HB2.out (hvr k hlt2)
     subst hue hve
     clear hur hvr HRU HRV
     go_wp2
     refine wp_region_held_drew (S := (fun x => x.cell? ⟨b, o + j, none⟩ = some (.slice (some ⟨ub, uo, none⟩) M d) ∧ x.cell? ⟨b', o' + j, none⟩ = some (.slice (some ⟨vb, vo, none⟩) M d') ∧ x.cell? ⟨ub, uo + k, none⟩ = some (.int .u32 (Y k)) ∧ x.cell? ⟨vb, vo + k, none⟩ = some (.int .u32 (Y k)))) (by kernel_rfl) ?_ (fun hHeld => ?_)
     ·((try dsimp only); go_keep)
     refine wpAnyH_take (i := 0) (v := ?_) (by simp only [List.getElem?_toArray, List.getElem?_cons_succ, List.getElem?_cons_zero]; rfl) (by kernel_rfl) (by kernel_rfl) (by kernel_rfl) (by exact fun _ _ _ h => h) (Or.inl ⟨by rfl, ?_⟩) (by assumption) ?_
     rotate_left 1
     ·(intro wS hSw; (try dsimp only at hSw); go_simp; try (with_reducible rfl))
     try simp only [Act.put, List.setIfInBounds_toArray, List.set_cons_zero, List.set_cons_succ]
     refine wpAnyH_take (i := 1) (v := ?_) (by simp only [List.getElem?_toArray, List.getElem?_cons_succ, List.getElem?_cons_zero]; rfl) (by kernel_rfl) (by kernel_rfl) (by kernel_rfl) (by exact fun _ _ _ h => h) (Or.inl ⟨by rfl, ?_⟩) (by assumption) ?_
     rotate_left 1
     ·(intro wS hSw; (try dsimp only at hSw); go_simp; try (with_reducible rfl))
     try simp only [Act.put, List.setIfInBounds_toArray, List.set_cons_zero, List.set_cons_succ]
     refine wpAnyH_take (i := 2) (v := ?_) (by simp only [List.getElem?_toArray, List.getElem?_cons_succ, List.getElem?_cons_zero]; rfl) (by kernel_rfl) (by kernel_rfl) (by kernel_rfl) (by exact fun _ _ _ h => h) (Or.inl ⟨by rfl, ?_⟩) (by assumption) ?_
     rotate_left 1
     ·(intro wS hSw; (try dsimp only at hSw); go_simp; try (with_reducible rfl))
     try simp only [Act.put, List.setIfInBounds_toArray, List.set_cons_zero, List.set_cons_succ]
     refine wpAnyH_take (i := 3) (v := ?_) (by simp only [List.getElem?_toArray, List.getElem?_cons_succ, List.getElem?_cons_zero]; rfl) (by kernel_rfl) (by kernel_rfl) (by kernel_rfl) (by exact fun _ _ _ h => h) (Or.inl ⟨by rfl, ?_⟩) (by assumption) ?_
     rotate_left 1
     ·(intro wS hSw; (try dsimp only at hSw); go_simp; try (with_reducible rfl))
     try simp only [Act.put, List.setIfInBounds_toArray, List.set_cons_zero, List.set_cons_succ]
     refine wpAnyH_take (i := 4) (v := ?_) (by simp only [List.getElem?_toArray, List.getElem?_cons_succ, List.getElem?_cons_zero]; rfl) (by kernel_rfl) (by kernel_rfl) (by kernel_rfl) (by exact fun _ _ _ h => h) (Or.inl ⟨by rfl, ?_⟩) (by assumption) ?_
     rotate_left 1
     ·(intro wS hSw; (try dsimp only at hSw); go_simp; try (with_reducible rfl))
     try simp only [Act.put, List.setIfInBounds_toArray, List.set_cons_zero, List.set_cons_succ]
     refine wpAnyH_take (i := 5) (v := ?_) (by simp only [List.getElem?_toArray, List.getElem?_cons_succ, List.getElem?_cons_zero]; rfl) (by kernel_rfl) (by kernel_rfl) (by kernel_rfl) (by exact fun _ _ _ h => h) (Or.inl ⟨by rfl, ?_⟩) (by assumption) ?_
     rotate_left 1
     ·(intro wS hSw; (try dsimp only at hSw); go_simp; try (with_reducible rfl))
     try simp only [Act.put, List.setIfInBounds_toArray, List.set_cons_zero, List.set_cons_succ]
     refine wpAnyH_take (i := 6) (v := ?_) (by simp only [List.getElem?_toArray, List.getElem?_cons_succ, List.getElem?_cons_zero]; rfl) (by kernel_rfl) (by kernel_rfl) (by kernel_rfl) (by exact fun _ _ _ h => h) (Or.inl ⟨by rfl, ?_⟩) (by assumption) ?_
     rotate_left 1
     ·(intro wS hSw; (try dsimp only at hSw); go_simp; try (with_reducible rfl))
     try simp only [Act.put, List.setIfInBounds_toArray, List.set_cons_zero, List.set_cons_succ]
     refine wpAnyH_take (i := 7) (v := ?_) (by simp only [List.getElem?_toArray, List.getElem?_cons_succ, List.getElem?_cons_zero]; rfl) (by kernel_rfl) (by kernel_rfl) (by kernel_rfl) (by exact fun _ _ _ h => h) (Or.inl ⟨by rfl, ?_⟩) (by assumption) ?_
     rotate_left 1
     ·(intro wS hSw; (try dsimp only at hSw); go_simp; try (with_reducible rfl))
     try simp only [Act.put, List.setIfInBounds_toArray, List.set_cons_zero, List.set_cons_succ]
     refine wpAnyH_take (i := 8) (v := ?_) (by simp only [List.getElem?_toArray, List.getElem?_cons_succ, List.getElem?_cons_zero]; rfl) (by kernel_rfl) (by kernel_rfl) (by kernel_rfl) (by exact fun _ _ _ h => h) (Or.inl ⟨by rfl, ?_⟩) (by assumption) ?_
     rotate_left 1
     ·(intro wS hSw; (try dsimp only at hSw); go_simp; try (with_reducible rfl))
     try simp only [Act.put, List.setIfInBounds_toArray, List.set_cons_zero, List.set_cons_succ]
     refine wpAnyH_take (i := 9) (v := ?_) (by simp only [List.getElem?_toArray, List.getElem?_cons_succ, List.getElem?_cons_zero]; rfl) (by kernel_rfl) (by kernel_rfl) (by kernel_rfl) (by exact fun _ _ _ h => h) (Or.inl ⟨by rfl, ?_⟩) (by assumption) ?_
     rotate_left 1
     ·(intro wS hSw; (try dsimp only at hSw); go_simp; try (with_reducible rfl))
     try simp only [Act.put, List.setIfInBounds_toArray, List.set_cons_zero, List.set_cons_succ]
     refine wpAnyH_take (i := 10) (v := ?_) (by simp only [List.getElem?_toArray, List.getElem?_cons_succ, List.getElem?_cons_zero]; rfl) (by kernel_rfl) (by kernel_rfl) (by kernel_rfl) (by exact fun _ _ _ h => h) (Or.inl ⟨by rfl, ?_⟩) (by assumption) ?_
     rotate_left 1
     ·(intro wS hSw; (try dsimp only at hSw); go_simp; try (with_reducible rfl))
     try simp only [Act.put, List.setIfInBounds_toArray, List.set_cons_zero, List.set_cons_succ]
     refine wpAnyH_take (i := 11) (v := ?_) (by simp only [List.getElem?_toArray, List.getElem?_cons_succ, List.getElem?_cons_zero]; rfl) (by kernel_rfl) (by kernel_rfl) (by kernel_rfl) (by exact fun _ _ _ h => h) (Or.inl ⟨by rfl, ?_⟩) (by assumption) ?_
     rotate_left 1
     ·(intro wS hSw; (try dsimp only at hSw); go_simp; try (with_reducible rfl))
     try simp only [Act.put, List.setIfInBounds_toArray, List.set_cons_zero, List.set_cons_succ]
     refine wpAnyH_take (i := 12) (v := ?_) (by simp only [List.getElem?_toArray, List.getElem?_cons_succ, List.getElem?_cons_zero]; rfl) (by kernel_rfl) (by kernel_rfl) (by kernel_rfl) (by exact fun _ _ _ h => h) (Or.inl ⟨by rfl, ?_⟩) (by assumption) ?_
     rotate_left 1
     ·(intro wS hSw; (try dsimp only at hSw); go_simp; try (with_reducible rfl))
     try simp only [Act.put, List.setIfInBounds_toArray, List.set_cons_zero, List.set_cons_succ]
     refine wpAnyH_take (i := 13) (v := ?_) (by simp only [List.getElem?_toArray, List.getElem?_cons_succ, List.getElem?_cons_zero]; rfl) (by kernel_rfl) (by kernel_rfl) (by kernel_rfl) (by exact fun _ _ _ h => h) (Or.inl ⟨by rfl, ?_⟩) (by assumption) ?_
     rotate_left 1
     ·(intro wS hSw; (try dsimp only at hSw); go_simp; try (with_reducible rfl))
     try simp only [Act.put, List.setIfInBounds_toArray, List.set_cons_zero, List.set_cons_succ]
     refine wpAnyH_take (i := 14) (v := ?_) (by simp only [List.getElem?_toArray, List.getElem?_cons_succ, List.getElem?_cons_zero]; rfl) (by kernel_rfl) (by kernel_rfl) (by kernel_rfl) (by exact fun _ _ _ h => h) (Or.inl ⟨by rfl, ?_⟩) (by assumption) ?_
     rotate_left 1
     ·(intro wS hSw; (try dsimp only at hSw); go_simp; try (with_reducible rfl))
     try simp only [Act.put, List.setIfInBounds_toArray, List.set_cons_zero, List.set_cons_succ]
     refine wpAnyH_done (by kernel_rfl) ?_ _
     go_wp2
     go_roundw
     case rel => exact ⟨k + 1, by omega, by go_num, bel HB2.out (bel_drew _)⟩
     case measure => simp [intOf]; omega
    ·go_wp2
     go_roundw
     case rel => exact ⟨j + 1, by omega, by go_num, bel HB.out HB2.out⟩
     case measure => simp [intOf]; omega
  ·go_wp2
   go_ret
   exact ⟨rfl, HB.out⟩
end Go.Proofs.YtholhpmnicibgaaGreat
namespace Go.Proofs.YtholhpmnicibgaaGreat
open Go.RowKit
set_option linter.unusedVariables false
set_option linter.unusedSimpArgs false
def hName : ByteArray := ⟨#[119]⟩
def halfC (k : Int) : Cd := ⟨[⟨hName, 1, 2⟩], [⟨3, 0⟩, ⟨1, 0⟩, ⟨2, 0⟩], [⟨⟨2, 0⟩, true, 0, k⟩], [⟨29, 0, 0, 0, 0, 0, 0⟩, ⟨1, 1, 0, 0, 0, 0, 1056964608⟩, ⟨6, 0, 0, 1, 0, 0, 0⟩, ⟨31, 0, 0, 0, 0, 0, 0⟩, ⟨32, 2, 0, 0, 0, 0, 0⟩, ⟨21, 2, 2, 0, 0, 0, 0⟩, ⟨33, 0, 2, 0, 0, 0, 0⟩]⟩
theorem half_ahead (k : Int) (h0 : 0 ≤ k) (h1 : k ≤ 2147483647) : aheadP (halfC k) = 0 := by
 have e1 : checkP (halfC k).sign = 0 := by show checkP [⟨hName, 1, 2⟩] = 0; decide +kernel
 have e2 : slotsMay (halfC k) = true := by
  unfold slotsMay halfC
  simp [slotMay, typeMay, begins, wholeB, h0, h1]
 have e3 : typesMay (halfC k) = true := by
  unfold typesMay halfC
  simp [typeMay, isPl]
 unfold aheadP
 rw [if_neg (by simp [e1]), if_neg (by show ¬ (16384 < 3 ∨ 32768 < 7); decide), if_neg (by show ¬ (4096 < 1); decide), e2, e3]
 rfl
theorem half_check (k : Int) (h0 : 0 ≤ k) (h1 : k ≤ 2147483647) : (checkC (halfC k)).1 = 0 := by
 rw [checkC_ok]
 exact ⟨half_ahead k h0 h1, by rfl, by rfl⟩
theorem half_ok (k : Int) : CdOk (halfC k) := by
 refine ⟨by show (1 : Nat) ≤ _; decide, fun p hp => ?_, by show (3 : Nat) ≤ _; decide, by show (1 : Nat) ≤ _; decide, by show (7 : Nat) ≤ _; decide, fun s hs => ?_, fun i hi => ?_⟩
 ·simp [halfC] at hp; rw [hp]; decide
 ·simp [halfC] at hs; rw [hs]; show (0 : Int) ≤ 0 ∧ (0 : Int) < 4294967296; decide
 ·simp [halfC] at hi
  rcases hi with e | e | e | e | e | e | e <;> rw [e] <;> decide
theorem half_start (k : Int) : startH (halfC k) = [⟨[], k⟩] := by rfl
theorem half_steps (k y : Int) (G P : List (List Int)) : (endJ (halfC k) [⟨[], y⟩] G P).slots = [⟨[], min y 2147483646 + 1⟩] := by rfl
theorem half_fits (k : Int) (x y : Int) : fits2 (halfC k) [[x, y]] [[x, y]] = true := by rfl
theorem half_nofit (k : Int) : fits2 (halfC k) [] [] = false := by rfl
theorem half_upd : updP (halfC 4) (endJ (halfC 4) [⟨[], 4⟩] [[1073741824, 1065353216]] [[1073741824, 1065353216]]) = [[1065353216, 1056964608]] := by decide +kernel
end Go.Proofs.YtholhpmnicibgaaGreat
namespace Go.Proofs.YtholhpmnicibgaaGreat
open Go.RowKit
set_option linter.unusedVariables false
set_option linter.unusedSimpArgs false
structure HalfAt (w : World) (g : Nat) : Prop where
 sign : w.rowIs g 72 3 (fun j => if j = 0 then .string hName else if j = 1 then .int .i64 1 else .int .i64 2)
 regs : RowG 2 tyC w (.slice (some ⟨g + 1, 0, none⟩) 3 3) (halfC 4).regs
 slots : w.rowIs (g + 2) 65 5 (fun j => if j = 0 then .int .i64 2 else if j = 1 then .int .i64 0 else if j = 2 then .bool true else if j = 3 then .int .u32 0 else .int .i64 4)
 list : RowG 7 inC w (.slice (some ⟨g + 3, 0, none⟩) 7 7) (halfC 4).list
theorem rowG_new {α : Type} {k : Nat} {f : α → List Value} (hf : ∀ x, (f x).length = k) {l : List α} (w : World) (cs : Array Value) (t : TypeId) (h : cs.toList = flat f l) (c : Nat) : RowG k f (w.alloc (.cells cs t)) (.slice (some ⟨w.heap.size, 0, none⟩) l.length c) l := by
 refine ⟨_, _, rfl, .inr ⟨w.heap.size, 0, rfl, fun i hi j hj => ?_⟩⟩
 have hj' : j < k := by rw [← hf l[i]]; exact hj
 have h1 := flat_at hf l i j hi hj'
 rw [← h] at h1
 have h2 : cs[0 + i * k + j]? = some (f l[i])[j] := by
  rw [Nat.zero_add, ← Array.getElem?_toList, h1, List.getElem?_eq_getElem hj]
 have h3 : (w.alloc (.cells cs t)).heap[w.heap.size]? = some (.cells cs t (0, 0)) := heap_alloc_new w _
 unfold World.cell?
 simp only [h3]
 exact h2
set_option maxRecDepth 100000 in
set_option maxHeartbeats 4000000 in
theorem half_any (w : World) : Calls Tryz.prog 18 #[] w fun e w' => e = .returned (.agg #[.slice (some ⟨w.heap.size + 1, 0, none⟩) 1 1, .slice (some ⟨w.heap.size + 2, 0, none⟩) 3 3, .slice (some ⟨w.heap.size + 3, 0, none⟩) 1 1, .slice (some ⟨w.heap.size + 4, 0, none⟩) 7 7]) ∧ Below w.heap.size w w' ∧ HalfAt w' (w.heap.size + 1) ∧ w'.heap.size = w.heap.size + 5 := by
 go_enter Tryz.func18, Tryz.ntmps18
 go_wp2
 refine bodyPost_ret (by simp [results, Tryz.results18, go_sem]; try rfl) rfl ?_
 refine ⟨rfl, by go_grown, ?_, by simp⟩
 obtain ⟨W0, hW0⟩ : ∃ W0, w.alloc (.cells #[.slice (some ⟨w.heap.size + 1, 0, none⟩) 1 1, .slice (some ⟨w.heap.size + 1 + 1, 0, none⟩) 3 3, .slice (some ⟨w.heap.size + 1 + 1 + 1, 0, none⟩) 1 1, .slice (some ⟨w.heap.size + 1 + 1 + 1 + 1, 0, none⟩) 7 7] 27) = W0 := ⟨_, rfl⟩
 have hs : W0.heap.size = w.heap.size + 1 := by rw [← hW0]; simp
 rw [hW0, ← hs]
 clear hW0
 have e1 : ∀ o, (W0.alloc o).heap.size = W0.heap.size + 1 := fun o => by simp
 have e2 : ∀ o o', ((W0.alloc o).alloc o').heap.size = W0.heap.size + 2 := fun o o' => by simp
 have e3 : ∀ o o' o'', (((W0.alloc o).alloc o').alloc o'').heap.size = W0.heap.size + 3 := fun o o' o'' => by simp
 refine ⟨?_, ?_, ?_, ?_⟩
 ·refine World.rowIs.alloc (World.rowIs.alloc (World.rowIs.alloc (World.rowIs_alloc W0 #[.string hName, .int .i64 1, .int .i64 2] 72 _ fun i hi => ?_) _) _) _
  have hi' : i < 3 := hi
  obtain rfl | rfl | rfl : i = 0 ∨ i = 1 ∨ i = 2 := by omega
  all_goals rfl
 ·rw [← e1 (.cells #[.string hName, .int .i64 1, .int .i64 2] 72)]
  exact ((rowG_new (l := (halfC 4).regs) tyC_len _ _ _ (by rfl) 3).below (bel_alloc _ _)).below (bel_alloc _ _)
 ·rw [← e2 (.cells #[.string hName, .int .i64 1, .int .i64 2] 72) (.cells #[.int .i64 3, .int .i64 0, .int .i64 1, .int .i64 0, .int .i64 2, .int .i64 0] 63)]
  refine World.rowIs.alloc (World.rowIs_alloc _ #[.int .i64 2, .int .i64 0, .bool true, .int .u32 0, .int .i64 4] 65 _ fun i hi => ?_) _
  have hi' : i < 5 := hi
  obtain rfl | rfl | rfl | rfl | rfl : i = 0 ∨ i = 1 ∨ i = 2 ∨ i = 3 ∨ i = 4 := by omega
  all_goals rfl
 ·rw [← e3 (.cells #[.string hName, .int .i64 1, .int .i64 2] 72) (.cells #[.int .i64 3, .int .i64 0, .int .i64 1, .int .i64 0, .int .i64 2, .int .i64 0] 63) (.cells #[.int .i64 2, .int .i64 0, .bool true, .int .u32 0, .int .i64 4] 65)]
  exact rowG_new (l := (halfC 4).list) inC_len _ _ _ (by rfl) 7
theorem half_code {w : World} {g : Nat} (h : HalfAt w g) {k : Int} {v : World} (hb : ∀ b, b ≠ g + 2 → b < w.heap.size → v.heap[b]? = w.heap[b]?) (hs : v.rowIs (g + 2) 65 5 (fun j => if j = 0 then .int .i64 2 else if j = 1 then .int .i64 0 else if j = 2 then .bool true else if j = 3 then .int .u32 0 else .int .i64 k)) :
  CdV v (.slice (some ⟨g, 0, none⟩) 1 1) (.slice (some ⟨g + 1, 0, none⟩) 3 3) (.slice (some ⟨g + 2, 0, none⟩) 1 1) (.slice (some ⟨g + 3, 0, none⟩) 7 7) (halfC k) := by
 have keep : ∀ {k n : Nat} {α : Type} {f : α → List Value} {l : List α} {b : Nat}, b ≠ g + 2 → RowG k f w (.slice (some ⟨b, 0, none⟩) n n) l → RowG k f v (.slice (some ⟨b, 0, none⟩) n n) l := by
  intro k n α f l b hne hr
  obtain ⟨p, c, hv, hh⟩ := hr
  refine ⟨p, c, hv, ?_⟩
  rcases hh with e | ⟨b', o', hp, hc⟩
  ·exact .inl e
  ·refine .inr ⟨b', o', hp, fun i hi j hj => ?_⟩
   simp only [Value.slice.injEq] at hv
   obtain ⟨rfl, -, -⟩ := hv
   simp only [Option.some.injEq, Addr.mk.injEq] at hp
   obtain ⟨rfl, rfl, -⟩ := hp
   have h1 := hc i hi j hj
   have h2 := mcell_lt h1
   exact (World.cell?_of_block (hb _ hne h2)).trans h1
 have hsg := h.sign.of_block (hb g (by omega) h.sign.lt)
 refine ⟨?_, keep (by omega) h.regs, ?_, keep (by omega) h.list⟩
 ·refine ⟨_, _, rfl, .inr ⟨g, 0, rfl, fun i hi j hj => ?_⟩⟩
  have hi0 : i = 0 := by have : i < 1 := hi; omega
  subst hi0
  have hj' : j < 3 := hj
  have := hsg.cell hj'
  obtain rfl | rfl | rfl : j = 0 ∨ j = 1 ∨ j = 2 := by omega
  all_goals exact this
 ·refine ⟨_, _, rfl, .inr ⟨g + 2, 0, rfl, fun i hi j hj => ?_⟩⟩
  have hi0 : i = 0 := by have : i < 1 := hi; omega
  subst hi0
  have hj' : j < 5 := hj
  have := hs.cell hj'
  obtain rfl | rfl | rfl | rfl | rfl : j = 0 ∨ j = 1 ∨ j = 2 ∨ j = 3 ∨ j = 4 := by omega
  all_goals exact this
end Go.Proofs.YtholhpmnicibgaaGreat
namespace Go.Proofs.YtholhpmnicibgaaGreat
open Go.RowKit
set_option linter.unusedVariables false
set_option linter.unusedSimpArgs false
def endC : Cd := ⟨[], [], [], [⟨35, 0, 0, 0, 0, 0, 0⟩]⟩
theorem end_check : (checkC endC).1 = 160 := by decide +kernel
theorem end_ok : CdOk endC := by
 refine ⟨by show (0 : Nat) ≤ _; decide, fun p hp => ?_, by show (0 : Nat) ≤ _; decide, by show (0 : Nat) ≤ _; decide, by show (1 : Nat) ≤ _; decide, fun s hs => ?_, fun i hi => ?_⟩
 ·cases hp
 ·cases hs
 ·simp [endC] at hi; rw [hi]; decide
theorem vs_two {T : Nat → Prop} (w : World) (x y : Int) (h1 : ¬ T w.heap.size) (h2 : ¬ T (w.heap.size + 1)) : VsT T ((w.alloc (.cells #[.int .u32 x, .int .u32 y] 43)).alloc (.cells #[.slice (some ⟨w.heap.size, 0, none⟩) 2 2] 57)) (.slice (some ⟨w.heap.size + 1, 0, none⟩) 1 1) [[x, y]] := by
 have r1 := (World.rowIs_alloc w #[.int .u32 x, .int .u32 y] 43 (fun j => .int .u32 (atL [x, y] j)) (fun i hi => by
  have hi' : i < 2 := hi
  obtain rfl | rfl : i = 0 ∨ i = 1 := by omega
  all_goals rfl)).alloc (.cells #[.slice (some ⟨w.heap.size, 0, none⟩) 2 2] 57)
 have r2 := World.rowIs_alloc (w.alloc (.cells #[.int .u32 x, .int .u32 y] 43)) #[.slice (some ⟨w.heap.size, 0, none⟩) 2 2] 57 (fun _ => .slice (some ⟨w.heap.size, 0, none⟩) 2 2) (fun i hi => by
  have hi' : i < 1 := hi
  obtain rfl : i = 0 := by omega
  rfl)
 rw [show (w.alloc (.cells #[.int .u32 x, .int .u32 y] 43)).heap.size = w.heap.size + 1 by simp] at r2
 refine ⟨_, _, rfl, .inr ⟨w.heap.size + 1, 0, rfl, h2, r2.lt, fun i hi => ?_⟩⟩
 have hi0 : i = 0 := by have : i < 1 := hi; omega
 subst hi0
 exact ⟨_, r2.cell (i := 0) (by show 0 < 1; decide), Pt.of_row r1 h1 rfl (fun j _ => rfl) 2⟩
theorem vs_nil (T : Nat → Prop) (w : World) (c : Nat) : VsT T w (.slice none 0 c) [] := ⟨none, c, rfl, .inl rfl⟩
theorem vok_two {x y : Int} (h1 : IsP x) (h2 : IsP y) : VsOk [[x, y]] := by
 refine ⟨by show 1 ≤ 140737488351232; decide, fun l hl => ?_, fun l hl z hz => ?_⟩
 ·simp at hl; rw [hl]; show 2 ≤ 140737488351232; decide
 ·simp at hl; rw [hl] at hz; simp at hz; rcases hz with e | e <;> rw [e]
  ·exact h1
  ·exact h2
theorem vok_nil : VsOk [] := ⟨by show 0 ≤ 140737488351232; decide, fun l hl => (by cases hl), fun l hl => (by cases hl)⟩
theorem half_go {k y x1 x2 : Int} (k0 : 0 ≤ k) (k1 : k ≤ 2147483647) (h1 : IsP x1) (h2 : IsP x2) {B : Nat} (w : World) (R : Nat) (a : Lay) (X : Nat → Value) (h : RunAt (fun b => b < B ∨ b = a.S) B w R a X (halfC k) [⟨[], y⟩]) (hB : B ≤ w.heap.size) (v : Value) (hv : VsT (fun b => b < B ∨ b = a.S) w v [[x1, x2]]) :
  Calls Tryz.prog 12 #[.pointer (some ⟨R, 0, none⟩), v, v] w fun e w' => ∃ UB, e = .returned (.tuple #[.slice (some ⟨UB, 0, none⟩) 1 1, .int .i64 0]) ∧ (∃ X', RunAt (fun b => b < B ∨ b = a.S) B w' R a X' (halfC k) [⟨[], min y 2147483646 + 1⟩]) ∧ Un (fun b => b = a.S) w w' ∧ VsT (fun b => b < w.heap.size) w' (.slice (some ⟨UB, 0, none⟩) 1 1) (updP (halfC k) (endJ (halfC k) [⟨[], y⟩] [[x1, x2]] [[x1, x2]])) := by
 have := step_good w R a X (halfC k) [⟨[], y⟩] h (half_check k k0 k1) (half_ok k) (fun b e => e.elim (fun q => by omega) fun q => by rw [q]; exact h.slots.row.lt) v v [[x1, x2]] [[x1, x2]] hv hv (vok_two h1 h2) (vok_two h1 h2) (half_fits k x1 x2)
 rw [half_steps] at this
 exact this
theorem half_none {k y : Int} (k0 : 0 ≤ k) (k1 : k ≤ 2147483647) {B : Nat} (w : World) (R : Nat) (a : Lay) (X : Nat → Value) (h : RunAt (fun b => b < B ∨ b = a.S) B w R a X (halfC k) [⟨[], y⟩]) :
  Calls Tryz.prog 12 #[.pointer (some ⟨R, 0, none⟩), .slice none 0 0, .slice none 0 0] w fun e w' => e = .returned (.tuple #[.slice none 0 0, .int .i64 170]) ∧ Below w.heap.size w w' :=
 step_bad w R a X (halfC k) _ h (good_of (half_check k k0 k1)).1 (half_ok k).names _ _ [] [] (vs_nil _ _ _) (vs_nil _ _ _) vok_nil vok_nil (half_nofit k)
theorem half_slot {k y : Int} (k0 : 0 ≤ k) (k1 : k ≤ 2147483647) {B : Nat} (w : World) (R : Nat) (a : Lay) (X : Nat → Value) (h : RunAt (fun b => b < B ∨ b = a.S) B w R a X (halfC k) [⟨[], y⟩]) :
  Calls Tryz.prog 16 #[.pointer (some ⟨R, 0, none⟩), .int .i64 0] w fun e w' => ∃ p d, e = .returned (.tuple #[.slice p 0 d, .int .i64 y, .int .i64 0]) ∧ Below w.heap.size w w' :=
 (slot_any w R a X (halfC k) [⟨[], y⟩] h (good_of (half_check k k0 k1)).1 0 (by show 0 < 1; decide)).mono fun e w' ⟨p, d, h1, _, h2⟩ => ⟨p, d, h1, h2⟩
set_option maxRecDepth 100000 in
set_option maxHeartbeats 8000000 in
theorem isure_any (w : World) : Calls Tryz.prog 10 #[] w fun e w' => e = .returned (.bool true) ∧ Below w.heap.size w w' := by
 have KN : Hid (∀ (v u : World), HalfAt v (w.heap.size + 1) → u = v → Calls Tryz.prog 8 #[.agg #[.slice (some ⟨w.heap.size + 1, 0, none⟩) 1 1, .slice (some ⟨w.heap.size + 2, 0, none⟩) 3 3, .slice (some ⟨w.heap.size + 3, 0, none⟩) 1 1, .slice (some ⟨w.heap.size + 4, 0, none⟩) 7 7]] u fun e w' => ∃ R a X, e = .returned (.tuple #[.pointer (some ⟨R, 0, none⟩), .int .i64 0]) ∧ RunAt (fun b => b < u.heap.size ∨ b = a.S) u.heap.size w' R a X (halfC 4) [⟨[], 4⟩] ∧ Below u.heap.size u w') := fun v u h e => by
  subst e
  have := new_good _ _ _ _ (halfC 4) (half_ok 4) u (half_code h (fun _ _ _ => rfl) h.slots) (half_check 4 (by decide) (by decide))
  rw [half_start] at this
  exact this
 have hg4 := (good_of (half_check 4 (by decide) (by decide))).1
 have KB : Hid (∀ v : World, Calls Tryz.prog 8 #[.agg #[.slice none 0 0, .slice none 0 0, .slice none 0 0, .slice (some ⟨v.heap.size, 0, none⟩) 1 1]] (v.alloc (.cells #[.int .i64 35, .int .i64 0, .int .i64 0, .int .i64 0, .int .i64 0, .int .i64 0, .int .u32 0] 45)) fun e w' => e = .returned (.tuple #[.pointer none, .int .i64 160]) ∧ Below v.heap.size v w') := fun v => by
  have := new_bad (.slice none 0 0) (.slice none 0 0) (.slice none 0 0) (.slice (some ⟨v.heap.size, 0, none⟩) 1 1) endC end_ok (v.alloc (.cells #[.int .i64 35, .int .i64 0, .int .i64 0, .int .i64 0, .int .i64 0, .int .i64 0, .int .u32 0] 45)) ⟨⟨none, 0, rfl, .inl rfl⟩, ⟨none, 0, rfl, .inl rfl⟩, ⟨none, 0, rfl, .inl rfl⟩, rowG_new (l := endC.list) inC_len v _ _ (by rfl) 1⟩ (by rw [end_check]; decide)
  rw [end_check] at this
  exact this.mono fun e w' ⟨h1, h2⟩ => ⟨h1, bel (bel_alloc _ _) h2⟩
 have heq : ∀ (w : World) (q : Addr), (binOp .eql 32 (.pointer (some q)) (.pointer none)).run Tryz.prog w = .ok (.bool false) w := fun w q => by go_simp
 go_enter Tryz.func10, Tryz.ntmps10
 go_wp2_with (first
  | (go_at_call 18; refine (half_any w).mono ?_; rintro e w1 ⟨rfl, hb1, hh1, hs1⟩; have HB1 := hidM hb1; have HH1 := hidM hh1; have HS1 := hidM hs1; clear hb1 hh1 hs1)
  | (go_at_call 8; (with_reducible refine (KN.out w1 w1 HH1.out rfl).mono ?_); rintro e w2 ⟨R, a, X, rfl, hrun, hb2⟩; have HRUN := hidM hrun; have HB2 := hidM hb2; obtain ⟨W3, hW3⟩ : ∃ W3, (w2.alloc (.cells #[.int .u32 1073741824, .int .u32 1065353216] 43)).alloc (.cells #[.slice (some ⟨w2.heap.size, 0, none⟩) 2 2] 57) = W3 := ⟨_, rfl⟩; have HB3 : Hid (Below w2.heap.size w2 W3) := (by rw [← hW3]; exact bel (bel_alloc _ _) (bel_alloc _ _)); have HVS : Hid (VsT (fun b => b < w1.heap.size ∨ b = a.S) W3 (.slice (some ⟨w2.heap.size + 1, 0, none⟩) 1 1) [[1073741824, 1065353216]]) := (by rw [← hW3]; exact vs_two w2 _ _ (by have := hb2.size; have := hrun.slots.row.lt; omega) (by have := hb2.size; have := hrun.slots.row.lt; omega)); have KS1 := hidM (half_go (k := 4) (y := 4) (by decide) (by decide) (by unfold IsP; decide) (by unfold IsP; decide) W3 R a X (hrun.below HB3.out) (by have := hb2.size; have := HB3.out.size; omega) _ HVS.out); clear hrun hb2)
  | (go_at_call 12; (with_reducible refine KS1.out.mono ?_); rintro e w4 ⟨UB, rfl, ⟨X4, hrun4⟩, hun4, hvs4⟩; have HRUN4 := hidM hrun4; have HUN4 := hidM hun4; have HVS4 := hidM hvs4; have KSL := hidM (half_slot (k := 4) (by decide) (by decide) w4 R a X4 hrun4); clear hrun4 hun4 hvs4)
  | (go_at_call 16; (with_reducible refine KSL.out.mono ?_); rintro e w5 ⟨p5, d5, rfl, hb5⟩; have HB5 := hidM hb5; have KS2 := hidM (half_none (k := 4) (by decide) (by decide) w5 R a X4 (HRUN4.out.below hb5)); clear hb5)
  | (go_at_call 12; (with_reducible refine KS2.out.mono ?_); rintro e w6 ⟨rfl, hb6⟩; have HB6 := hidM hb6; clear hb6)
  | (go_at_call 8; (with_reducible refine (KB.out w6).mono ?_); rintro e w7 ⟨rfl, hb7⟩; have HB7 := hidM hb7; have KSV := hidM (same_any (T := fun b => b < W3.heap.size) (T' := fun _ => False) ((w7.alloc (.cells #[.int .u32 1065353216, .int .u32 1056964608] 43)).alloc (.cells #[.slice (some ⟨w7.heap.size, 0, none⟩) 2 2] 57)) (.slice (some ⟨UB, 0, none⟩) 1 1) (.slice (some ⟨w7.heap.size + 1, 0, none⟩) 1 1) [[1065353216, 1056964608]] (by have := HVS4.out; rw [half_upd] at this; exact this.below (bel HB5.out (bel HB6.out (bel hb7 (bel (bel_alloc _ _) (bel_alloc _ _)))))) (vs_two w7 _ _ (fun e => e) (fun e => e)) (by show 1 ≤ 1048576; decide) (fun l hl => by simp at hl; rw [hl]; show 2 ≤ 1048576; decide)); clear hb7)
  | (go_at_call 14; (with_reducible refine KSV.out.mono ?_); rintro e w8 ⟨rfl, hb8⟩; have HB8 := hidM hb8; clear hb8))
 go_ret
 have hS := HRUN.out.bS
 have hs1 := HB1.out.size
 have hs2 := HB2.out.size
 have hs3 := HB3.out.size
 refine ⟨rfl, ?_⟩
 have hA : Below w.heap.size w W3 := bel HB1.out (bel HB2.out HB3.out)
 have hC : Below w.heap.size W3 w4 := HUN4.out.below (by omega) (fun b e => by omega)
 exact (hA.trans hC).trans ((bel HB5.out (bel HB6.out (bel HB7.out (bel (bel (bel_alloc _ _) (bel_alloc _ _)) HB8.out)))).mono (by have := hC.size; omega))
end Go.Proofs.YtholhpmnicibgaaGreat
namespace Go.Proofs.YtholhpmnicibgaaGreat
open Go.RowKit
set_option linter.unusedVariables false
set_option linter.unusedSimpArgs false
theorem half_more {F : Int} (h0 : 0 ≤ F) (h1 : F ≤ 2147483647) (j : Nat) : min (min (F + j) 2147483647) 2147483646 + 1 = min (F + ((j + 1 : Nat) : Int)) 2147483647 := by omega
set_option maxRecDepth 100000 in
set_option maxHeartbeats 8000000 in
theorem walk_InterpWholes (x : Int) (x0 : -9223372036854775808 ≤ x) (x1 : x ≤ 9223372036854775807) (y : Int) (y0 : -9223372036854775808 ≤ y) (y1 : y ≤ 9223372036854775807) (w : World) :
  Calls Tryz.prog 6 #[.int .i64 x, .int .i64 y] w fun e w' => e = .returned (.bool true) ∧ Below w.heap.size w w' := by
 have heq : ∀ (w : World) (q : Addr), (binOp .eql 32 (.pointer (some q)) (.pointer none)).run Tryz.prog w = .ok (.bool false) w := fun w q => by go_simp
 obtain ⟨F, hF⟩ : ∃ F, max 0 (min x 2147483647) = F := ⟨_, rfl⟩
 obtain ⟨S, hS⟩ : ∃ S : Nat, max 0 (min y 50) = (S : Int) := ⟨(max 0 (min y 50)).toNat, by omega⟩
 have f0 : 0 ≤ F := by omega
 have f1 : F ≤ 2147483647 := by omega
 have s1 : S ≤ 50 := by omega
 have KN : Hid (∀ (v u : World), HalfAt v (w.heap.size + 1) → v.heap.size = w.heap.size + 5 → u = (v.alloc (.cells #[.slice (some ⟨w.heap.size + 1, 0, none⟩) 1 1, .slice (some ⟨w.heap.size + 2, 0, none⟩) 3 3, .slice (some ⟨w.heap.size + 3, 0, none⟩) 1 1, .slice (some ⟨w.heap.size + 4, 0, none⟩) 7 7] 27)).setCell ⟨w.heap.size + 3, 4, none⟩ (.int .i64 F) → Calls Tryz.prog 8 #[.agg #[.slice (some ⟨w.heap.size + 1, 0, none⟩) 1 1, .slice (some ⟨w.heap.size + 2, 0, none⟩) 3 3, .slice (some ⟨w.heap.size + 3, 0, none⟩) 1 1, .slice (some ⟨w.heap.size + 4, 0, none⟩) 7 7]] u fun e w' => ∃ R a X, e = .returned (.tuple #[.pointer (some ⟨R, 0, none⟩), .int .i64 0]) ∧ RunAt (fun b => b < u.heap.size ∨ b = a.S) u.heap.size w' R a X (halfC F) [⟨[], F⟩] ∧ Below u.heap.size u w') := by
  intro v u h hsz e
  have hcd : CdV u (.slice (some ⟨w.heap.size + 1, 0, none⟩) 1 1) (.slice (some ⟨w.heap.size + 2, 0, none⟩) 3 3) (.slice (some ⟨w.heap.size + 3, 0, none⟩) 1 1) (.slice (some ⟨w.heap.size + 4, 0, none⟩) 7 7) (halfC F) := by
   rw [e]
   refine half_code h (fun b hne hb => ?_) ?_
   ·rw [Below.heap_setCell _ _ _ _ (by show b ≠ w.heap.size + 3; omega)]
    exact (bel_alloc v _).block b hb
   ·refine ((h.slots.alloc _).set 4 (.int .i64 F)).congr fun j hj => ?_
    obtain rfl | rfl | rfl | rfl | rfl : j = 0 ∨ j = 1 ∨ j = 2 ∨ j = 3 ∨ j = 4 := by omega
    all_goals rfl
  have := new_good _ _ _ _ (halfC F) (half_ok F) u hcd (half_check F f0 f1)
  rw [half_start] at this
  exact this
 have KSU := hidM isure_any
 go_enter Tryz.func6, Tryz.ntmps6
 have HFS := hidM (And.intro hF hS)
 have HX := hidM (And.intro f0 f1)
 go_wp2_with (first
  | (go_at_call 18; refine (half_any w).mono ?_; rintro e w1 ⟨rfl, hb1, hh1, hs1⟩; have HB1 := hidM hb1; have HH1 := hidM hh1; have HS1 := hidM hs1; obtain ⟨W1, hW1⟩ : ∃ W1, w1.alloc (.cells #[.slice (some ⟨w.heap.size + 1, 0, none⟩) 1 1, .slice (some ⟨w.heap.size + 2, 0, none⟩) 3 3, .slice (some ⟨w.heap.size + 3, 0, none⟩) 1 1, .slice (some ⟨w.heap.size + 4, 0, none⟩) 7 7] 27) = W1 := ⟨_, rfl⟩; have hrs : W1.rowIs (w.heap.size + 3) 65 5 _ := (by rw [← hW1]; exact hh1.slots.alloc _); have q4 := hrs.cell (i := 4) (by decide); have z4 := hrs.frozen 4; simp only [Nat.reduceEqDiff, if_false] at q4; have c2 : W1.cell? ⟨w1.heap.size, 2, none⟩ = some (.slice (some ⟨w.heap.size + 3, 0, none⟩) 1 1) := (by rw [← hW1]; simp [go_sem]); obtain ⟨W2, hW2⟩ : ∃ W2, W1.setCell ⟨w.heap.size + 3, 4, none⟩ (.int .i64 F) = W2 := ⟨_, rfl⟩; have hbx : ∀ j, j < 4 → W2.cell? ⟨w1.heap.size, j, none⟩ = W1.cell? ⟨w1.heap.size, j, none⟩ := (fun j _ => by rw [← hW2]; exact World.cell?_of_block (Below.heap_setCell _ _ _ _ (by show w1.heap.size ≠ w.heap.size + 3; omega))); have k0 : W2.cell? ⟨w1.heap.size, 0, none⟩ = some (.slice (some ⟨w.heap.size + 1, 0, none⟩) 1 1) := (by rw [hbx 0 (by decide), ← hW1]; simp [go_sem]); have k1 : W2.cell? ⟨w1.heap.size, 1, none⟩ = some (.slice (some ⟨w.heap.size + 2, 0, none⟩) 3 3) := (by rw [hbx 1 (by decide), ← hW1]; simp [go_sem]); have k2 : W2.cell? ⟨w1.heap.size, 2, none⟩ = some (.slice (some ⟨w.heap.size + 3, 0, none⟩) 1 1) := (by rw [hbx 2 (by decide), ← hW1]; simp [go_sem]); have k3 : W2.cell? ⟨w1.heap.size, 3, none⟩ = some (.slice (some ⟨w.heap.size + 4, 0, none⟩) 7 7) := (by rw [hbx 3 (by decide), ← hW1]; simp [go_sem]); have HKN := hidM (KN.out w1 W2 hh1 hs1 (by rw [← hW2, ← hW1])); have HBW2 : Hid (Below w.heap.size w W2) := (by rw [← hW2, ← hW1]; exact (hb1.alloc (by omega) _).setCell (by show w.heap.size ≤ w.heap.size + 3; omega) _); clear hb1 hh1 hs1 hrs hbx)
  | (go_at_call 8; (with_reducible refine HKN.out.mono ?_); rintro e w2 ⟨R, a, X, rfl, hrun, hb2⟩; have HRUN := hidM hrun; have HB2 := hidM hb2; obtain ⟨W3, hW3⟩ : ∃ W3, (w2.alloc (.cells #[.int .u32 0, .int .u32 0] 43)).alloc (.cells #[.slice (some ⟨w2.heap.size, 0, none⟩) 2 2] 57) = W3 := ⟨_, rfl⟩; have HB3 : Hid (Below w2.heap.size w2 W3) := (by rw [← hW3]; exact bel (bel_alloc _ _) (bel_alloc _ _)); have HVS : Hid (VsT (fun b => b < W2.heap.size ∨ b = a.S) W3 (.slice (some ⟨w2.heap.size + 1, 0, none⟩) 1 1) [[0, 0]]) := (by rw [← hW3]; exact vs_two w2 _ _ (by have := hb2.size; have := hrun.slots.row.lt; omega) (by have := hb2.size; have := hrun.slots.row.lt; omega)); clear hrun hb2))
 go_loopw [9] (fun iv wr => ∃ j : Nat, j ≤ S ∧ iv = .int .i64 j ∧ Hid (∃ X, RunAt (fun b => b < W2.heap.size ∨ b = a.S) W2.heap.size wr R a X (halfC F) [⟨[], min (F + j) 2147483647⟩] ∧ Un (fun b => b = a.S) W3 wr)) (fun iv _ => S - (intOf iv).toNat)
 case atStart =>
  refine ⟨0, Nat.zero_le _, rfl, X, ?_, Un.refl _ _⟩
  have e : min (F + ((0 : Nat) : Int)) 2147483647 = F := by have := HX.out; omega
  rw [e]
  exact HRUN.out.below HB3.out
 case round =>
  clear hW1 hW2 hW3 k0 k1 k2 k3 q4 z4 c2
  obtain ⟨j, hj, rfl, HR⟩ := hrel
  obtain ⟨X1, hrun, hun⟩ := HR.out
  by_cases hlt : j < S
  ·have KST := hidM (half_go (k := F) (y := min (F + j) 2147483647) HX.out.1 HX.out.2 isP_0 isP_0 wr R a X1 hrun (by have := HB2.out.size; have := HB3.out.size; have := hun.size; omega) (.slice (some ⟨w2.heap.size + 1, 0, none⟩) 1 1) (HVS.out.un hun (fun b _ e => .inr e)))
   have HUN := hidM hun
   clear hrun hun
   go_wp2_with (go_at_call 12; (with_reducible refine KST.out.mono ?_); rintro e w4 ⟨UB, rfl, hrun4, hun4, -⟩; have HRUN4 := hidM hrun4; have HUN4 := hidM hun4; clear hrun4 hun4)
   go_roundw
   case rel =>
    refine ⟨j + 1, by omega, by go_num, ?_⟩
    obtain ⟨X4, h4⟩ := HRUN4.out
    rw [half_more HX.out.1 HX.out.2 j] at h4
    exact ⟨X4, h4, HUN.out.trans HUN4.out⟩
   case measure => simp [intOf]; omega
  ·have hjS : j = S := by omega
   subst hjS
   have KSL := hidM (half_slot (k := F) HX.out.1 HX.out.2 wr R a X1 hrun)
   have HRN := hidM hrun
   have HUN := hidM hun
   have ew : IntKind.i64.wrap (F + (j : Int)) = F + (j : Int) := by rw [IntKind.wrap_i64]; omega
   clear hrun hun
   obtain ⟨Q, hQ⟩ : ∃ Q, min (F + (j : Int)) 2147483647 = Q := ⟨_, rfl⟩
   rw [hQ] at KSL
   go_wp2_with (first
    | (go_at_call 16; (with_reducible refine KSL.out.mono ?_); rintro e w5 ⟨p5, d5, rfl, hb5⟩; have HB5 := hidM hb5; clear hb5)
    | (go_at_call 10; refine (KSU.out _).mono ?_; rintro e w6 ⟨rfl, hb6⟩; have HB6 := hidM hb6; clear hb6))
   go_ret
   have hS := HRN.out.bS
   have hs2 := HB2.out.size
   have hs3 := HB3.out.size
   have hs4 := HBW2.out.size
   have hA : Below w.heap.size w W3 := bel HBW2.out (bel HB2.out HB3.out)
   have hC : Below w.heap.size W3 wr := HUN.out.below (by omega) (fun b e => by omega)
   exact ⟨rfl, (hA.trans hC).trans ((bel HB5.out HB6.out).mono (by have := hC.size; omega))⟩
end Go.Proofs.YtholhpmnicibgaaGreat
