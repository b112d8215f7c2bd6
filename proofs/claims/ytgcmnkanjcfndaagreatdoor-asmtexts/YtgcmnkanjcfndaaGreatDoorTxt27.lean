import Derived.Test.YtgcmnkanjcfndaaGreatDoorTxt1
import Derived.Test.YtgcmnkanjcfndaaGreatDoorTxt26
namespace Go.Proofs.YtgcmnkanjcfndaaGreatDoor
open Go.RowKit
set_option linter.unusedVariables false
set_option linter.unusedSimpArgs false
theorem rfits_any (v0 v1 v2 v3 : Value) (c : Cd) (co : CdOk c) (hT : typesMay c = true) (i : Ins) (h0 : 0 ≤ i.bits) (h1 : i.bits < 4294967296) (w : World) (hv : CdV w v0 v1 v2 v3 c) :
  Calls Tryz.prog 66 #[.agg #[v0, v1, v2, v3], insV i] w fun e w' => e = .returned (.bool (knownP i.op && fitsR c i (ltR i.op))) ∧ Below w.heap.size w w' := by
 cases hh : (knownP i.op && ((i.op == 1 || i.bits == 0) && toldB i.bits))
 ·have e : (knownP i.op && fitsR c i (ltR i.op)) = false := by
   unfold fitsR
   revert hh
   cases knownP i.op <;> cases (i.op == 1 || i.bits == 0) <;> cases toldB i.bits <;> simp
  rw [e]
  exact rfits_no v0 v1 v2 v3 i h0 h1 hh w
 ·simp only [Bool.and_eq_true] at hh
  rw [hh.1, Bool.true_and]
  exact rfits_yes v0 v1 v2 v3 c co hT i h0 h1 hh.1 hh.2.1 hh.2.2 w hv
theorem read_pl {c : Cd} {i : Ins} (h : fitsC c i (rowP i.op) = true) : ∀ x ∈ readsP i (rowP i.op), 0 ≤ x ∧ x < (c.regs.length : Int) := by
 intro x hx
 unfold readsP at hx
 simp only [List.mem_append] at hx
 rcases hx with hx | hx | hx
 ·split at hx
  ·simp at hx
  ·rename_i e; simp at hx; subst hx; exact fitsReg_lt (fitsC_a h) e
 ·split at hx
  ·simp at hx
  ·rename_i e; simp at hx; subst hx; exact fitsReg_lt (fitsC_b h) e
 ·split at hx
  ·simp at hx
  ·rename_i e; simp at hx; subst hx; exact fitsReg_lt (fitsC_c h) e
theorem reads_le3 (i : Ins) : (readsP i (rowP i.op)).length ≤ 3 := by
 rw [reads_eq]
 simp only [List.length_append]
 have a := rd1_le (rowP i.op).a i.a
 have b := rd1_le (rowP i.op).b i.b
 have d := rd1_le (rowP i.op).c i.c
 omega
set_option maxRecDepth 100000 in
set_option maxHeartbeats 4000000 in
theorem rstands_any (v0 v1 v2 v3 : Value) (c : Cd) (co : CdOk c) (hT : typesMay c = true) (i : Ins) (hb0 : 0 ≤ i.bits) (hb1 : i.bits < 4294967296) (B : Nat) (s : Wk) (sv ov : Value) (us : List Value) (hM : c.regs.length ≤ 16384) (ok : OkS c.regs.length s) (po : ParOK s) (w : World) (hv : CdV w v0 v1 v2 v3 c) (hs : SK B c.regs.length w sv ov s us) :
  Calls Tryz.prog 33 #[.agg #[v0, v1, v2, v3], insV i, sv, ov] w fun e w' => e = .returned (.bool (takesP c s i)) ∧ Below w.heap.size w w' := by
 rw [takes_ref hT po]
 have hfit : (knownP i.op && fitsR c i (ltR i.op)) = true → fitsC c i (rowP i.op) = true := fun h => by simp only [Bool.and_eq_true] at h; rw [← fitsR_eq hT]; exact h.2
 have HFIT : Hid (∀ v, Below w.heap.size w v → Calls Tryz.prog 66 #[.agg #[v0, v1, v2, v3], insV i] v fun e w' => e = .returned (.bool (knownP i.op && fitsR c i (ltR i.op))) ∧ Below v.heap.size v w') := fun v hb => rfits_any v0 v1 v2 v3 c co hT i hb0 hb1 v (hv.below hb)
 have HVEC : Hid (∀ v, Below w.heap.size w v → Calls Tryz.prog 67 #[.agg #[v0, v1, v2, v3], insV i] v fun e w' => e = .returned (.int .i64 (vecR c.regs (vecN i))) ∧ Below v.heap.size v w') := fun v hb => rvector_any v0 v1 v2 v3 c co i v (hv.below hb)
 have HRD : Hid (∀ v, Calls Tryz.prog 53 #[insV i] v fun e w' => ∃ u, e = .returned u ∧ w'.ownsRow v.heap.size 3 1 u (readsP i (rowP i.op)).length (i64s (readsP i (rowP i.op))) ∧ Below v.heap.size v w') := rreads_any i
 have hR3 := reads_le3 i
 have hRP := fun h => read_pl (hfit h)
 have hRO : readOK s i (rowP i.op) = (readsP i (rowP i.op)).all fun n => decide (n.toNat ∈ s.set) := rfl
 rw [hRO]
 clear hfit hRO
 unfold loopS tailS
 obtain ⟨Fi, hFi⟩ : ∃ F, (knownP i.op && fitsR c i (ltR i.op)) = F := ⟨_, rfl⟩
 rw [hFi] at HFIT hRP ⊢
 obtain ⟨V, hV⟩ : ∃ V, vecR c.regs (vecN i) = V := ⟨_, rfl⟩
 rw [hV] at HVEC ⊢
 obtain ⟨R, hR⟩ : ∃ R, readsP i (rowP i.op) = R := ⟨_, rfl⟩
 rw [hR] at HRD hR3 hRP ⊢
 have hnest := ok.nest
 have hlast := fun g q (e : ov = .slice (some ⟨g, 0, none⟩) s.opens.length q) => SK.last (e ▸ hs)
 obtain ⟨p, q, rfl⟩ := own_len hs.opn
 have hopn : 0 < s.opens.length → ∃ g, p = some ⟨g, 0, none⟩ := fun h => by
  obtain ⟨g, cap, e, _⟩ := hs.opn.form h
  simp only [Value.slice.injEq] at e
  exact ⟨g, e.1⟩
 obtain ⟨ps, qs, rfl⟩ := own_len hs.set
 have HSET : Hid (∀ k, k < c.regs.length → ∃ g, ps = some ⟨g, 0, none⟩ ∧ w.cell? ⟨g, k, none⟩ = some (.bool (decide (k ∈ s.set)))) := fun k hk => by
  obtain ⟨g, cap, e, _⟩ := hs.set.form (by omega)
  simp only [Value.slice.injEq] at e
  obtain ⟨rfl, -, -⟩ := e
  exact ⟨g, rfl, by rw [hs.set.cellAt k (by omega), setB_at hk]⟩
 have hz : s.opens.length = 0 → inLoop s = false := fun h => by
  obtain ⟨S, O⟩ := s
  cases O with
  | nil => rfl
  | cons b r => simp at h
 obtain ⟨S, hS⟩ : ∃ S, s.set = S := ⟨_, rfl⟩
 obtain ⟨n, hn⟩ : ∃ n, s.opens.length = n := ⟨_, rfl⟩
 obtain ⟨lp, hlp⟩ : ∃ l, inLoop s = l := ⟨_, rfl⟩
 obtain ⟨par, hpar⟩ : ∃ l, innerP s = l := ⟨_, rfl⟩
 obtain ⟨M, hMM⟩ : ∃ M, c.regs.length = M := ⟨_, rfl⟩
 rw [hn] at hnest hlast hopn hz ⊢
 rw [hlp] at hlast hz ⊢
 rw [hpar] at hlast ⊢
 rw [hS] at HSET ⊢
 rw [hMM] at hM HSET hRP hlast ⊢
 clear hFi hV hR hs ok po hv co hT hS hn hlp hpar hMM
 obtain ⟨op, D, A, Q, E, nn, bt⟩ := i
 unfold insV at HFIT HVEC HRD ⊢
 simp only at HFIT HVEC HRD hb0 hb1 ⊢
 clear hb0 hb1
 have HT0 : Hid (TW w v0 v1 v2 v3 (w.heap.size + 1) op D A Q E nn bt ((w.alloc (.cells #[v0, v1, v2, v3] 27)).alloc (.cells #[.int .i64 op, .int .i64 D, .int .i64 A, .int .i64 Q, .int .i64 E, .int .i64 nn, .int .u32 bt] 46))) := TW.start w v0 v1 v2 v3 op D A Q E nn bt
 obtain ⟨hb00, c0, c1, c2, c3, i0, i1, i2, i3, i4, i5, i6⟩ := HT0.out
 -- the blocks that are open: none; a block of OpWhen; a loop
 have hcase : (n = 0 ∧ lp = false) ∨ (∃ m g, m + 1 = n ∧ p = some ⟨g, 0, none⟩ ∧ lp = false ∧ w.cell? ⟨g, m * 3, none⟩ = some (.int .i64 34)) ∨ (∃ m g, m + 1 = n ∧ p = some ⟨g, 0, none⟩ ∧ lp = true ∧ w.cell? ⟨g, m * 3, none⟩ = some (.int .i64 36) ∧ w.cell? ⟨g, m * 3 + 1, none⟩ = some (.int .i64 par)) := by
  by_cases h0 : n = 0
  ·exact .inl ⟨h0, hz h0⟩
  ·obtain ⟨g, rfl⟩ := hopn (by omega)
   obtain ⟨X, u, -, -, a0, a1, -⟩ := hlast g q rfl (by omega)
   obtain ⟨m, rfl⟩ : ∃ m, n = m + 1 := ⟨n - 1, by omega⟩
   rw [Nat.add_sub_cancel] at a0 a1
   cases lp
   ·exact .inr (.inl ⟨m, g, rfl, rfl, rfl, a0⟩)
   ·exact .inr (.inr ⟨m, g, rfl, rfl, rfl, a0, a1⟩)
 clear hlast hopn hz
 have HRP : Hid (Fi = true → ∀ x ∈ R, 0 ≤ x ∧ x < (M : Int)) := hRP
 clear hRP
 obtain ⟨RES, hRES⟩ : ∃ X, (Fi && (!(lp && (op != 37 && V != par)) && ((R.all fun n => decide (n.toNat ∈ S)) && (if op = 34 ∨ op = 36 then decide (n < 64) else if op = 35 then decide (0 < n) && !lp else if op = 37 then lp else true)))) = X := ⟨_, rfl⟩
 rw [hRES]
 cases Fi
 ·have HQF : Hid (false = RES) := hRES
  clear hRES
  rcases hcase with ⟨rfl, rfl⟩ | ⟨m, g, hm, rfl, rfl, z0⟩ | ⟨m, g, hm, rfl, rfl, z0, z1⟩
  ·go_enter Tryz.func33, Tryz.ntmps33
   go_wp2
   refine wp_region_held_drew (S := (fun v => v.cell? ⟨w.heap.size, 0, none⟩ = some v0 ∧ v.cell? ⟨w.heap.size, 1, none⟩ = some v1 ∧ v.cell? ⟨w.heap.size, 2, none⟩ = some v2 ∧ v.cell? ⟨w.heap.size, 3, none⟩ = some v3 ∧ v.cell? ⟨w.heap.size + 1, 0, none⟩ = some (.int .i64 op) ∧ v.cell? ⟨w.heap.size + 1, 1, none⟩ = some (.int .i64 D) ∧ v.cell? ⟨w.heap.size + 1, 2, none⟩ = some (.int .i64 A) ∧ v.cell? ⟨w.heap.size + 1, 3, none⟩ = some (.int .i64 Q) ∧ v.cell? ⟨w.heap.size + 1, 4, none⟩ = some (.int .i64 E) ∧ v.cell? ⟨w.heap.size + 1, 5, none⟩ = some (.int .i64 nn) ∧ v.cell? ⟨w.heap.size + 1, 6, none⟩ = some (.int .u32 bt))) (by kernel_rfl) ?_ (fun hHeld => ?_)
   ·((try dsimp only); go_keep)
   refine tkT 0 ?_
   refine tkT 1 ?_
   clear hHeld
   refine wpAnyH_ready (rs := [2]) (by kernel_rfl) (by simp) ?_
   refine AllReadyH.cons (i := 2) (by simp only [List.getElem?_toArray, List.getElem?_cons_succ, List.getElem?_cons_zero]; rfl) (fun K hK => ?_) AllReadyH.nil
   go_simp
   (go_at_call 66; (with_reducible refine (HFIT.out _ (bel HT0.out.bel (bel_d _))).mono ?_); rintro e wz ⟨rfl, hbz⟩; have HBZ : Hid (Below ((w.alloc (.cells #[v0, v1, v2, v3] 27)).alloc (.cells #[.int .i64 op, .int .i64 D, .int .i64 A, .int .i64 Q, .int .i64 E, .int .i64 nn, .int .u32 bt] 46)).heap.size ((w.alloc (.cells #[v0, v1, v2, v3] 27)).alloc (.cells #[.int .i64 op, .int .i64 D, .int .i64 A, .int .i64 Q, .int .i64 E, .int .i64 nn, .int .u32 bt] 46)) wz) := bel (bel_d _) hbz; clear hbz; obtain ⟨-, c0, c1, c2, c3, i0, i1, i2, i3, i4, i5, i6⟩ := HT0.out.next HBZ.out)
   try (go_wp2_with fail)
   refine hK.out _ _ ?_ (fun hHeld => ?_)
   ·((try dsimp only); go_keep)
   clear hK K
   try simp only [Act.put, List.setIfInBounds_toArray, List.set_cons_zero, List.set_cons_succ]
   refine tkT 3 ?_
   refine tkT 4 ?_
   refine tkK 5 ?_
   refine tkK 6 ?_
   refine tkK 7 ?_
   refine tkK 8 ?_
   refine tkK 9 ?_
   refine tkK 10 ?_
   refine tkK 11 ?_
   refine tkK 12 ?_
   refine tkK 13 ?_
   refine tkK 14 ?_
   refine tkK 15 ?_
   refine tkK 16 ?_
   refine tkK 17 ?_
   refine tkK 18 ?_
   refine tkK 19 ?_
   refine tkK 20 ?_
   refine tkK 21 ?_
   refine tkK 22 ?_
   refine tkK 23 ?_
   refine tkT 24 ?_
   refine wpAnyH_done (by kernel_rfl) ?_ _
   go_wp2
   go_ret
   exact ⟨ret_bool HQF.out, bel hb00 HBZ.out⟩
  ·have hw : IntKind.i64.wrap ((n : Int) - 1) = (m : Int) := by rw [IntKind.wrap_i64]; omega
   have x0 := kc hb00 z0
   have j0 : (0 : Int) < (n : Int) := by omega
   have j1 : (0 : Int) ≤ (m : Int) := by omega
   have j2 : (m : Int) < (n : Int) := by omega
   go_enter Tryz.func33, Tryz.ntmps33
   go_wp2
   refine wp_region_held_drew (S := (fun v => v.cell? ⟨w.heap.size, 0, none⟩ = some v0 ∧ v.cell? ⟨w.heap.size, 1, none⟩ = some v1 ∧ v.cell? ⟨w.heap.size, 2, none⟩ = some v2 ∧ v.cell? ⟨w.heap.size, 3, none⟩ = some v3 ∧ v.cell? ⟨w.heap.size + 1, 0, none⟩ = some (.int .i64 op) ∧ v.cell? ⟨w.heap.size + 1, 1, none⟩ = some (.int .i64 D) ∧ v.cell? ⟨w.heap.size + 1, 2, none⟩ = some (.int .i64 A) ∧ v.cell? ⟨w.heap.size + 1, 3, none⟩ = some (.int .i64 Q) ∧ v.cell? ⟨w.heap.size + 1, 4, none⟩ = some (.int .i64 E) ∧ v.cell? ⟨w.heap.size + 1, 5, none⟩ = some (.int .i64 nn) ∧ v.cell? ⟨w.heap.size + 1, 6, none⟩ = some (.int .u32 bt))) (by kernel_rfl) ?_ (fun hHeld => ?_)
   ·((try dsimp only); go_keep)
   refine tkT 0 ?_
   refine tkT 1 ?_
   clear hHeld
   refine wpAnyH_ready (rs := [2]) (by kernel_rfl) (by simp) ?_
   refine AllReadyH.cons (i := 2) (by simp only [List.getElem?_toArray, List.getElem?_cons_succ, List.getElem?_cons_zero]; rfl) (fun K hK => ?_) AllReadyH.nil
   go_simp
   (go_at_call 66; (with_reducible refine (HFIT.out _ (bel HT0.out.bel (bel_d _))).mono ?_); rintro e wz ⟨rfl, hbz⟩; have HBZ : Hid (Below ((w.alloc (.cells #[v0, v1, v2, v3] 27)).alloc (.cells #[.int .i64 op, .int .i64 D, .int .i64 A, .int .i64 Q, .int .i64 E, .int .i64 nn, .int .u32 bt] 46)).heap.size ((w.alloc (.cells #[v0, v1, v2, v3] 27)).alloc (.cells #[.int .i64 op, .int .i64 D, .int .i64 A, .int .i64 Q, .int .i64 E, .int .i64 nn, .int .u32 bt] 46)) wz) := bel (bel_d _) hbz; clear hbz; obtain ⟨-, c0, c1, c2, c3, i0, i1, i2, i3, i4, i5, i6⟩ := HT0.out.next HBZ.out)
   try (go_wp2_with fail)
   refine hK.out _ _ ?_ (fun hHeld => ?_)
   ·((try dsimp only); go_keep)
   clear hK K
   try simp only [Act.put, List.setIfInBounds_toArray, List.set_cons_zero, List.set_cons_succ]
   refine tkT 3 ?_
   refine tkT 4 ?_
   refine tkK 5 ?_
   refine tkK 6 ?_
   refine tkK 7 ?_
   refine tkK 8 ?_
   refine tkK 9 ?_
   refine tkK 10 ?_
   refine tkK 11 ?_
   refine tkK 12 ?_
   refine tkK 13 ?_
   refine tkK 14 ?_
   refine tkK 15 ?_
   refine tkK 16 ?_
   refine tkK 17 ?_
   refine tkK 18 ?_
   refine tkK 19 ?_
   refine tkK 20 ?_
   refine tkK 21 ?_
   refine tkK 22 ?_
   refine tkK 23 ?_
   refine tkT 24 ?_
   refine wpAnyH_done (by kernel_rfl) ?_ _
   go_wp2
   go_ret
   exact ⟨ret_bool HQF.out, bel hb00 HBZ.out⟩
  ·have hw : IntKind.i64.wrap ((n : Int) - 1) = (m : Int) := by rw [IntKind.wrap_i64]; omega
   have x0 := kc hb00 z0
   have j0 : (0 : Int) < (n : Int) := by omega
   have j1 : (0 : Int) ≤ (m : Int) := by omega
   have j2 : (m : Int) < (n : Int) := by omega
   go_enter Tryz.func33, Tryz.ntmps33
   go_wp2
   refine wp_region_held_drew (S := (fun v => v.cell? ⟨w.heap.size, 0, none⟩ = some v0 ∧ v.cell? ⟨w.heap.size, 1, none⟩ = some v1 ∧ v.cell? ⟨w.heap.size, 2, none⟩ = some v2 ∧ v.cell? ⟨w.heap.size, 3, none⟩ = some v3 ∧ v.cell? ⟨w.heap.size + 1, 0, none⟩ = some (.int .i64 op) ∧ v.cell? ⟨w.heap.size + 1, 1, none⟩ = some (.int .i64 D) ∧ v.cell? ⟨w.heap.size + 1, 2, none⟩ = some (.int .i64 A) ∧ v.cell? ⟨w.heap.size + 1, 3, none⟩ = some (.int .i64 Q) ∧ v.cell? ⟨w.heap.size + 1, 4, none⟩ = some (.int .i64 E) ∧ v.cell? ⟨w.heap.size + 1, 5, none⟩ = some (.int .i64 nn) ∧ v.cell? ⟨w.heap.size + 1, 6, none⟩ = some (.int .u32 bt))) (by kernel_rfl) ?_ (fun hHeld => ?_)
   ·((try dsimp only); go_keep)
   refine tkT 0 ?_
   refine tkT 1 ?_
   clear hHeld
   refine wpAnyH_ready (rs := [2]) (by kernel_rfl) (by simp) ?_
   refine AllReadyH.cons (i := 2) (by simp only [List.getElem?_toArray, List.getElem?_cons_succ, List.getElem?_cons_zero]; rfl) (fun K hK => ?_) AllReadyH.nil
   go_simp
   (go_at_call 66; (with_reducible refine (HFIT.out _ (bel HT0.out.bel (bel_d _))).mono ?_); rintro e wz ⟨rfl, hbz⟩; have HBZ : Hid (Below ((w.alloc (.cells #[v0, v1, v2, v3] 27)).alloc (.cells #[.int .i64 op, .int .i64 D, .int .i64 A, .int .i64 Q, .int .i64 E, .int .i64 nn, .int .u32 bt] 46)).heap.size ((w.alloc (.cells #[v0, v1, v2, v3] 27)).alloc (.cells #[.int .i64 op, .int .i64 D, .int .i64 A, .int .i64 Q, .int .i64 E, .int .i64 nn, .int .u32 bt] 46)) wz) := bel (bel_d _) hbz; clear hbz; obtain ⟨-, c0, c1, c2, c3, i0, i1, i2, i3, i4, i5, i6⟩ := HT0.out.next HBZ.out)
   try (go_wp2_with fail)
   refine hK.out _ _ ?_ (fun hHeld => ?_)
   ·((try dsimp only); go_keep)
   clear hK K
   try simp only [Act.put, List.setIfInBounds_toArray, List.set_cons_zero, List.set_cons_succ]
   refine tkT 3 ?_
   refine tkT 4 ?_
   refine tkK 5 ?_
   refine tkK 6 ?_
   refine tkK 7 ?_
   refine tkK 8 ?_
   refine tkK 9 ?_
   refine tkK 10 ?_
   refine tkK 11 ?_
   refine tkK 12 ?_
   refine tkK 13 ?_
   refine tkK 14 ?_
   refine tkK 15 ?_
   refine tkK 16 ?_
   refine tkK 17 ?_
   refine tkK 18 ?_
   refine tkK 19 ?_
   refine tkK 20 ?_
   refine tkK 21 ?_
   refine tkK 22 ?_
   refine tkK 23 ?_
   refine tkT 24 ?_
   refine wpAnyH_done (by kernel_rfl) ?_ _
   go_wp2
   go_ret
   exact ⟨ret_bool HQF.out, bel hb00 HBZ.out⟩
 ·rw [Bool.true_and] at hRES
  have HRP1 : Hid (∀ x ∈ R, 0 ≤ x ∧ x < (M : Int)) := HRP.out rfl
  clear HRP
  rcases hcase with ⟨hn0, rfl⟩ | ⟨m, g, hm, rfl, rfl, z0⟩ | ⟨m, g, hm, rfl, rfl, z0, z1⟩
  ·rw [Bool.false_and, Bool.not_false, Bool.true_and] at hRES
   have HR2 : Hid (((R.all fun n => decide (n.toNat ∈ S)) && (if op = 34 ∨ op = 36 then decide (n < 64) else if op = 35 then decide (0 < n) && !false else if op = 37 then false else true)) = RES) := hRES
   clear hRES
   have j0 : ¬ (0 : Int) < (n : Int) := by omega
   go_enter Tryz.func33, Tryz.ntmps33
   go_wp2
   refine wp_region_held_drew (S := (fun v => v.cell? ⟨w.heap.size, 0, none⟩ = some v0 ∧ v.cell? ⟨w.heap.size, 1, none⟩ = some v1 ∧ v.cell? ⟨w.heap.size, 2, none⟩ = some v2 ∧ v.cell? ⟨w.heap.size, 3, none⟩ = some v3 ∧ v.cell? ⟨w.heap.size + 1, 0, none⟩ = some (.int .i64 op) ∧ v.cell? ⟨w.heap.size + 1, 1, none⟩ = some (.int .i64 D) ∧ v.cell? ⟨w.heap.size + 1, 2, none⟩ = some (.int .i64 A) ∧ v.cell? ⟨w.heap.size + 1, 3, none⟩ = some (.int .i64 Q) ∧ v.cell? ⟨w.heap.size + 1, 4, none⟩ = some (.int .i64 E) ∧ v.cell? ⟨w.heap.size + 1, 5, none⟩ = some (.int .i64 nn) ∧ v.cell? ⟨w.heap.size + 1, 6, none⟩ = some (.int .u32 bt))) (by kernel_rfl) ?_ (fun hHeld => ?_)
   ·((try dsimp only); go_keep)
   refine tkT 0 ?_
   refine tkT 1 ?_
   clear hHeld
   refine wpAnyH_ready (rs := [2]) (by kernel_rfl) (by simp) ?_
   refine AllReadyH.cons (i := 2) (by simp only [List.getElem?_toArray, List.getElem?_cons_succ, List.getElem?_cons_zero]; rfl) (fun K hK => ?_) AllReadyH.nil
   go_simp
   (go_at_call 66; (with_reducible refine (HFIT.out _ (bel HT0.out.bel (bel_d _))).mono ?_); rintro e wz ⟨rfl, hbz⟩; have HBZ : Hid (Below ((w.alloc (.cells #[v0, v1, v2, v3] 27)).alloc (.cells #[.int .i64 op, .int .i64 D, .int .i64 A, .int .i64 Q, .int .i64 E, .int .i64 nn, .int .u32 bt] 46)).heap.size ((w.alloc (.cells #[v0, v1, v2, v3] 27)).alloc (.cells #[.int .i64 op, .int .i64 D, .int .i64 A, .int .i64 Q, .int .i64 E, .int .i64 nn, .int .u32 bt] 46)) wz) := bel (bel_d _) hbz; clear hbz; obtain ⟨-, c0, c1, c2, c3, i0, i1, i2, i3, i4, i5, i6⟩ := HT0.out.next HBZ.out)
   try (go_wp2_with fail)
   refine hK.out _ _ ?_ (fun hHeld => ?_)
   ·((try dsimp only); go_keep)
   clear hK K
   try simp only [Act.put, List.setIfInBounds_toArray, List.set_cons_zero, List.set_cons_succ]
   refine tkT 3 ?_
   refine tkT 4 ?_
   refine tkT 5 ?_
   refine tkT 6 ?_
   refine tkK 7 ?_
   refine tkK 8 ?_
   refine tkK 9 ?_
   refine tkT 10 ?_
   refine tkT 11 ?_
   refine tkK 12 ?_
   refine tkK 13 ?_
   refine tkK 14 ?_
   refine tkK 15 ?_
   refine tkK 16 ?_
   refine tkK 17 ?_
   refine tkK 18 ?_
   refine tkK 19 ?_
   refine tkK 20 ?_
   refine tkK 21 ?_
   refine tkK 22 ?_
   refine tkT 23 ?_
   refine tkT 24 ?_
   refine wpAnyH_done (by kernel_rfl) ?_ _
   clear j0
   have HTZ : Hid (TW w v0 v1 v2 v3 (w.heap.size + 1) op D A Q E nn bt wz) := HT0.out.next HBZ.out
   go_wp2_with (go_at_call 53; (with_reducible refine (HRD.out _).mono ?_); rintro e w5 ⟨u, rfl, hou, hb5⟩; obtain ⟨pu, qu, rfl⟩ := own_len hou; have HOU : Hid (w5.ownsRow wz.heap.size 3 1 (.slice pu R.length qu) R.length (i64s R)) := hou; have HB5 : Hid (Below wz.heap.size wz w5) := hb5; clear hou hb5)
   go_loopw [11] (fun kv wr => ∃ k : Nat, k ≤ R.length ∧ kv = .int .i64 (k : Int) ∧ wr = w5 ∧ ∀ x ∈ R.take k, x.toNat ∈ S) (fun kv _ => R.length - (intOf kv).toNat)
   case atStart => exact ⟨0, Nat.zero_le _, rfl, rfl, fun x hx => by simp at hx⟩
   case round =>
    obtain ⟨k, hk, rfl, rfl, hin⟩ := hrel
    clear c0 c1 c2 c3 i0 i1 i2 i3 i4 i5 i6
    obtain ⟨hbq, c0, c1, c2, c3, i0, i1, i2, i3, i4, i5, i6⟩ := HTZ.out.next HB5.out
    by_cases hlt : k < R.length
    ·have hx := HRP1.out R[k] (List.getElem_mem hlt)
     obtain ⟨d, hd⟩ : ∃ d : Nat, R[k] = (d : Int) := ⟨R[k].toNat, by omega⟩
     obtain ⟨gs, rfl, hcs⟩ := HSET.out d (by omega)
     have hcs' := kc hbq hcs
     obtain ⟨gu, cu, eu, -⟩ := HOU.out.form (by omega)
     simp only [Value.slice.injEq] at eu
     obtain ⟨rfl, -, rfl⟩ := eu
     have hcu : wr.cell? ⟨gu, k, none⟩ = some (.int .i64 (d : Int)) := by rw [HOU.out.cellAt k (by omega)]; simp [i64s, hlt, hd]
     have HMEM : Hid (R[k] = (d : Int)) := hd
     have HIN : Hid (∀ x ∈ R.take k, x.toNat ∈ S) := hin
     have t0 : (0 : Int) ≤ (k : Int) := by omega
     have t1 : (k : Int) < (R.length : Int) := by omega
     have t2 : (0 : Int) ≤ (d : Int) := by omega
     have t3 : (d : Int) < (M : Int) := by omega
     have wk : IntKind.i64.wrap ((k : Int) + 1) = ((k + 1 : Nat) : Int) := by rw [IntKind.wrap_i64]; omega
     clear hx hd hin hcs hk
     cases hX : decide (d ∈ S)
     ·rw [hX] at hcs'
      have hall : (R.all fun n => decide (n.toNat ∈ S)) = false := by
       rw [List.all_eq_false]
       exact ⟨R[k], List.getElem_mem hlt, by rw [HMEM.out, Int.toNat_natCast, hX]; decide⟩
      have HQF : Hid (false = RES) := by show _ = _; have := HR2.out; rw [hall, Bool.false_and] at this; exact this
      clear hX hall
      go_wp2
      go_ret
      exact ⟨ret_bool HQF.out, hbq⟩
     ·rw [hX] at hcs'
      have HX : Hid (d ∈ S) := by show d ∈ S; exact of_decide_eq_true hX
      clear hX
      go_wp2
      go_roundw
      case rel =>
       refine ⟨k + 1, by omega, by go_num, by first | rfl | trivial, fun x hx => ?_⟩
       rw [List.take_succ_eq_append_getElem hlt, List.mem_append] at hx
       rcases hx with hx | hx
       ·exact HIN.out x hx
       ·simp only [List.mem_singleton] at hx
        rw [hx, HMEM.out, Int.toNat_natCast]
        exact HX.out
      case measure => simp [intOf]; omega
    ·have hkk : k = R.length := by omega
     have hall : (R.all fun n => decide (n.toNat ∈ S)) = true := by
      rw [List.all_eq_true]
      intro x hx
      rw [hkk, List.take_length] at hin
      simpa using hin x hx
     have h9 := HR2.out; rw [hall, Bool.true_and] at h9; have HTS : Hid _ := h9; clear h9
     have t1 : ¬ (k : Int) < (R.length : Int) := by omega
     clear hall hin hk hlt
     by_cases h34 : op = 34
     ·subst h34
      have h9 := HTS.out; rw [if_pos (Or.inl rfl)] at h9; have HQ : Hid _ := h9; clear h9
      go_wp2
      go_ret
      exact ⟨ret_bool (by rw [← HQ.out]; first | (simp; done) | (simp; omega) | (simp [hn0]; done) | (simp [hn0]; omega)), hbq⟩
     ·by_cases h36 : op = 36
      ·subst h36
       have h9 := HTS.out; rw [if_pos (Or.inr rfl)] at h9; have HQ : Hid _ := h9; clear h9
       go_wp2
       go_ret
       exact ⟨ret_bool (by rw [← HQ.out]; first | (simp; done) | (simp; omega) | (simp [hn0]; done) | (simp [hn0]; omega)), hbq⟩
      ·have h9 := HTS.out; rw [if_neg (fun e => e.elim h34 h36)] at h9; have HT2 : Hid _ := h9; clear h9
       have q34 : (op == 34) = false := by simpa using h34
       have q36 : (op == 36) = false := by simpa using h36
       by_cases h35 : op = 35
       ·subst h35
        have h9 := HT2.out; rw [if_pos rfl] at h9; have HQ : Hid _ := h9; clear h9
        clear q34 q36 h34 h36
        by_cases hn0 : (0 : Int) < (n : Int)
        ·first
          | (exfalso; omega)
          | (go_wp2; go_ret; exact ⟨ret_bool (by rw [← HQ.out]; first | (simp; done) | (simp; omega) | (simp [hn0]; done) | (simp [hn0]; omega)), hbq⟩)
        ·first
          | (exfalso; omega)
          | (go_wp2; go_ret; exact ⟨ret_bool (by rw [← HQ.out]; first | (simp; done) | (simp; omega) | (simp [hn0]; done) | (simp [hn0]; omega)), hbq⟩)
       ·have h9 := HT2.out; rw [if_neg h35] at h9; have HT3 : Hid _ := h9; clear h9
        have q35 : (op == 35) = false := by simpa using h35
        by_cases h37 : op = 37
        ·subst h37
         have h9 := HT3.out; rw [if_pos rfl] at h9; have HQ : Hid _ := h9; clear h9
         clear q34 q35 q36 h34 h35 h36
         first
          | (exfalso; omega)
          | (go_wp2; go_ret; exact ⟨ret_bool HQ.out, hbq⟩)
        ·have h9 := HT3.out; rw [if_neg h37] at h9; have HQ : Hid _ := h9; clear h9
         have q37 : (op == 37) = false := by simpa using h37
         clear h34 h35 h36 h37
         go_wp2
         go_ret
         exact ⟨ret_bool HQ.out, hbq⟩
  ·rw [Bool.false_and, Bool.not_false, Bool.true_and] at hRES
   have HR2 : Hid (((R.all fun n => decide (n.toNat ∈ S)) && (if op = 34 ∨ op = 36 then decide (n < 64) else if op = 35 then decide (0 < n) && !false else if op = 37 then false else true)) = RES) := hRES
   clear hRES
   have hw : IntKind.i64.wrap ((n : Int) - 1) = (m : Int) := by rw [IntKind.wrap_i64]; omega
   have x0 := kc hb00 z0
   have j0 : (0 : Int) < (n : Int) := by omega
   have j1 : (0 : Int) ≤ (m : Int) := by omega
   have j2 : (m : Int) < (n : Int) := by omega
   go_enter Tryz.func33, Tryz.ntmps33
   go_wp2
   refine wp_region_held_drew (S := (fun v => v.cell? ⟨w.heap.size, 0, none⟩ = some v0 ∧ v.cell? ⟨w.heap.size, 1, none⟩ = some v1 ∧ v.cell? ⟨w.heap.size, 2, none⟩ = some v2 ∧ v.cell? ⟨w.heap.size, 3, none⟩ = some v3 ∧ v.cell? ⟨w.heap.size + 1, 0, none⟩ = some (.int .i64 op) ∧ v.cell? ⟨w.heap.size + 1, 1, none⟩ = some (.int .i64 D) ∧ v.cell? ⟨w.heap.size + 1, 2, none⟩ = some (.int .i64 A) ∧ v.cell? ⟨w.heap.size + 1, 3, none⟩ = some (.int .i64 Q) ∧ v.cell? ⟨w.heap.size + 1, 4, none⟩ = some (.int .i64 E) ∧ v.cell? ⟨w.heap.size + 1, 5, none⟩ = some (.int .i64 nn) ∧ v.cell? ⟨w.heap.size + 1, 6, none⟩ = some (.int .u32 bt))) (by kernel_rfl) ?_ (fun hHeld => ?_)
   ·((try dsimp only); go_keep)
   refine tkT 0 ?_
   refine tkT 1 ?_
   clear hHeld
   refine wpAnyH_ready (rs := [2]) (by kernel_rfl) (by simp) ?_
   refine AllReadyH.cons (i := 2) (by simp only [List.getElem?_toArray, List.getElem?_cons_succ, List.getElem?_cons_zero]; rfl) (fun K hK => ?_) AllReadyH.nil
   go_simp
   (go_at_call 66; (with_reducible refine (HFIT.out _ (bel HT0.out.bel (bel_d _))).mono ?_); rintro e wz ⟨rfl, hbz⟩; have HBZ : Hid (Below ((w.alloc (.cells #[v0, v1, v2, v3] 27)).alloc (.cells #[.int .i64 op, .int .i64 D, .int .i64 A, .int .i64 Q, .int .i64 E, .int .i64 nn, .int .u32 bt] 46)).heap.size ((w.alloc (.cells #[v0, v1, v2, v3] 27)).alloc (.cells #[.int .i64 op, .int .i64 D, .int .i64 A, .int .i64 Q, .int .i64 E, .int .i64 nn, .int .u32 bt] 46)) wz) := bel (bel_d _) hbz; clear hbz; obtain ⟨-, c0, c1, c2, c3, i0, i1, i2, i3, i4, i5, i6⟩ := HT0.out.next HBZ.out)
   try (go_wp2_with fail)
   refine hK.out _ _ ?_ (fun hHeld => ?_)
   ·((try dsimp only); go_keep)
   clear hK K
   try simp only [Act.put, List.setIfInBounds_toArray, List.set_cons_zero, List.set_cons_succ]
   refine tkT 3 ?_
   refine tkT 4 ?_
   refine tkT 5 ?_
   refine tkT 6 ?_
   refine tkK 7 ?_
   refine tkK 8 ?_
   refine tkK 9 ?_
   refine tkT 10 ?_
   refine tkT 11 ?_
   refine tkK 12 ?_
   refine tkK 13 ?_
   refine tkK 14 ?_
   refine tkK 15 ?_
   refine tkK 16 ?_
   refine tkK 17 ?_
   refine tkK 18 ?_
   refine tkK 19 ?_
   refine tkK 20 ?_
   refine tkK 21 ?_
   refine tkK 22 ?_
   refine tkT 23 ?_
   refine tkT 24 ?_
   refine wpAnyH_done (by kernel_rfl) ?_ _
   clear j0 j1 j2 hw
   have HTZ : Hid (TW w v0 v1 v2 v3 (w.heap.size + 1) op D A Q E nn bt wz) := HT0.out.next HBZ.out
   go_wp2_with (go_at_call 53; (with_reducible refine (HRD.out _).mono ?_); rintro e w5 ⟨u, rfl, hou, hb5⟩; obtain ⟨pu, qu, rfl⟩ := own_len hou; have HOU : Hid (w5.ownsRow wz.heap.size 3 1 (.slice pu R.length qu) R.length (i64s R)) := hou; have HB5 : Hid (Below wz.heap.size wz w5) := hb5; clear hou hb5)
   go_loopw [11] (fun kv wr => ∃ k : Nat, k ≤ R.length ∧ kv = .int .i64 (k : Int) ∧ wr = w5 ∧ ∀ x ∈ R.take k, x.toNat ∈ S) (fun kv _ => R.length - (intOf kv).toNat)
   case atStart => exact ⟨0, Nat.zero_le _, rfl, rfl, fun x hx => by simp at hx⟩
   case round =>
    obtain ⟨k, hk, rfl, rfl, hin⟩ := hrel
    clear c0 c1 c2 c3 i0 i1 i2 i3 i4 i5 i6
    obtain ⟨hbq, c0, c1, c2, c3, i0, i1, i2, i3, i4, i5, i6⟩ := HTZ.out.next HB5.out
    by_cases hlt : k < R.length
    ·have hx := HRP1.out R[k] (List.getElem_mem hlt)
     obtain ⟨d, hd⟩ : ∃ d : Nat, R[k] = (d : Int) := ⟨R[k].toNat, by omega⟩
     obtain ⟨gs, rfl, hcs⟩ := HSET.out d (by omega)
     have hcs' := kc hbq hcs
     obtain ⟨gu, cu, eu, -⟩ := HOU.out.form (by omega)
     simp only [Value.slice.injEq] at eu
     obtain ⟨rfl, -, rfl⟩ := eu
     have hcu : wr.cell? ⟨gu, k, none⟩ = some (.int .i64 (d : Int)) := by rw [HOU.out.cellAt k (by omega)]; simp [i64s, hlt, hd]
     have HMEM : Hid (R[k] = (d : Int)) := hd
     have HIN : Hid (∀ x ∈ R.take k, x.toNat ∈ S) := hin
     have t0 : (0 : Int) ≤ (k : Int) := by omega
     have t1 : (k : Int) < (R.length : Int) := by omega
     have t2 : (0 : Int) ≤ (d : Int) := by omega
     have t3 : (d : Int) < (M : Int) := by omega
     have wk : IntKind.i64.wrap ((k : Int) + 1) = ((k + 1 : Nat) : Int) := by rw [IntKind.wrap_i64]; omega
     clear hx hd hin hcs hk
     cases hX : decide (d ∈ S)
     ·rw [hX] at hcs'
      have hall : (R.all fun n => decide (n.toNat ∈ S)) = false := by
       rw [List.all_eq_false]
       exact ⟨R[k], List.getElem_mem hlt, by rw [HMEM.out, Int.toNat_natCast, hX]; decide⟩
      have HQF : Hid (false = RES) := by show _ = _; have := HR2.out; rw [hall, Bool.false_and] at this; exact this
      clear hX hall
      go_wp2
      go_ret
      exact ⟨ret_bool HQF.out, hbq⟩
     ·rw [hX] at hcs'
      have HX : Hid (d ∈ S) := by show d ∈ S; exact of_decide_eq_true hX
      clear hX
      go_wp2
      go_roundw
      case rel =>
       refine ⟨k + 1, by omega, by go_num, by first | rfl | trivial, fun x hx => ?_⟩
       rw [List.take_succ_eq_append_getElem hlt, List.mem_append] at hx
       rcases hx with hx | hx
       ·exact HIN.out x hx
       ·simp only [List.mem_singleton] at hx
        rw [hx, HMEM.out, Int.toNat_natCast]
        exact HX.out
      case measure => simp [intOf]; omega
    ·have hkk : k = R.length := by omega
     have hall : (R.all fun n => decide (n.toNat ∈ S)) = true := by
      rw [List.all_eq_true]
      intro x hx
      rw [hkk, List.take_length] at hin
      simpa using hin x hx
     have h9 := HR2.out; rw [hall, Bool.true_and] at h9; have HTS : Hid _ := h9; clear h9
     have t1 : ¬ (k : Int) < (R.length : Int) := by omega
     clear hall hin hk hlt
     by_cases h34 : op = 34
     ·subst h34
      have h9 := HTS.out; rw [if_pos (Or.inl rfl)] at h9; have HQ : Hid _ := h9; clear h9
      go_wp2
      go_ret
      exact ⟨ret_bool (by rw [← HQ.out]; first | (simp; done) | (simp; omega) | (simp [hn0]; done) | (simp [hn0]; omega)), hbq⟩
     ·by_cases h36 : op = 36
      ·subst h36
       have h9 := HTS.out; rw [if_pos (Or.inr rfl)] at h9; have HQ : Hid _ := h9; clear h9
       go_wp2
       go_ret
       exact ⟨ret_bool (by rw [← HQ.out]; first | (simp; done) | (simp; omega) | (simp [hn0]; done) | (simp [hn0]; omega)), hbq⟩
      ·have h9 := HTS.out; rw [if_neg (fun e => e.elim h34 h36)] at h9; have HT2 : Hid _ := h9; clear h9
       have q34 : (op == 34) = false := by simpa using h34
       have q36 : (op == 36) = false := by simpa using h36
       by_cases h35 : op = 35
       ·subst h35
        have h9 := HT2.out; rw [if_pos rfl] at h9; have HQ : Hid _ := h9; clear h9
        clear q34 q36 h34 h36
        by_cases hn0 : (0 : Int) < (n : Int)
        ·first
          | (exfalso; omega)
          | (go_wp2; go_ret; exact ⟨ret_bool (by rw [← HQ.out]; first | (simp; done) | (simp; omega) | (simp [hn0]; done) | (simp [hn0]; omega)), hbq⟩)
        ·first
          | (exfalso; omega)
          | (go_wp2; go_ret; exact ⟨ret_bool (by rw [← HQ.out]; first | (simp; done) | (simp; omega) | (simp [hn0]; done) | (simp [hn0]; omega)), hbq⟩)
       ·have h9 := HT2.out; rw [if_neg h35] at h9; have HT3 : Hid _ := h9; clear h9
        have q35 : (op == 35) = false := by simpa using h35
        by_cases h37 : op = 37
        ·subst h37
         have h9 := HT3.out; rw [if_pos rfl] at h9; have HQ : Hid _ := h9; clear h9
         clear q34 q35 q36 h34 h35 h36
         first
          | (exfalso; omega)
          | (go_wp2; go_ret; exact ⟨ret_bool HQ.out, hbq⟩)
        ·have h9 := HT3.out; rw [if_neg h37] at h9; have HQ : Hid _ := h9; clear h9
         have q37 : (op == 37) = false := by simpa using h37
         clear h34 h35 h36 h37
         go_wp2
         go_ret
         exact ⟨ret_bool HQ.out, hbq⟩
  ·rw [Bool.true_and] at hRES
   have hw : IntKind.i64.wrap ((n : Int) - 1) = (m : Int) := by rw [IntKind.wrap_i64]; omega
   have x0 := kc hb00 z0
   have j0 : (0 : Int) < (n : Int) := by omega
   have j1 : (0 : Int) ≤ (m : Int) := by omega
   have j2 : (m : Int) < (n : Int) := by omega
   have y1 := kc hb00 z1
   by_cases h7 : op = 37
   ·subst h7
    rw [show ((37 : Int) != 37) = false from rfl, Bool.false_and, Bool.not_false, Bool.true_and] at hRES
    have HR2 : Hid (((R.all fun n => decide (n.toNat ∈ S)) && (if (37 : Int) = 34 ∨ (37 : Int) = 36 then decide (n < 64) else if (37 : Int) = 35 then decide (0 < n) && !true else if (37 : Int) = 37 then true else true)) = RES) := hRES
    clear hRES
    go_enter Tryz.func33, Tryz.ntmps33
    go_wp2
    refine wp_region_held_drew (S := (fun v => v.cell? ⟨w.heap.size, 0, none⟩ = some v0 ∧ v.cell? ⟨w.heap.size, 1, none⟩ = some v1 ∧ v.cell? ⟨w.heap.size, 2, none⟩ = some v2 ∧ v.cell? ⟨w.heap.size, 3, none⟩ = some v3 ∧ v.cell? ⟨w.heap.size + 1, 0, none⟩ = some (.int .i64 37) ∧ v.cell? ⟨w.heap.size + 1, 1, none⟩ = some (.int .i64 D) ∧ v.cell? ⟨w.heap.size + 1, 2, none⟩ = some (.int .i64 A) ∧ v.cell? ⟨w.heap.size + 1, 3, none⟩ = some (.int .i64 Q) ∧ v.cell? ⟨w.heap.size + 1, 4, none⟩ = some (.int .i64 E) ∧ v.cell? ⟨w.heap.size + 1, 5, none⟩ = some (.int .i64 nn) ∧ v.cell? ⟨w.heap.size + 1, 6, none⟩ = some (.int .u32 bt))) (by kernel_rfl) ?_ (fun hHeld => ?_)
    ·((try dsimp only); go_keep)
    refine tkT 0 ?_
    refine tkT 1 ?_
    clear hHeld
    refine wpAnyH_ready (rs := [2]) (by kernel_rfl) (by simp) ?_
    refine AllReadyH.cons (i := 2) (by simp only [List.getElem?_toArray, List.getElem?_cons_succ, List.getElem?_cons_zero]; rfl) (fun K hK => ?_) AllReadyH.nil
    go_simp
    (go_at_call 66; (with_reducible refine (HFIT.out _ (bel HT0.out.bel (bel_d _))).mono ?_); rintro e wz ⟨rfl, hbz⟩; have HBZ : Hid (Below ((w.alloc (.cells #[v0, v1, v2, v3] 27)).alloc (.cells #[.int .i64 37, .int .i64 D, .int .i64 A, .int .i64 Q, .int .i64 E, .int .i64 nn, .int .u32 bt] 46)).heap.size ((w.alloc (.cells #[v0, v1, v2, v3] 27)).alloc (.cells #[.int .i64 37, .int .i64 D, .int .i64 A, .int .i64 Q, .int .i64 E, .int .i64 nn, .int .u32 bt] 46)) wz) := bel (bel_d _) hbz; clear hbz; obtain ⟨-, c0, c1, c2, c3, i0, i1, i2, i3, i4, i5, i6⟩ := HT0.out.next HBZ.out)
    try (go_wp2_with fail)
    refine hK.out _ _ ?_ (fun hHeld => ?_)
    ·((try dsimp only); go_keep)
    clear hK K
    try simp only [Act.put, List.setIfInBounds_toArray, List.set_cons_zero, List.set_cons_succ]
    refine tkT 3 ?_
    refine tkT 4 ?_
    refine tkT 5 ?_
    refine tkT 6 ?_
    refine tkT 7 ?_
    refine tkT 8 ?_
    refine tkT 9 ?_
    refine tkT 10 ?_
    refine tkT 11 ?_
    refine tkK 12 ?_
    refine tkK 13 ?_
    refine tkK 14 ?_
    refine tkK 15 ?_
    refine tkK 16 ?_
    refine tkK 17 ?_
    refine tkK 18 ?_
    refine tkK 19 ?_
    refine tkK 20 ?_
    refine tkK 21 ?_
    refine tkK 22 ?_
    refine tkT 23 ?_
    refine tkT 24 ?_
    refine wpAnyH_done (by kernel_rfl) ?_ _
    clear j0 j1 j2 hw y1
    have HTZ : Hid (TW w v0 v1 v2 v3 (w.heap.size + 1) 37 D A Q E nn bt wz) := HT0.out.next HBZ.out
    go_wp2_with (go_at_call 53; (with_reducible refine (HRD.out _).mono ?_); rintro e w5 ⟨u, rfl, hou, hb5⟩; obtain ⟨pu, qu, rfl⟩ := own_len hou; have HOU : Hid (w5.ownsRow wz.heap.size 3 1 (.slice pu R.length qu) R.length (i64s R)) := hou; have HB5 : Hid (Below wz.heap.size wz w5) := hb5; clear hou hb5)
    go_loopw [11] (fun kv wr => ∃ k : Nat, k ≤ R.length ∧ kv = .int .i64 (k : Int) ∧ wr = w5 ∧ ∀ x ∈ R.take k, x.toNat ∈ S) (fun kv _ => R.length - (intOf kv).toNat)
    case atStart => exact ⟨0, Nat.zero_le _, rfl, rfl, fun x hx => by simp at hx⟩
    case round =>
     obtain ⟨k, hk, rfl, rfl, hin⟩ := hrel
     clear c0 c1 c2 c3 i0 i1 i2 i3 i4 i5 i6
     obtain ⟨hbq, c0, c1, c2, c3, i0, i1, i2, i3, i4, i5, i6⟩ := HTZ.out.next HB5.out
     by_cases hlt : k < R.length
     ·have hx := HRP1.out R[k] (List.getElem_mem hlt)
      obtain ⟨d, hd⟩ : ∃ d : Nat, R[k] = (d : Int) := ⟨R[k].toNat, by omega⟩
      obtain ⟨gs, rfl, hcs⟩ := HSET.out d (by omega)
      have hcs' := kc hbq hcs
      obtain ⟨gu, cu, eu, -⟩ := HOU.out.form (by omega)
      simp only [Value.slice.injEq] at eu
      obtain ⟨rfl, -, rfl⟩ := eu
      have hcu : wr.cell? ⟨gu, k, none⟩ = some (.int .i64 (d : Int)) := by rw [HOU.out.cellAt k (by omega)]; simp [i64s, hlt, hd]
      have HMEM : Hid (R[k] = (d : Int)) := hd
      have HIN : Hid (∀ x ∈ R.take k, x.toNat ∈ S) := hin
      have t0 : (0 : Int) ≤ (k : Int) := by omega
      have t1 : (k : Int) < (R.length : Int) := by omega
      have t2 : (0 : Int) ≤ (d : Int) := by omega
      have t3 : (d : Int) < (M : Int) := by omega
      have wk : IntKind.i64.wrap ((k : Int) + 1) = ((k + 1 : Nat) : Int) := by rw [IntKind.wrap_i64]; omega
      clear hx hd hin hcs hk
      cases hX : decide (d ∈ S)
      ·rw [hX] at hcs'
       have hall : (R.all fun n => decide (n.toNat ∈ S)) = false := by
        rw [List.all_eq_false]
        exact ⟨R[k], List.getElem_mem hlt, by rw [HMEM.out, Int.toNat_natCast, hX]; decide⟩
       have HQF : Hid (false = RES) := by show _ = _; have := HR2.out; rw [hall, Bool.false_and] at this; exact this
       clear hX hall
       go_wp2
       go_ret
       exact ⟨ret_bool HQF.out, hbq⟩
      ·rw [hX] at hcs'
       have HX : Hid (d ∈ S) := by show d ∈ S; exact of_decide_eq_true hX
       clear hX
       go_wp2
       go_roundw
       case rel =>
        refine ⟨k + 1, by omega, by go_num, by first | rfl | trivial, fun x hx => ?_⟩
        rw [List.take_succ_eq_append_getElem hlt, List.mem_append] at hx
        rcases hx with hx | hx
        ·exact HIN.out x hx
        ·simp only [List.mem_singleton] at hx
         rw [hx, HMEM.out, Int.toNat_natCast]
         exact HX.out
       case measure => simp [intOf]; omega
     ·have hkk : k = R.length := by omega
      have hall : (R.all fun n => decide (n.toNat ∈ S)) = true := by
       rw [List.all_eq_true]
       intro x hx
       rw [hkk, List.take_length] at hin
       simpa using hin x hx
      have h9 := HR2.out; rw [hall, Bool.true_and] at h9; have HTS : Hid _ := h9; clear h9
      have t1 : ¬ (k : Int) < (R.length : Int) := by omega
      clear hall hin hk hlt
      have HQ : Hid (true = RES) := by show _ = _; have := HTS.out; simpa using this
      go_wp2
      go_ret
      exact ⟨ret_bool HQ.out, hbq⟩
   ·have h7' : (op != 37) = true := by simpa using h7
    have h7b : (op == 37) = false := by simpa using h7
    rw [h7', Bool.true_and] at hRES
    cases hVV : (V != par)
    ·rw [hVV, Bool.not_false, Bool.true_and] at hRES
     have HR2 : Hid (((R.all fun n => decide (n.toNat ∈ S)) && (if op = 34 ∨ op = 36 then decide (n < 64) else if op = 35 then decide (0 < n) && !true else if op = 37 then true else true)) = RES) := hRES
     clear hRES
     have hVb : (V == par) = true := by simpa using hVV
     go_enter Tryz.func33, Tryz.ntmps33
     go_wp2
     refine wp_region_held_drew (S := (fun v => v.cell? ⟨g, m * 3 + 1, none⟩ = some (.int .i64 par) ∧ v.cell? ⟨w.heap.size, 0, none⟩ = some v0 ∧ v.cell? ⟨w.heap.size, 1, none⟩ = some v1 ∧ v.cell? ⟨w.heap.size, 2, none⟩ = some v2 ∧ v.cell? ⟨w.heap.size, 3, none⟩ = some v3 ∧ v.cell? ⟨w.heap.size + 1, 0, none⟩ = some (.int .i64 op) ∧ v.cell? ⟨w.heap.size + 1, 1, none⟩ = some (.int .i64 D) ∧ v.cell? ⟨w.heap.size + 1, 2, none⟩ = some (.int .i64 A) ∧ v.cell? ⟨w.heap.size + 1, 3, none⟩ = some (.int .i64 Q) ∧ v.cell? ⟨w.heap.size + 1, 4, none⟩ = some (.int .i64 E) ∧ v.cell? ⟨w.heap.size + 1, 5, none⟩ = some (.int .i64 nn) ∧ v.cell? ⟨w.heap.size + 1, 6, none⟩ = some (.int .u32 bt))) (by kernel_rfl) ?_ (fun hHeld => ?_)
     ·((try dsimp only); go_keep)
     refine tkT 0 ?_
     refine tkT 1 ?_
     clear hHeld
     refine wpAnyH_ready (rs := [2]) (by kernel_rfl) (by simp) ?_
     refine AllReadyH.cons (i := 2) (by simp only [List.getElem?_toArray, List.getElem?_cons_succ, List.getElem?_cons_zero]; rfl) (fun K hK => ?_) AllReadyH.nil
     go_simp
     (go_at_call 66; (with_reducible refine (HFIT.out _ (bel HT0.out.bel (bel_d _))).mono ?_); rintro e w1 ⟨rfl, hb1⟩; have HB1 : Hid (Below ((w.alloc (.cells #[v0, v1, v2, v3] 27)).alloc (.cells #[.int .i64 op, .int .i64 D, .int .i64 A, .int .i64 Q, .int .i64 E, .int .i64 nn, .int .u32 bt] 46)).heap.size ((w.alloc (.cells #[v0, v1, v2, v3] 27)).alloc (.cells #[.int .i64 op, .int .i64 D, .int .i64 A, .int .i64 Q, .int .i64 E, .int .i64 nn, .int .u32 bt] 46)) w1) := bel (bel_d _) hb1; clear hb1; obtain ⟨-, c0, c1, c2, c3, i0, i1, i2, i3, i4, i5, i6⟩ := HT0.out.next HB1.out; have y1 := kc (bel HT0.out.bel HB1.out) z1)
     try (go_wp2_with fail)
     refine hK.out _ _ ?_ (fun hHeld => ?_)
     ·((try dsimp only); go_keep)
     clear hK K
     try simp only [Act.put, List.setIfInBounds_toArray, List.set_cons_zero, List.set_cons_succ]
     refine tkT 3 ?_
     refine tkT 4 ?_
     refine tkT 5 ?_
     refine tkT 6 ?_
     refine tkT 7 ?_
     refine tkT 8 ?_
     refine tkT 9 ?_
     refine tkT 10 ?_
     refine tkT 11 ?_
     refine tkT 12 ?_
     refine tkT 13 ?_
     refine tkT 15 ?_
     refine tkT 16 ?_
     refine tkT 17 ?_
     refine tkT 18 ?_
     refine tkT 19 ?_
     refine tkT 20 ?_
     refine tkT 21 ?_
     clear hHeld
     refine wpAnyH_ready (rs := [14]) (by kernel_rfl) (by simp) ?_
     refine AllReadyH.cons (i := 14) (by simp only [List.getElem?_toArray, List.getElem?_cons_succ, List.getElem?_cons_zero]; rfl) (fun K hK => ?_) AllReadyH.nil
     go_simp
     (go_at_call 67; (with_reducible refine (HVEC.out _ (bel HT0.out.bel HB1.out)).mono ?_); rintro e wz ⟨rfl, hbz⟩; have HBZ : Hid (Below ((w.alloc (.cells #[v0, v1, v2, v3] 27)).alloc (.cells #[.int .i64 op, .int .i64 D, .int .i64 A, .int .i64 Q, .int .i64 E, .int .i64 nn, .int .u32 bt] 46)).heap.size ((w.alloc (.cells #[v0, v1, v2, v3] 27)).alloc (.cells #[.int .i64 op, .int .i64 D, .int .i64 A, .int .i64 Q, .int .i64 E, .int .i64 nn, .int .u32 bt] 46)) wz) := bel HB1.out hbz; clear hbz c0 c1 c2 c3 i0 i1 i2 i3 i4 i5 i6 y1; obtain ⟨-, c0, c1, c2, c3, i0, i1, i2, i3, i4, i5, i6⟩ := HT0.out.next HBZ.out; have y1 := kc (bel HT0.out.bel HBZ.out) z1)
     try (go_wp2_with fail)
     refine hK.out _ _ ?_ (fun hHeld => ?_)
     ·((try dsimp only); go_keep)
     clear hK K
     try simp only [Act.put, List.setIfInBounds_toArray, List.set_cons_zero, List.set_cons_succ]
     refine tkT 22 ?_
     refine tkT 23 ?_
     refine tkT 24 ?_
     refine wpAnyH_done (by kernel_rfl) ?_ _
     clear j0 j1 j2 hw y1 h7' h7b
     have HTZ : Hid (TW w v0 v1 v2 v3 (w.heap.size + 1) op D A Q E nn bt wz) := HT0.out.next HBZ.out
     go_wp2_with (go_at_call 53; (with_reducible refine (HRD.out _).mono ?_); rintro e w5 ⟨u, rfl, hou, hb5⟩; obtain ⟨pu, qu, rfl⟩ := own_len hou; have HOU : Hid (w5.ownsRow wz.heap.size 3 1 (.slice pu R.length qu) R.length (i64s R)) := hou; have HB5 : Hid (Below wz.heap.size wz w5) := hb5; clear hou hb5)
     go_loopw [11] (fun kv wr => ∃ k : Nat, k ≤ R.length ∧ kv = .int .i64 (k : Int) ∧ wr = w5 ∧ ∀ x ∈ R.take k, x.toNat ∈ S) (fun kv _ => R.length - (intOf kv).toNat)
     case atStart => exact ⟨0, Nat.zero_le _, rfl, rfl, fun x hx => by simp at hx⟩
     case round =>
      obtain ⟨k, hk, rfl, rfl, hin⟩ := hrel
      clear c0 c1 c2 c3 i0 i1 i2 i3 i4 i5 i6
      obtain ⟨hbq, c0, c1, c2, c3, i0, i1, i2, i3, i4, i5, i6⟩ := HTZ.out.next HB5.out
      by_cases hlt : k < R.length
      ·have hx := HRP1.out R[k] (List.getElem_mem hlt)
       obtain ⟨d, hd⟩ : ∃ d : Nat, R[k] = (d : Int) := ⟨R[k].toNat, by omega⟩
       obtain ⟨gs, rfl, hcs⟩ := HSET.out d (by omega)
       have hcs' := kc hbq hcs
       obtain ⟨gu, cu, eu, -⟩ := HOU.out.form (by omega)
       simp only [Value.slice.injEq] at eu
       obtain ⟨rfl, -, rfl⟩ := eu
       have hcu : wr.cell? ⟨gu, k, none⟩ = some (.int .i64 (d : Int)) := by rw [HOU.out.cellAt k (by omega)]; simp [i64s, hlt, hd]
       have HMEM : Hid (R[k] = (d : Int)) := hd
       have HIN : Hid (∀ x ∈ R.take k, x.toNat ∈ S) := hin
       have t0 : (0 : Int) ≤ (k : Int) := by omega
       have t1 : (k : Int) < (R.length : Int) := by omega
       have t2 : (0 : Int) ≤ (d : Int) := by omega
       have t3 : (d : Int) < (M : Int) := by omega
       have wk : IntKind.i64.wrap ((k : Int) + 1) = ((k + 1 : Nat) : Int) := by rw [IntKind.wrap_i64]; omega
       clear hx hd hin hcs hk
       cases hX : decide (d ∈ S)
       ·rw [hX] at hcs'
        have hall : (R.all fun n => decide (n.toNat ∈ S)) = false := by
         rw [List.all_eq_false]
         exact ⟨R[k], List.getElem_mem hlt, by rw [HMEM.out, Int.toNat_natCast, hX]; decide⟩
        have HQF : Hid (false = RES) := by show _ = _; have := HR2.out; rw [hall, Bool.false_and] at this; exact this
        clear hX hall
        go_wp2
        go_ret
        exact ⟨ret_bool HQF.out, hbq⟩
       ·rw [hX] at hcs'
        have HX : Hid (d ∈ S) := by show d ∈ S; exact of_decide_eq_true hX
        clear hX
        go_wp2
        go_roundw
        case rel =>
         refine ⟨k + 1, by omega, by go_num, by first | rfl | trivial, fun x hx => ?_⟩
         rw [List.take_succ_eq_append_getElem hlt, List.mem_append] at hx
         rcases hx with hx | hx
         ·exact HIN.out x hx
         ·simp only [List.mem_singleton] at hx
          rw [hx, HMEM.out, Int.toNat_natCast]
          exact HX.out
        case measure => simp [intOf]; omega
      ·have hkk : k = R.length := by omega
       have hall : (R.all fun n => decide (n.toNat ∈ S)) = true := by
        rw [List.all_eq_true]
        intro x hx
        rw [hkk, List.take_length] at hin
        simpa using hin x hx
       have h9 := HR2.out; rw [hall, Bool.true_and] at h9; have HTS : Hid _ := h9; clear h9
       have t1 : ¬ (k : Int) < (R.length : Int) := by omega
       clear hall hin hk hlt
       by_cases h34 : op = 34
       ·subst h34
        have h9 := HTS.out; rw [if_pos (Or.inl rfl)] at h9; have HQ : Hid _ := h9; clear h9
        go_wp2
        go_ret
        exact ⟨ret_bool (by rw [← HQ.out]; first | (simp; done) | (simp; omega) | (simp [hn0]; done) | (simp [hn0]; omega)), hbq⟩
       ·by_cases h36 : op = 36
        ·subst h36
         have h9 := HTS.out; rw [if_pos (Or.inr rfl)] at h9; have HQ : Hid _ := h9; clear h9
         go_wp2
         go_ret
         exact ⟨ret_bool (by rw [← HQ.out]; first | (simp; done) | (simp; omega) | (simp [hn0]; done) | (simp [hn0]; omega)), hbq⟩
        ·have h9 := HTS.out; rw [if_neg (fun e => e.elim h34 h36)] at h9; have HT2 : Hid _ := h9; clear h9
         have q34 : (op == 34) = false := by simpa using h34
         have q36 : (op == 36) = false := by simpa using h36
         by_cases h35 : op = 35
         ·subst h35
          have h9 := HT2.out; rw [if_pos rfl] at h9; have HQ : Hid _ := h9; clear h9
          clear q34 q36 h34 h36
          by_cases hn0 : (0 : Int) < (n : Int)
          ·first
            | (exfalso; omega)
            | (go_wp2; go_ret; exact ⟨ret_bool (by rw [← HQ.out]; first | (simp; done) | (simp; omega) | (simp [hn0]; done) | (simp [hn0]; omega)), hbq⟩)
          ·first
            | (exfalso; omega)
            | (go_wp2; go_ret; exact ⟨ret_bool (by rw [← HQ.out]; first | (simp; done) | (simp; omega) | (simp [hn0]; done) | (simp [hn0]; omega)), hbq⟩)
         ·have h9 := HT2.out; rw [if_neg h35] at h9; have HT3 : Hid _ := h9; clear h9
          have q35 : (op == 35) = false := by simpa using h35
          by_cases h37 : op = 37
          ·subst h37
           have h9 := HT3.out; rw [if_pos rfl] at h9; have HQ : Hid _ := h9; clear h9
           clear q34 q35 q36 h34 h35 h36
           first
            | (exfalso; omega)
            | (go_wp2; go_ret; exact ⟨ret_bool HQ.out, hbq⟩)
          ·have h9 := HT3.out; rw [if_neg h37] at h9; have HQ : Hid _ := h9; clear h9
           have q37 : (op == 37) = false := by simpa using h37
           clear h34 h35 h36 h37
           go_wp2
           go_ret
           exact ⟨ret_bool HQ.out, hbq⟩
    ·rw [hVV, Bool.not_true, Bool.false_and] at hRES
     have HQF : Hid (false = RES) := hRES
     clear hRES
     have hVb : (V == par) = false := by simpa using hVV
     go_enter Tryz.func33, Tryz.ntmps33
     go_wp2
     refine wp_region_held_drew (S := (fun v => v.cell? ⟨g, m * 3 + 1, none⟩ = some (.int .i64 par) ∧ v.cell? ⟨w.heap.size, 0, none⟩ = some v0 ∧ v.cell? ⟨w.heap.size, 1, none⟩ = some v1 ∧ v.cell? ⟨w.heap.size, 2, none⟩ = some v2 ∧ v.cell? ⟨w.heap.size, 3, none⟩ = some v3 ∧ v.cell? ⟨w.heap.size + 1, 0, none⟩ = some (.int .i64 op) ∧ v.cell? ⟨w.heap.size + 1, 1, none⟩ = some (.int .i64 D) ∧ v.cell? ⟨w.heap.size + 1, 2, none⟩ = some (.int .i64 A) ∧ v.cell? ⟨w.heap.size + 1, 3, none⟩ = some (.int .i64 Q) ∧ v.cell? ⟨w.heap.size + 1, 4, none⟩ = some (.int .i64 E) ∧ v.cell? ⟨w.heap.size + 1, 5, none⟩ = some (.int .i64 nn) ∧ v.cell? ⟨w.heap.size + 1, 6, none⟩ = some (.int .u32 bt))) (by kernel_rfl) ?_ (fun hHeld => ?_)
     ·((try dsimp only); go_keep)
     refine tkT 0 ?_
     refine tkT 1 ?_
     clear hHeld
     refine wpAnyH_ready (rs := [2]) (by kernel_rfl) (by simp) ?_
     refine AllReadyH.cons (i := 2) (by simp only [List.getElem?_toArray, List.getElem?_cons_succ, List.getElem?_cons_zero]; rfl) (fun K hK => ?_) AllReadyH.nil
     go_simp
     (go_at_call 66; (with_reducible refine (HFIT.out _ (bel HT0.out.bel (bel_d _))).mono ?_); rintro e w1 ⟨rfl, hb1⟩; have HB1 : Hid (Below ((w.alloc (.cells #[v0, v1, v2, v3] 27)).alloc (.cells #[.int .i64 op, .int .i64 D, .int .i64 A, .int .i64 Q, .int .i64 E, .int .i64 nn, .int .u32 bt] 46)).heap.size ((w.alloc (.cells #[v0, v1, v2, v3] 27)).alloc (.cells #[.int .i64 op, .int .i64 D, .int .i64 A, .int .i64 Q, .int .i64 E, .int .i64 nn, .int .u32 bt] 46)) w1) := bel (bel_d _) hb1; clear hb1; obtain ⟨-, c0, c1, c2, c3, i0, i1, i2, i3, i4, i5, i6⟩ := HT0.out.next HB1.out; have y1 := kc (bel HT0.out.bel HB1.out) z1)
     try (go_wp2_with fail)
     refine hK.out _ _ ?_ (fun hHeld => ?_)
     ·((try dsimp only); go_keep)
     clear hK K
     try simp only [Act.put, List.setIfInBounds_toArray, List.set_cons_zero, List.set_cons_succ]
     refine tkT 3 ?_
     refine tkT 4 ?_
     refine tkT 5 ?_
     refine tkT 6 ?_
     refine tkT 7 ?_
     refine tkT 8 ?_
     refine tkT 9 ?_
     refine tkT 10 ?_
     refine tkT 11 ?_
     refine tkT 12 ?_
     refine tkT 13 ?_
     refine tkT 15 ?_
     refine tkT 16 ?_
     refine tkT 17 ?_
     refine tkT 18 ?_
     refine tkT 19 ?_
     refine tkT 20 ?_
     refine tkT 21 ?_
     clear hHeld
     refine wpAnyH_ready (rs := [14]) (by kernel_rfl) (by simp) ?_
     refine AllReadyH.cons (i := 14) (by simp only [List.getElem?_toArray, List.getElem?_cons_succ, List.getElem?_cons_zero]; rfl) (fun K hK => ?_) AllReadyH.nil
     go_simp
     (go_at_call 67; (with_reducible refine (HVEC.out _ (bel HT0.out.bel HB1.out)).mono ?_); rintro e wz ⟨rfl, hbz⟩; have HBZ : Hid (Below ((w.alloc (.cells #[v0, v1, v2, v3] 27)).alloc (.cells #[.int .i64 op, .int .i64 D, .int .i64 A, .int .i64 Q, .int .i64 E, .int .i64 nn, .int .u32 bt] 46)).heap.size ((w.alloc (.cells #[v0, v1, v2, v3] 27)).alloc (.cells #[.int .i64 op, .int .i64 D, .int .i64 A, .int .i64 Q, .int .i64 E, .int .i64 nn, .int .u32 bt] 46)) wz) := bel HB1.out hbz; clear hbz c0 c1 c2 c3 i0 i1 i2 i3 i4 i5 i6 y1; obtain ⟨-, c0, c1, c2, c3, i0, i1, i2, i3, i4, i5, i6⟩ := HT0.out.next HBZ.out; have y1 := kc (bel HT0.out.bel HBZ.out) z1)
     try (go_wp2_with fail)
     refine hK.out _ _ ?_ (fun hHeld => ?_)
     ·((try dsimp only); go_keep)
     clear hK K
     try simp only [Act.put, List.setIfInBounds_toArray, List.set_cons_zero, List.set_cons_succ]
     refine tkT 22 ?_
     refine tkT 23 ?_
     refine tkT 24 ?_
     refine wpAnyH_done (by kernel_rfl) ?_ _
     go_wp2
     go_ret
     exact ⟨ret_bool HQF.out, bel hb00 HBZ.out⟩
end Go.Proofs.YtgcmnkanjcfndaaGreatDoor
