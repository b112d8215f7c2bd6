import Derived.Test.YtgcmnkanjcfndaaGreatDoorTxt1
import Derived.Test.YtgcmnkanjcfndaaGreatDoorTxt4
import Derived.Deep.CutBlock
namespace Go.Proofs.YtgcmnkanjcfndaaGreatDoor
open Go.RowKit
set_option linter.unusedVariables false
set_option linter.unusedSimpArgs false
structure PS (E G C n gi H : Nat) (L0 : Int) (w : World) (t : Wk) (vs vo : Value) (v : World) : Prop where
 bel : Below E w v
 st : WS E G C n gi vs vo v t
 box : v.cell? ⟨H, 0, none⟩ = some (.int .i64 L0)
 n1 : H ≠ G
 n2 : H ≠ gi
set_option maxRecDepth 100000 in
set_option maxHeartbeats 4000000 in
theorem pass_any (E G C n gi : Nat) (vs vo : Value) (s : Wk) (b o : Nat) (i : Ins) (r : Rw) (w : World) (h : WS E G C n gi vs vo w s) (ok : OkS n s) (hn : n ≤ 16384) (hi : CellsAt w b o (inC i)) (hbE : b < E)
  (hm : i.op = 34 ∨ i.op = 36 → s.opens.length < 64) (he : i.op = 35 ∨ i.op = 37 → s.opens ≠ []) (hd : r.d ≠ 0 → 0 ≤ i.d ∧ i.d < (n : Int)) :
  Calls Tryz.prog 76 #[.pointer (some ⟨G, 0, none⟩), .pointer (some ⟨b, o, none⟩), rwV r] w fun e w' => e = .returned (.tuple #[]) ∧ Below E w w' ∧ ∃ vs' vo', WS E G C n gi vs' vo' w' (passP s i r) := by
 have e0 := hi.at 0 rfl
 have e1 := hi.at 1 rfl
 have e5 := hi.at 5 rfl
 rw [Nat.add_zero] at e0
 have hok : OkS n (turnP s i) := ok.turn hm
 unfold passP
 have htu : turnP s i = if i.op = 34 ∨ i.op = 36 then ⟨s.set, ⟨i.op == 36, i.n, s.set.length⟩ :: s.opens⟩ else if i.op = 35 ∨ i.op = 37 then leaveP s else s := rfl
 obtain ⟨T, hT⟩ : ∃ T, turnP s i = T := ⟨_, rfl⟩
 rw [hT] at hok htu ⊢
 have HT : Hid (T = if i.op = 34 ∨ i.op = 36 then ⟨s.set, ⟨i.op == 36, i.n, s.set.length⟩ :: s.opens⟩ else if i.op = 35 ∨ i.op = 37 then leaveP s else s) := htu
 clear htu hT
 have had : addP T i r = if r.d ≠ 0 ∧ i.d.toNat ∉ T.set then ⟨T.set ++ [i.d.toNat], T.opens⟩ else T := rfl
 obtain ⟨R, hR⟩ : ∃ R, addP T i r = R := ⟨_, rfl⟩
 rw [hR] at had ⊢
 have HR : Hid (R = if r.d ≠ 0 ∧ i.d.toNat ∉ T.set then ⟨T.set ++ [i.d.toNat], T.opens⟩ else T) := had
 clear had hR hi
 have HOK : Hid (OkS n T) := hok
 obtain ⟨io, D, A, B, F, N, bt⟩ := i
 obtain ⟨L0, L1, L2, L3, L4⟩ := r
 simp only at e0 e1 e5 hm he hd HT HR hok
 unfold rwV
 have HD : Hid (L0 ≠ 0 → 0 ≤ D ∧ D < (n : Int)) := hd
 have HS : Hid (WS E G C n gi vs vo w s) := h
 have HS1 : Hid (WS E G C n gi vs vo (w.alloc (.cells #[.int .i64 L0, .int .i64 L1, .int .i64 L2, .int .i64 L3, .int .i64 L4] 129)) s) := h.below (bel_alloc _ _)
 have hE := h.lt
 have hG := h.g.lt
 have hgi := h.i.lt
 have nG : G ≠ w.heap.size := by omega
 have ngi : gi ≠ w.heap.size := by omega
 have nbG : b ≠ G := by have := h.hG; omega
 have nbi : b ≠ gi := by have := h.hgi; omega
 have hbw : b ≠ w.heap.size := by omega
 have nGb : G ≠ b := Ne.symm nbG
 have nib : gi ≠ b := Ne.symm nbi
 have niG : gi ≠ G := h.n1
 have nGi : G ≠ gi := Ne.symm h.n1
 have HB1 : Hid (Below E w (w.alloc (.cells #[.int .i64 L0, .int .i64 L1, .int .i64 L2, .int .i64 L3, .int .i64 L4] 129))) := (Below.refl E w).alloc hE _
 have HE : Hid (∀ v, Below E w v → v.cell? ⟨b, o, none⟩ = some (.int .i64 io) ∧ v.cell? ⟨b, o + 1, none⟩ = some (.int .i64 D) ∧ v.cell? ⟨b, o + 5, none⟩ = some (.int .i64 N)) := fun v hv => ⟨(hv.cell hbE).trans e0, (hv.cell hbE).trans e1, (hv.cell hbE).trans e5⟩
 have HVB : Hid ((w.alloc (.cells #[.int .i64 L0, .int .i64 L1, .int .i64 L2, .int .i64 L3, .int .i64 L4] 129)).cell? ⟨w.heap.size, 0, none⟩ = some (.int .i64 L0)) := by show _ = _; simp [go_sem]
 obtain ⟨z0, z1, z5⟩ := HE.out _ HB1.out
 have HOS : Hid (OkS n s) := ok
 have HM : Hid (io = 34 ∨ io = 36 → s.opens.length < 64) := hm
 have HQ : Hid (io = 35 ∨ io = 37 → s.opens ≠ []) := he
 clear hd h hok hm he ok e0 e1 e5
 go_enter Tryz.func76, Tryz.ntmps76
 go_upto_block 0 with fail
 obtain ⟨V, hV⟩ : ∃ V, w.alloc (.cells #[.int .i64 L0, .int .i64 L1, .int .i64 L2, .int .i64 L3, .int .i64 L4] 129) = V := ⟨_, rfl⟩
 have hVs : V.heap.size = w.heap.size + 1 := by rw [← hV]; simp
 rw [hV] at HS1 HB1 HVB z0 z1 z5 ⊢
 have HVS : Hid (V.heap.size = w.heap.size + 1) := hVs
 clear hV hVs
 go_cut [10] (fun bv wx => ∃ vs1 vo1, PS E G C n gi w.heap.size L0 w T vs1 vo1 wx)
 case first =>
  have c2 := HS1.out.c2
  have c3 := HS1.out.c3
  by_cases h34 : io = 34
  ·have q1 : (io == 34) = true := by simpa using h34
   have q2 : (io == 36) = false := by have : io ≠ 36 := (by omega); simpa using this
   obtain ⟨g, cap, w3, hr, hb3, c33, f33, c32, hfar, hw3⟩ := app_open HS1.out.x (by have := HM.out (.inl h34); omega) false N s.set.length
   have HT1 : Hid (T = ⟨s.set, ⟨false, N, s.set.length⟩ :: s.opens⟩) := by show _ = _; rw [HT.out, if_pos (.inl h34)]; rw [show (io == 36) = false from q2]
   obtain ⟨pS, cS, hvs⟩ := own_len HS1.out.set
   obtain ⟨y0, y1, y5⟩ := HE.out w3 (HB1.out.trans hb3)
   have HP : Hid (PS E G C n gi w.heap.size L0 w T vs (.slice (some ⟨g, 0, none⟩) (s.opens.length + 1) cap) (w3.setCell ⟨G, 3, none⟩ (.slice (some ⟨g, 0, none⟩) (s.opens.length + 1) cap))) := by
    refine ⟨(HB1.out.trans hb3).setCell HS.out.hG _, ?_, ?_, by omega, by omega⟩
    ·rw [HT1.out]; exact WX.st (s := ⟨s.set, ⟨false, N, s.set.length⟩ :: s.opens⟩) hw3 fun j _ => rfl
    ·rw [World.cell?_of_block (Below.heap_setCell _ _ _ _ (by show w.heap.size ≠ G; omega)), hfar ⟨w.heap.size, 0, none⟩ (by have := HVS.out; show w.heap.size < _; omega) (fun e => by have := (HS.out.opn.lt _ e).2; simp at this)]
     exact HVB.out
   have HR3 : Hid ((Builtin.append_ #[91, 91] 91 #[vo, .slice (some ⟨V.heap.size, 0, none⟩) 1 1]).run Tryz.prog ((V.alloc (.cells #[.bool false, .int .i64 N, .int .i64 (s.set.length : Int)] 165)).drew) = .ok (.slice (some ⟨g, 0, none⟩) (s.opens.length + 1) cap) w3) := hr
   subst hvs
   have c5 : (w3.setCell ⟨G, 3, none⟩ (.slice (some ⟨g, 0, none⟩) (s.opens.length + 1) cap)).cell? ⟨G, 2, none⟩ = some (.slice pS s.set.length cS) := by rw [World.cell?_setCell_other _ _ _ _ (by simp)]; exact c32
   have nG2 : G ≠ V.heap.size := by have := HVS.out; omega
   have c4 : (V.alloc (.cells #[.bool false, .int .i64 N, .int .i64 (s.set.length : Int)] 165)).cell? ⟨G, 3, none⟩ = some vo := kc (bel_alloc _ _) c3
   have nb2 : b ≠ V.heap.size := by have := HVS.out; omega
   clear hr hb3 hfar hw3 h34
   go_wp2
   refine wp_region_held_drew (S := (fun v => v.cell? ⟨b, o, none⟩ = some (.int .i64 io) ∧ v.cell? ⟨b, o + 5, none⟩ = some (.int .i64 N) ∧ v.cell? ⟨G, 2, none⟩ = some (.slice pS s.set.length cS))) (by kernel_rfl) ?_ (fun hHeld => ?_)
   ·((try dsimp only); go_keep)
   refine tkT 0 ?_
   refine tkT 1 ?_
   refine tkT 2 ?_
   refine tkT 3 ?_
   refine tkT 5 ?_
   refine tkT 6 ?_
   refine tkT 7 ?_
   refine tkT 8 ?_
   refine tkT 9 ?_
   refine tkT 10 ?_
   refine tkT 11 ?_
   refine tkT 12 ?_
   refine tkT 13 ?_
   refine tkT 14 ?_
   refine tkT 15 ?_
   refine tkT 16 ?_
   refine tkT 17 ?_
   refine tkT 18 ?_
   refine tkT 19 ?_
   clear hHeld
   refine wpAnyH_ready (rs := [4, 20]) (by kernel_rfl) (by simp) ?_
   refine AllReadyH.cons (i := 4) (by simp only [List.getElem?_toArray, List.getElem?_cons_succ, List.getElem?_cons_zero]; rfl) (fun K hK => ?_) ?_
   ·go_simp
    refine hK.out _ _ ?_ (fun hHeld => ?_)
    ·((try dsimp only); go_keep)
    clear hK K
    try simp only [Act.put, List.setIfInBounds_toArray, List.set_cons_zero, List.set_cons_succ]
    clear hHeld
    refine wpAnyH_ready (rs := [20]) (by kernel_rfl) (by simp) ?_
    refine AllReadyH.cons (i := 20) (by simp only [List.getElem?_toArray, List.getElem?_cons_succ, List.getElem?_cons_zero]; rfl) (fun K hK => ?_) AllReadyH.nil
    go_simp
    refine hK.out _ _ ?_ (fun hHeld => ?_)
    ·((try dsimp only); go_keep)
    clear hK K
    try simp only [Act.put, List.setIfInBounds_toArray, List.set_cons_zero, List.set_cons_succ]
    clear hHeld
    refine wpAnyH_ready (rs := [21]) (by kernel_rfl) (by simp) ?_
    refine AllReadyH.cons (i := 21) (by simp only [List.getElem?_toArray, List.getElem?_cons_succ, List.getElem?_cons_zero]; rfl) (fun K hK => ?_) AllReadyH.nil
    refine step_app (by rfl) _ _ _ (by rfl) _ _ _ (by rfl) (by rfl) HR3.out ?_
    refine hK.out _ _ ?_ (fun hHeld => ?_)
    ·((try dsimp only); go_keep)
    clear hK K
    try simp only [Act.put, List.setIfInBounds_toArray, List.set_cons_zero, List.set_cons_succ]
    refine tkT 22 ?_
    refine tkT 23 ?_
    clear hHeld
    refine wpAnyH_ready (rs := [24]) (by kernel_rfl) (by simp) ?_
    refine AllReadyH.cons (i := 24) (by simp only [List.getElem?_toArray, List.getElem?_cons_succ, List.getElem?_cons_zero]; rfl) (fun K hK => ?_) AllReadyH.nil
    go_simp
    refine hK.out _ _ ?_ (fun hHeld => ?_)
    ·((try dsimp only); go_keep)
    clear hK K
    try simp only [Act.put, List.setIfInBounds_toArray, List.set_cons_zero, List.set_cons_succ]
    refine wpAnyH_done (by kernel_rfl) ?_ _
    go_wp2
    go_meet
    exact ⟨_, _, HP.out⟩
   refine AllReadyH.cons (i := 20) (by simp only [List.getElem?_toArray, List.getElem?_cons_succ, List.getElem?_cons_zero]; rfl) (fun K hK => ?_) AllReadyH.nil
   go_simp
   refine hK.out _ _ ?_ (fun hHeld => ?_)
   ·((try dsimp only); go_keep)
   clear hK K
   try simp only [Act.put, List.setIfInBounds_toArray, List.set_cons_zero, List.set_cons_succ]
   clear hHeld
   refine wpAnyH_ready (rs := [4]) (by kernel_rfl) (by simp) ?_
   refine AllReadyH.cons (i := 4) (by simp only [List.getElem?_toArray, List.getElem?_cons_succ, List.getElem?_cons_zero]; rfl) (fun K hK => ?_) AllReadyH.nil
   go_simp
   refine hK.out _ _ ?_ (fun hHeld => ?_)
   ·((try dsimp only); go_keep)
   clear hK K
   try simp only [Act.put, List.setIfInBounds_toArray, List.set_cons_zero, List.set_cons_succ]
   clear hHeld
   refine wpAnyH_ready (rs := [21]) (by kernel_rfl) (by simp) ?_
   refine AllReadyH.cons (i := 21) (by simp only [List.getElem?_toArray, List.getElem?_cons_succ, List.getElem?_cons_zero]; rfl) (fun K hK => ?_) AllReadyH.nil
   refine step_app (by rfl) _ _ _ (by rfl) _ _ _ (by rfl) (by rfl) HR3.out ?_
   refine hK.out _ _ ?_ (fun hHeld => ?_)
   ·((try dsimp only); go_keep)
   clear hK K
   try simp only [Act.put, List.setIfInBounds_toArray, List.set_cons_zero, List.set_cons_succ]
   refine tkT 22 ?_
   refine tkT 23 ?_
   clear hHeld
   refine wpAnyH_ready (rs := [24]) (by kernel_rfl) (by simp) ?_
   refine AllReadyH.cons (i := 24) (by simp only [List.getElem?_toArray, List.getElem?_cons_succ, List.getElem?_cons_zero]; rfl) (fun K hK => ?_) AllReadyH.nil
   go_simp
   refine hK.out _ _ ?_ (fun hHeld => ?_)
   ·((try dsimp only); go_keep)
   clear hK K
   try simp only [Act.put, List.setIfInBounds_toArray, List.set_cons_zero, List.set_cons_succ]
   refine wpAnyH_done (by kernel_rfl) ?_ _
   go_wp2
   go_meet
   exact ⟨_, _, HP.out⟩
  by_cases h36 : io = 36
  ·have q1 : (io == 34) = false := by simpa using h34
   have q2 : (io == 36) = true := by simpa using h36
   obtain ⟨g, cap, w3, hr, hb3, c33, f33, c32, hfar, hw3⟩ := app_open HS1.out.x (by have := HM.out (.inr h36); omega) true N s.set.length
   have HT1 : Hid (T = ⟨s.set, ⟨true, N, s.set.length⟩ :: s.opens⟩) := by show _ = _; rw [HT.out, if_pos (.inr h36)]; rw [show (io == 36) = true from q2]
   obtain ⟨pS, cS, hvs⟩ := own_len HS1.out.set
   obtain ⟨y0, y1, y5⟩ := HE.out w3 (HB1.out.trans hb3)
   have HP : Hid (PS E G C n gi w.heap.size L0 w T vs (.slice (some ⟨g, 0, none⟩) (s.opens.length + 1) cap) (w3.setCell ⟨G, 3, none⟩ (.slice (some ⟨g, 0, none⟩) (s.opens.length + 1) cap))) := by
    refine ⟨(HB1.out.trans hb3).setCell HS.out.hG _, ?_, ?_, by omega, by omega⟩
    ·rw [HT1.out]; exact WX.st (s := ⟨s.set, ⟨true, N, s.set.length⟩ :: s.opens⟩) hw3 fun j _ => rfl
    ·rw [World.cell?_of_block (Below.heap_setCell _ _ _ _ (by show w.heap.size ≠ G; omega)), hfar ⟨w.heap.size, 0, none⟩ (by have := HVS.out; show w.heap.size < _; omega) (fun e => by have := (HS.out.opn.lt _ e).2; simp at this)]
     exact HVB.out
   have HR3 : Hid ((Builtin.append_ #[91, 91] 91 #[vo, .slice (some ⟨V.heap.size, 0, none⟩) 1 1]).run Tryz.prog ((V.alloc (.cells #[.bool true, .int .i64 N, .int .i64 (s.set.length : Int)] 165)).drew) = .ok (.slice (some ⟨g, 0, none⟩) (s.opens.length + 1) cap) w3) := hr
   subst hvs
   have c5 : (w3.setCell ⟨G, 3, none⟩ (.slice (some ⟨g, 0, none⟩) (s.opens.length + 1) cap)).cell? ⟨G, 2, none⟩ = some (.slice pS s.set.length cS) := by rw [World.cell?_setCell_other _ _ _ _ (by simp)]; exact c32
   have nG2 : G ≠ V.heap.size := by have := HVS.out; omega
   have c4 : (V.alloc (.cells #[.bool true, .int .i64 N, .int .i64 (s.set.length : Int)] 165)).cell? ⟨G, 3, none⟩ = some vo := kc (bel_alloc _ _) c3
   have nb2 : b ≠ V.heap.size := by have := HVS.out; omega
   clear hr hb3 hfar hw3 h34 h36
   go_wp2
   refine wp_region_held_drew (S := (fun v => v.cell? ⟨b, o, none⟩ = some (.int .i64 io) ∧ v.cell? ⟨b, o + 5, none⟩ = some (.int .i64 N) ∧ v.cell? ⟨G, 2, none⟩ = some (.slice pS s.set.length cS))) (by kernel_rfl) ?_ (fun hHeld => ?_)
   ·((try dsimp only); go_keep)
   refine tkT 0 ?_
   refine tkT 1 ?_
   refine tkT 2 ?_
   refine tkT 3 ?_
   refine tkT 5 ?_
   refine tkT 6 ?_
   refine tkT 7 ?_
   refine tkT 8 ?_
   refine tkT 9 ?_
   refine tkT 10 ?_
   refine tkT 11 ?_
   refine tkT 12 ?_
   refine tkT 13 ?_
   refine tkT 14 ?_
   refine tkT 15 ?_
   refine tkT 16 ?_
   refine tkT 17 ?_
   refine tkT 18 ?_
   refine tkT 19 ?_
   clear hHeld
   refine wpAnyH_ready (rs := [4, 20]) (by kernel_rfl) (by simp) ?_
   refine AllReadyH.cons (i := 4) (by simp only [List.getElem?_toArray, List.getElem?_cons_succ, List.getElem?_cons_zero]; rfl) (fun K hK => ?_) ?_
   ·go_simp
    refine hK.out _ _ ?_ (fun hHeld => ?_)
    ·((try dsimp only); go_keep)
    clear hK K
    try simp only [Act.put, List.setIfInBounds_toArray, List.set_cons_zero, List.set_cons_succ]
    clear hHeld
    refine wpAnyH_ready (rs := [20]) (by kernel_rfl) (by simp) ?_
    refine AllReadyH.cons (i := 20) (by simp only [List.getElem?_toArray, List.getElem?_cons_succ, List.getElem?_cons_zero]; rfl) (fun K hK => ?_) AllReadyH.nil
    go_simp
    refine hK.out _ _ ?_ (fun hHeld => ?_)
    ·((try dsimp only); go_keep)
    clear hK K
    try simp only [Act.put, List.setIfInBounds_toArray, List.set_cons_zero, List.set_cons_succ]
    clear hHeld
    refine wpAnyH_ready (rs := [21]) (by kernel_rfl) (by simp) ?_
    refine AllReadyH.cons (i := 21) (by simp only [List.getElem?_toArray, List.getElem?_cons_succ, List.getElem?_cons_zero]; rfl) (fun K hK => ?_) AllReadyH.nil
    refine step_app (by rfl) _ _ _ (by rfl) _ _ _ (by rfl) (by rfl) HR3.out ?_
    refine hK.out _ _ ?_ (fun hHeld => ?_)
    ·((try dsimp only); go_keep)
    clear hK K
    try simp only [Act.put, List.setIfInBounds_toArray, List.set_cons_zero, List.set_cons_succ]
    refine tkT 22 ?_
    refine tkT 23 ?_
    clear hHeld
    refine wpAnyH_ready (rs := [24]) (by kernel_rfl) (by simp) ?_
    refine AllReadyH.cons (i := 24) (by simp only [List.getElem?_toArray, List.getElem?_cons_succ, List.getElem?_cons_zero]; rfl) (fun K hK => ?_) AllReadyH.nil
    go_simp
    refine hK.out _ _ ?_ (fun hHeld => ?_)
    ·((try dsimp only); go_keep)
    clear hK K
    try simp only [Act.put, List.setIfInBounds_toArray, List.set_cons_zero, List.set_cons_succ]
    refine wpAnyH_done (by kernel_rfl) ?_ _
    go_wp2
    go_meet
    exact ⟨_, _, HP.out⟩
   refine AllReadyH.cons (i := 20) (by simp only [List.getElem?_toArray, List.getElem?_cons_succ, List.getElem?_cons_zero]; rfl) (fun K hK => ?_) AllReadyH.nil
   go_simp
   refine hK.out _ _ ?_ (fun hHeld => ?_)
   ·((try dsimp only); go_keep)
   clear hK K
   try simp only [Act.put, List.setIfInBounds_toArray, List.set_cons_zero, List.set_cons_succ]
   clear hHeld
   refine wpAnyH_ready (rs := [4]) (by kernel_rfl) (by simp) ?_
   refine AllReadyH.cons (i := 4) (by simp only [List.getElem?_toArray, List.getElem?_cons_succ, List.getElem?_cons_zero]; rfl) (fun K hK => ?_) AllReadyH.nil
   go_simp
   refine hK.out _ _ ?_ (fun hHeld => ?_)
   ·((try dsimp only); go_keep)
   clear hK K
   try simp only [Act.put, List.setIfInBounds_toArray, List.set_cons_zero, List.set_cons_succ]
   clear hHeld
   refine wpAnyH_ready (rs := [21]) (by kernel_rfl) (by simp) ?_
   refine AllReadyH.cons (i := 21) (by simp only [List.getElem?_toArray, List.getElem?_cons_succ, List.getElem?_cons_zero]; rfl) (fun K hK => ?_) AllReadyH.nil
   refine step_app (by rfl) _ _ _ (by rfl) _ _ _ (by rfl) (by rfl) HR3.out ?_
   refine hK.out _ _ ?_ (fun hHeld => ?_)
   ·((try dsimp only); go_keep)
   clear hK K
   try simp only [Act.put, List.setIfInBounds_toArray, List.set_cons_zero, List.set_cons_succ]
   refine tkT 22 ?_
   refine tkT 23 ?_
   clear hHeld
   refine wpAnyH_ready (rs := [24]) (by kernel_rfl) (by simp) ?_
   refine AllReadyH.cons (i := 24) (by simp only [List.getElem?_toArray, List.getElem?_cons_succ, List.getElem?_cons_zero]; rfl) (fun K hK => ?_) AllReadyH.nil
   go_simp
   refine hK.out _ _ ?_ (fun hHeld => ?_)
   ·((try dsimp only); go_keep)
   clear hK K
   try simp only [Act.put, List.setIfInBounds_toArray, List.set_cons_zero, List.set_cons_succ]
   refine wpAnyH_done (by kernel_rfl) ?_ _
   go_wp2
   go_meet
   exact ⟨_, _, HP.out⟩
  have q1 : (io == 34) = false := by simpa using h34
  have q2 : (io == 36) = false := by simpa using h36
  have hno : ¬ (io = 34 ∨ io = 36) := fun e => e.elim h34 h36
  by_cases h35 : io = 35 ∨ io = 37
  ·have HT1 : Hid (T = leaveP s) := by show _ = _; rw [HT.out, if_neg hno, if_pos h35]
   have HK : Hid (Calls Tryz.prog 110 #[.pointer (some ⟨G, 0, none⟩)] V fun e w' => e = .returned (.tuple #[]) ∧ Below E V w' ∧ (∀ k, k < V.heap.size → k ≠ G → k ≠ gi → w'.heap[k]? = V.heap[k]?) ∧ ∃ vs' vo', WS E G C n gi vs' vo' w' (leaveP s)) := leave_any E G C n gi vs vo s V HS1.out HOS.out hn (HQ.out h35)
   rcases h35 with h | h
   ·have q3 : (io == 35) = true := by simpa using h
    clear h h34 h36 hno
    go_wp2_with (go_at_call 110; refine HK.out.mono ?_; rintro e w1 ⟨rfl, hb1, hoff, vs', vo', hws⟩; have HP : Hid (PS E G C n gi w.heap.size L0 w T vs' vo' w1) := (by refine ⟨HB1.out.trans hb1, by rw [HT1.out]; exact hws, ?_, by omega, by omega⟩; rw [World.cell?_of_block (hoff w.heap.size (by have := HVS.out; omega) (by omega) (by omega))]; exact HVB.out); clear hb1 hoff hws)
    go_meet
    exact ⟨_, _, HP.out⟩
   ·have q3 : (io == 35) = false := by have : io ≠ 35 := (by omega); simpa using this
    have q4 : (io == 37) = true := by simpa using h
    clear h h34 h36 hno
    go_wp2_with (go_at_call 110; refine HK.out.mono ?_; rintro e w1 ⟨rfl, hb1, hoff, vs', vo', hws⟩; have HP : Hid (PS E G C n gi w.heap.size L0 w T vs' vo' w1) := (by refine ⟨HB1.out.trans hb1, by rw [HT1.out]; exact hws, ?_, by omega, by omega⟩; rw [World.cell?_of_block (hoff w.heap.size (by have := HVS.out; omega) (by omega) (by omega))]; exact HVB.out); clear hb1 hoff hws)
    go_meet
    exact ⟨_, _, HP.out⟩
  ·have HT1 : Hid (T = s) := by show _ = _; rw [HT.out, if_neg hno, if_neg h35]
   have q3 : (io == 35) = false := by have : io ≠ 35 := (fun e => h35 (.inl e)); simpa using this
   have q4 : (io == 37) = false := by have : io ≠ 37 := (fun e => h35 (.inr e)); simpa using this
   have HP : Hid (PS E G C n gi w.heap.size L0 w T vs vo V) := ⟨HB1.out, by rw [HT1.out]; exact HS1.out, HVB.out, by omega, by omega⟩
   clear h34 h35 h36 hno
   go_wp2
   go_meet
   exact ⟨_, _, HP.out⟩
 case rest =>
  obtain ⟨vs1, vo1, ps⟩ := hcut
  clear HS1 HB1 HVB z0 z1 z5 HVS HS HOS HM HQ HT
  have HPS : Hid (PS E G C n gi w.heap.size L0 w T vs1 vo1 wc) := ps
  have bx := ps.box
  have d1 := ps.st.c1
  have hX := ps.st.i
  obtain ⟨y0, y1, y5⟩ := HE.out wc ps.bel
  clear ps
  by_cases hz : L0 = 0
  ·have hz' : (L0 != 0) = false := by simpa using hz
   have hz2 : (L0 == 0) = true := by simpa using hz
   have HR1 : Hid (R = T) := by show _ = _; rw [HR.out, if_neg (fun e => e.1 hz)]
   clear hz
   go_wp2
   refine wp_region_held_drew (S := (fun v => v.cell? ⟨w.heap.size, 0, none⟩ = some (.int .i64 L0))) (by kernel_rfl) ?_ (fun hHeld => ?_)
   ·((try dsimp only); go_keep)
   refine tkT 0 ?_
   refine tkT 1 ?_
   refine tkT 2 ?_
   refine tkT 3 ?_
   refine tkK 4 ?_
   refine tkK 5 ?_
   refine tkK 6 ?_
   refine tkK 7 ?_
   refine tkK 8 ?_
   refine tkK 9 ?_
   refine tkK 10 ?_
   refine tkK 11 ?_
   refine tkK 12 ?_
   refine tkK 13 ?_
   refine tkK 14 ?_
   refine tkT 15 ?_
   refine wpAnyH_done (by kernel_rfl) ?_ _
   go_wp2
   first | go_end0 | (simp only [Exit.inBlock, Exit.then]; refine bodyPost_ret (results_none rfl _ _ _) rfl ?_) | refine bodyPost_ret (results_none rfl _ _ _) rfl ?_
   exact ⟨rfl, HPS.out.bel.drew, _, _, by rw [HR1.out]; exact HPS.out.st.below (bel_d _)⟩
  ·have hz' : (L0 != 0) = true := by simpa using hz
   have hz2 : (L0 == 0) = false := by simpa using hz
   obtain ⟨hD0, hDn⟩ := HD.out hz
   obtain ⟨x, rfl⟩ : ∃ x : Nat, D = (x : Int) := ⟨D.toNat, by omega⟩
   have hxn : x < n := by omega
   have v1 := hX.cell hxn
   have v2 := hX.frozen x
   rw [Int.toNat_natCast] at HR
   have HR1 : Hid (R = if x ∉ T.set then ⟨T.set ++ [x], T.opens⟩ else T) := by
    show _ = _
    rw [HR.out]
    by_cases hx : x ∈ T.set
    ·rw [if_neg (fun e => e.2 hx), if_neg (fun e => e hx)]
    ·rw [if_pos ⟨hz, hx⟩, if_pos hx]
   clear hX HR hz
   by_cases hx : x ∈ T.set
   ·have hdec : decide (x ∈ T.set) = true := by simpa using hx
    have HR2 : Hid (R = T) := by show _ = _; rw [HR1.out, if_neg (fun e => e hx)]
    rw [hdec] at v1
    clear HR1 hx
    go_wp2
    refine wp_region_held_drew (S := (fun v => v.cell? ⟨w.heap.size, 0, none⟩ = some (.int .i64 L0) ∧ v.cell? ⟨b, o + 1, none⟩ = some (.int .i64 (x : Int)) ∧ v.cell? ⟨G, 1, none⟩ = some (.slice (some ⟨gi, 0, none⟩) n n) ∧ v.cell? ⟨gi, x, none⟩ = some (.bool true))) (by kernel_rfl) ?_ (fun hHeld => ?_)
    ·((try dsimp only); go_keep)
    refine tkT 0 ?_
    refine tkT 1 ?_
    refine tkT 2 ?_
    refine tkT 3 ?_
    refine tkT 4 ?_
    refine tkT 5 ?_
    refine tkT 6 ?_
    refine tkT 7 ?_
    refine tkT 8 ?_
    refine tkT 9 ?_
    refine tkT 10 ?_
    refine tkT 11 ?_
    refine tkT 12 ?_
    refine tkT 13 ?_
    refine tkT 14 ?_
    refine tkT 15 ?_
    refine wpAnyH_done (by kernel_rfl) ?_ _
    go_wp2
    first | go_end0 | (simp only [Exit.inBlock, Exit.then]; refine bodyPost_ret (results_none rfl _ _ _) rfl ?_) | refine bodyPost_ret (results_none rfl _ _ _) rfl ?_
    exact ⟨rfl, HPS.out.bel.drew, _, _, by rw [HR2.out]; exact HPS.out.st.below (bel_d _)⟩
   ·have hdec : decide (x ∈ T.set) = false := by simpa using hx
    have HR2 : Hid (R = ⟨T.set ++ [x], T.opens⟩) := by show _ = _; rw [HR1.out, if_pos hx]
    rw [hdec] at v1
    have HNX : Hid (x ∉ T.set) := hx
    clear HR1 hx
    obtain ⟨V2, hV2⟩ : ∃ V2, (wc.setCell ⟨gi, x, none⟩ (.bool true)).drew.drew = V2 := ⟨_, rfl⟩
    have HV2 : Hid ((wc.setCell ⟨gi, x, none⟩ (.bool true)).drew.drew = V2) := hV2
    have hW2 : WX E G C n gi vs1 vo1 V2 T.set T.opens (fun j => if j = x then true else decide (j ∈ T.set)) := by rw [← hV2]; exact ((HPS.out.st.x.put x true).below (bel_d _)).below (bel_d _)
    have hB2 : Below E w V2 := by rw [← hV2]; exact (HPS.out.bel.setCell HPS.out.st.hgi _).drew.drew
    obtain ⟨g, cap, w3, hr, hb3, c32, f32, hw3⟩ := app_set hW2 (Nat.le_trans HOK.out.len hn) x
    have HR3 : Hid ((Builtin.append_ #[90, 90] 90 #[vs1, .slice (some ⟨V2.heap.size, 0, none⟩) 1 1]).run Tryz.prog ((V2.alloc (.cells #[.int .i64 (x : Int)] 3)).drew) = .ok (.slice (some ⟨g, 0, none⟩) (T.set.length + 1) cap) w3) := hr
    obtain ⟨_, u1, _⟩ := HE.out V2 hB2
    obtain ⟨_, u3, _⟩ := HE.out w3 (hB2.trans hb3)
    have u2 := hW2.c2
    have u4 : (V2.alloc (.cells #[.int .i64 (x : Int)] 3)).cell? ⟨G, 2, none⟩ = some vs1 := kc (bel_alloc _ _) u2
    have nG3 : G ≠ V2.heap.size := by have := hW2.g.lt; omega
    have nb3 : b ≠ V2.heap.size := by have := hW2.g.lt; have := hW2.hG; omega
    have HF : Hid (Below E w (w3.setCell ⟨G, 2, none⟩ (.slice (some ⟨g, 0, none⟩) (T.set.length + 1) cap)) ∧ WS E G C n gi (.slice (some ⟨g, 0, none⟩) (T.set.length + 1) cap) vo1 (w3.setCell ⟨G, 2, none⟩ (.slice (some ⟨g, 0, none⟩) (T.set.length + 1) cap)) R) := by
     refine ⟨(hB2.trans hb3).setCell hW2.hG _, ?_⟩
     rw [HR2.out]
     refine WX.st (s := ⟨T.set ++ [x], T.opens⟩) hw3 fun j _ => ?_
     by_cases hj : j = x
     ·subst hj; simp
     ·rw [if_neg hj]; simp [hj]
    have i5 : (0 : Int) ≤ (x : Int) := by omega
    have i6 : (x : Int) < (n : Int) := by omega
    clear hr hb3 hw3 hW2 hB2 hV2
    go_wp2
    refine wp_region_held_drew (S := (fun v => v.cell? ⟨w.heap.size, 0, none⟩ = some (.int .i64 L0) ∧ v.cell? ⟨b, o + 1, none⟩ = some (.int .i64 (x : Int)) ∧ v.cell? ⟨G, 1, none⟩ = some (.slice (some ⟨gi, 0, none⟩) n n) ∧ v.cell? ⟨gi, x, none⟩ = some (.bool false))) (by kernel_rfl) ?_ (fun hHeld => ?_)
    ·((try dsimp only); go_keep)
    refine tkT 0 ?_
    refine tkT 1 ?_
    refine tkT 2 ?_
    refine tkT 3 ?_
    refine tkT 4 ?_
    refine tkT 5 ?_
    refine tkT 6 ?_
    refine tkT 7 ?_
    refine tkT 8 ?_
    refine tkT 9 ?_
    refine tkT 10 ?_
    refine tkT 11 ?_
    refine tkT 12 ?_
    refine tkT 13 ?_
    refine tkT 14 ?_
    refine tkT 15 ?_
    refine wpAnyH_done (by kernel_rfl) ?_ _
    go_wp2
    refine wp_region_held_drew (S := (fun v => v.cell? ⟨b, o + 1, none⟩ = some (.int .i64 (x : Int)) ∧ v.cell? ⟨G, 1, none⟩ = some (.slice (some ⟨gi, 0, none⟩) n n))) (by kernel_rfl) ?_ (fun hHeld => ?_)
    ·((try dsimp only); go_keep)
    refine tkT 0 ?_
    refine tkT 1 ?_
    refine tkT 2 ?_
    refine tkT 3 ?_
    refine tkT 4 ?_
    refine tkT 5 ?_
    refine tkT 6 ?_
    refine tkT 7 ?_
    refine tkT 8 ?_
    clear hHeld
    refine wpAnyH_ready (rs := [9]) (by kernel_rfl) (by simp) ?_
    refine AllReadyH.cons (i := 9) (by simp only [List.getElem?_toArray, List.getElem?_cons_succ, List.getElem?_cons_zero]; rfl) (fun K hK => ?_) AllReadyH.nil
    go_simp
    refine hK.out _ _ ?_ (fun hHeld => ?_)
    ·((try dsimp only); go_keep)
    clear hK K
    try simp only [Act.put, List.setIfInBounds_toArray, List.set_cons_zero, List.set_cons_succ]
    refine wpAnyH_done (by kernel_rfl) ?_ _
    go_wp2
    rw [HV2.out]
    refine wp_region_held_drew (S := (fun v => v.cell? ⟨b, o + 1, none⟩ = some (.int .i64 (x : Int)))) (by kernel_rfl) ?_ (fun hHeld => ?_)
    ·((try dsimp only); go_keep)
    refine tkT 0 ?_
    refine tkT 1 ?_
    refine tkT 2 ?_
    refine tkT 3 ?_
    refine tkT 5 ?_
    refine tkT 6 ?_
    refine tkT 7 ?_
    refine tkT 8 ?_
    clear hHeld
    refine wpAnyH_ready (rs := [4, 9]) (by kernel_rfl) (by simp) ?_
    refine AllReadyH.cons (i := 4) (by simp only [List.getElem?_toArray, List.getElem?_cons_succ, List.getElem?_cons_zero]; rfl) (fun K hK => ?_) ?_
    ·go_simp
     refine hK.out _ _ ?_ (fun hHeld => ?_)
     ·((try dsimp only); go_keep)
     clear hK K
     try simp only [Act.put, List.setIfInBounds_toArray, List.set_cons_zero, List.set_cons_succ]
     clear hHeld
     refine wpAnyH_ready (rs := [9]) (by kernel_rfl) (by simp) ?_
     refine AllReadyH.cons (i := 9) (by simp only [List.getElem?_toArray, List.getElem?_cons_succ, List.getElem?_cons_zero]; rfl) (fun K hK => ?_) AllReadyH.nil
     go_simp
     refine hK.out _ _ ?_ (fun hHeld => ?_)
     ·((try dsimp only); go_keep)
     clear hK K
     try simp only [Act.put, List.setIfInBounds_toArray, List.set_cons_zero, List.set_cons_succ]
     clear hHeld
     refine wpAnyH_ready (rs := [10]) (by kernel_rfl) (by simp) ?_
     refine AllReadyH.cons (i := 10) (by simp only [List.getElem?_toArray, List.getElem?_cons_succ, List.getElem?_cons_zero]; rfl) (fun K hK => ?_) AllReadyH.nil
     refine step_app (by rfl) _ _ _ (by rfl) _ _ _ (by rfl) (by rfl) HR3.out ?_
     refine hK.out _ _ ?_ (fun hHeld => ?_)
     ·((try dsimp only); go_keep)
     clear hK K
     try simp only [Act.put, List.setIfInBounds_toArray, List.set_cons_zero, List.set_cons_succ]
     refine tkT 11 ?_
     refine tkT 12 ?_
     clear hHeld
     refine wpAnyH_ready (rs := [13]) (by kernel_rfl) (by simp) ?_
     refine AllReadyH.cons (i := 13) (by simp only [List.getElem?_toArray, List.getElem?_cons_succ, List.getElem?_cons_zero]; rfl) (fun K hK => ?_) AllReadyH.nil
     go_simp
     refine hK.out _ _ ?_ (fun hHeld => ?_)
     ·((try dsimp only); go_keep)
     clear hK K
     try simp only [Act.put, List.setIfInBounds_toArray, List.set_cons_zero, List.set_cons_succ]
     refine wpAnyH_done (by kernel_rfl) ?_ _
     go_wp2
     first | go_end0 | (simp only [Exit.inBlock, Exit.then]; refine bodyPost_ret (results_none rfl _ _ _) rfl ?_) | refine bodyPost_ret (results_none rfl _ _ _) rfl ?_
     exact ⟨rfl, HF.out.1, _, _, HF.out.2⟩
    refine AllReadyH.cons (i := 9) (by simp only [List.getElem?_toArray, List.getElem?_cons_succ, List.getElem?_cons_zero]; rfl) (fun K hK => ?_) AllReadyH.nil
    go_simp
    refine hK.out _ _ ?_ (fun hHeld => ?_)
    ·((try dsimp only); go_keep)
    clear hK K
    try simp only [Act.put, List.setIfInBounds_toArray, List.set_cons_zero, List.set_cons_succ]
    clear hHeld
    refine wpAnyH_ready (rs := [4]) (by kernel_rfl) (by simp) ?_
    refine AllReadyH.cons (i := 4) (by simp only [List.getElem?_toArray, List.getElem?_cons_succ, List.getElem?_cons_zero]; rfl) (fun K hK => ?_) AllReadyH.nil
    go_simp
    refine hK.out _ _ ?_ (fun hHeld => ?_)
    ·((try dsimp only); go_keep)
    clear hK K
    try simp only [Act.put, List.setIfInBounds_toArray, List.set_cons_zero, List.set_cons_succ]
    clear hHeld
    refine wpAnyH_ready (rs := [10]) (by kernel_rfl) (by simp) ?_
    refine AllReadyH.cons (i := 10) (by simp only [List.getElem?_toArray, List.getElem?_cons_succ, List.getElem?_cons_zero]; rfl) (fun K hK => ?_) AllReadyH.nil
    refine step_app (by rfl) _ _ _ (by rfl) _ _ _ (by rfl) (by rfl) HR3.out ?_
    refine hK.out _ _ ?_ (fun hHeld => ?_)
    ·((try dsimp only); go_keep)
    clear hK K
    try simp only [Act.put, List.setIfInBounds_toArray, List.set_cons_zero, List.set_cons_succ]
    refine tkT 11 ?_
    refine tkT 12 ?_
    clear hHeld
    refine wpAnyH_ready (rs := [13]) (by kernel_rfl) (by simp) ?_
    refine AllReadyH.cons (i := 13) (by simp only [List.getElem?_toArray, List.getElem?_cons_succ, List.getElem?_cons_zero]; rfl) (fun K hK => ?_) AllReadyH.nil
    go_simp
    refine hK.out _ _ ?_ (fun hHeld => ?_)
    ·((try dsimp only); go_keep)
    clear hK K
    try simp only [Act.put, List.setIfInBounds_toArray, List.set_cons_zero, List.set_cons_succ]
    refine wpAnyH_done (by kernel_rfl) ?_ _
    go_wp2
    first | go_end0 | (simp only [Exit.inBlock, Exit.then]; refine bodyPost_ret (results_none rfl _ _ _) rfl ?_) | refine bodyPost_ret (results_none rfl _ _ _) rfl ?_
    exact ⟨rfl, HF.out.1, _, _, HF.out.2⟩
end Go.Proofs.YtgcmnkanjcfndaaGreatDoor
namespace Go.Proofs.YtgcmnkanjcfndaaGreatDoor
open Go.RowKit
set_option linter.unusedVariables false
set_option linter.unusedSimpArgs false
set_option maxRecDepth 100000 in
set_option maxHeartbeats 2000000 in
theorem rowOf_1 (w : World) : Calls Tryz.prog 72 #[.int .i64 1] w fun e w' => e = .returned (.tuple #[rwV (rowP 1), .bool true]) ∧ Below w.heap.size w w' := by
 go_enter Tryz.func72, Tryz.ntmps72
 go_wp2
 refine bodyPost_ret (by simp [results, Tryz.results72, go_sem]; try rfl) rfl ?_
 exact ⟨rfl, by go_grown⟩
set_option maxRecDepth 100000 in
set_option maxHeartbeats 2000000 in
theorem rowOf_2 (w : World) : Calls Tryz.prog 72 #[.int .i64 2] w fun e w' => e = .returned (.tuple #[rwV (rowP 2), .bool true]) ∧ Below w.heap.size w w' := by
 go_enter Tryz.func72, Tryz.ntmps72
 go_wp2
 refine bodyPost_ret (by simp [results, Tryz.results72, go_sem]; try rfl) rfl ?_
 exact ⟨rfl, by go_grown⟩
set_option maxRecDepth 100000 in
set_option maxHeartbeats 2000000 in
theorem rowOf_3 (w : World) : Calls Tryz.prog 72 #[.int .i64 3] w fun e w' => e = .returned (.tuple #[rwV (rowP 3), .bool true]) ∧ Below w.heap.size w w' := by
 go_enter Tryz.func72, Tryz.ntmps72
 go_wp2
 refine bodyPost_ret (by simp [results, Tryz.results72, go_sem]; try rfl) rfl ?_
 exact ⟨rfl, by go_grown⟩
set_option maxRecDepth 100000 in
set_option maxHeartbeats 2000000 in
theorem rowOf_4 (w : World) : Calls Tryz.prog 72 #[.int .i64 4] w fun e w' => e = .returned (.tuple #[rwV (rowP 4), .bool true]) ∧ Below w.heap.size w w' := by
 go_enter Tryz.func72, Tryz.ntmps72
 go_wp2
 refine bodyPost_ret (by simp [results, Tryz.results72, go_sem]; try rfl) rfl ?_
 exact ⟨rfl, by go_grown⟩
set_option maxRecDepth 100000 in
set_option maxHeartbeats 2000000 in
theorem rowOf_5 (w : World) : Calls Tryz.prog 72 #[.int .i64 5] w fun e w' => e = .returned (.tuple #[rwV (rowP 5), .bool true]) ∧ Below w.heap.size w w' := by
 go_enter Tryz.func72, Tryz.ntmps72
 go_wp2
 refine bodyPost_ret (by simp [results, Tryz.results72, go_sem]; try rfl) rfl ?_
 exact ⟨rfl, by go_grown⟩
set_option maxRecDepth 100000 in
set_option maxHeartbeats 2000000 in
theorem rowOf_6 (w : World) : Calls Tryz.prog 72 #[.int .i64 6] w fun e w' => e = .returned (.tuple #[rwV (rowP 6), .bool true]) ∧ Below w.heap.size w w' := by
 go_enter Tryz.func72, Tryz.ntmps72
 go_wp2
 refine bodyPost_ret (by simp [results, Tryz.results72, go_sem]; try rfl) rfl ?_
 exact ⟨rfl, by go_grown⟩
set_option maxRecDepth 100000 in
set_option maxHeartbeats 2000000 in
theorem rowOf_7 (w : World) : Calls Tryz.prog 72 #[.int .i64 7] w fun e w' => e = .returned (.tuple #[rwV (rowP 7), .bool true]) ∧ Below w.heap.size w w' := by
 go_enter Tryz.func72, Tryz.ntmps72
 go_wp2
 refine bodyPost_ret (by simp [results, Tryz.results72, go_sem]; try rfl) rfl ?_
 exact ⟨rfl, by go_grown⟩
set_option maxRecDepth 100000 in
set_option maxHeartbeats 2000000 in
theorem rowOf_8 (w : World) : Calls Tryz.prog 72 #[.int .i64 8] w fun e w' => e = .returned (.tuple #[rwV (rowP 8), .bool true]) ∧ Below w.heap.size w w' := by
 go_enter Tryz.func72, Tryz.ntmps72
 go_wp2
 refine bodyPost_ret (by simp [results, Tryz.results72, go_sem]; try rfl) rfl ?_
 exact ⟨rfl, by go_grown⟩
set_option maxRecDepth 100000 in
set_option maxHeartbeats 2000000 in
theorem rowOf_9 (w : World) : Calls Tryz.prog 72 #[.int .i64 9] w fun e w' => e = .returned (.tuple #[rwV (rowP 9), .bool true]) ∧ Below w.heap.size w w' := by
 go_enter Tryz.func72, Tryz.ntmps72
 go_wp2
 refine bodyPost_ret (by simp [results, Tryz.results72, go_sem]; try rfl) rfl ?_
 exact ⟨rfl, by go_grown⟩
set_option maxRecDepth 100000 in
set_option maxHeartbeats 2000000 in
theorem rowOf_10 (w : World) : Calls Tryz.prog 72 #[.int .i64 10] w fun e w' => e = .returned (.tuple #[rwV (rowP 10), .bool true]) ∧ Below w.heap.size w w' := by
 go_enter Tryz.func72, Tryz.ntmps72
 go_wp2
 refine bodyPost_ret (by simp [results, Tryz.results72, go_sem]; try rfl) rfl ?_
 exact ⟨rfl, by go_grown⟩
set_option maxRecDepth 100000 in
set_option maxHeartbeats 2000000 in
theorem rowOf_11 (w : World) : Calls Tryz.prog 72 #[.int .i64 11] w fun e w' => e = .returned (.tuple #[rwV (rowP 11), .bool true]) ∧ Below w.heap.size w w' := by
 go_enter Tryz.func72, Tryz.ntmps72
 go_wp2
 refine bodyPost_ret (by simp [results, Tryz.results72, go_sem]; try rfl) rfl ?_
 exact ⟨rfl, by go_grown⟩
set_option maxRecDepth 100000 in
set_option maxHeartbeats 2000000 in
theorem rowOf_12 (w : World) : Calls Tryz.prog 72 #[.int .i64 12] w fun e w' => e = .returned (.tuple #[rwV (rowP 12), .bool true]) ∧ Below w.heap.size w w' := by
 go_enter Tryz.func72, Tryz.ntmps72
 go_wp2
 refine bodyPost_ret (by simp [results, Tryz.results72, go_sem]; try rfl) rfl ?_
 exact ⟨rfl, by go_grown⟩
end Go.Proofs.YtgcmnkanjcfndaaGreatDoor
namespace Go.Proofs.YtgcmnkanjcfndaaGreatDoor
open Go.RowKit
set_option linter.unusedVariables false
set_option linter.unusedSimpArgs false
set_option maxRecDepth 100000 in
set_option maxHeartbeats 2000000 in
theorem rowOf_13 (w : World) : Calls Tryz.prog 72 #[.int .i64 13] w fun e w' => e = .returned (.tuple #[rwV (rowP 13), .bool true]) ∧ Below w.heap.size w w' := by
 go_enter Tryz.func72, Tryz.ntmps72
 go_wp2
 refine bodyPost_ret (by simp [results, Tryz.results72, go_sem]; try rfl) rfl ?_
 exact ⟨rfl, by go_grown⟩
set_option maxRecDepth 100000 in
set_option maxHeartbeats 2000000 in
theorem rowOf_14 (w : World) : Calls Tryz.prog 72 #[.int .i64 14] w fun e w' => e = .returned (.tuple #[rwV (rowP 14), .bool true]) ∧ Below w.heap.size w w' := by
 go_enter Tryz.func72, Tryz.ntmps72
 go_wp2
 refine bodyPost_ret (by simp [results, Tryz.results72, go_sem]; try rfl) rfl ?_
 exact ⟨rfl, by go_grown⟩
set_option maxRecDepth 100000 in
set_option maxHeartbeats 2000000 in
theorem rowOf_15 (w : World) : Calls Tryz.prog 72 #[.int .i64 15] w fun e w' => e = .returned (.tuple #[rwV (rowP 15), .bool true]) ∧ Below w.heap.size w w' := by
 go_enter Tryz.func72, Tryz.ntmps72
 go_wp2
 refine bodyPost_ret (by simp [results, Tryz.results72, go_sem]; try rfl) rfl ?_
 exact ⟨rfl, by go_grown⟩
set_option maxRecDepth 100000 in
set_option maxHeartbeats 2000000 in
theorem rowOf_16 (w : World) : Calls Tryz.prog 72 #[.int .i64 16] w fun e w' => e = .returned (.tuple #[rwV (rowP 16), .bool true]) ∧ Below w.heap.size w w' := by
 go_enter Tryz.func72, Tryz.ntmps72
 go_wp2
 refine bodyPost_ret (by simp [results, Tryz.results72, go_sem]; try rfl) rfl ?_
 exact ⟨rfl, by go_grown⟩
set_option maxRecDepth 100000 in
set_option maxHeartbeats 2000000 in
theorem rowOf_17 (w : World) : Calls Tryz.prog 72 #[.int .i64 17] w fun e w' => e = .returned (.tuple #[rwV (rowP 17), .bool true]) ∧ Below w.heap.size w w' := by
 go_enter Tryz.func72, Tryz.ntmps72
 go_wp2
 refine bodyPost_ret (by simp [results, Tryz.results72, go_sem]; try rfl) rfl ?_
 exact ⟨rfl, by go_grown⟩
set_option maxRecDepth 100000 in
set_option maxHeartbeats 2000000 in
theorem rowOf_18 (w : World) : Calls Tryz.prog 72 #[.int .i64 18] w fun e w' => e = .returned (.tuple #[rwV (rowP 18), .bool true]) ∧ Below w.heap.size w w' := by
 go_enter Tryz.func72, Tryz.ntmps72
 go_wp2
 refine bodyPost_ret (by simp [results, Tryz.results72, go_sem]; try rfl) rfl ?_
 exact ⟨rfl, by go_grown⟩
set_option maxRecDepth 100000 in
set_option maxHeartbeats 2000000 in
theorem rowOf_19 (w : World) : Calls Tryz.prog 72 #[.int .i64 19] w fun e w' => e = .returned (.tuple #[rwV (rowP 19), .bool true]) ∧ Below w.heap.size w w' := by
 go_enter Tryz.func72, Tryz.ntmps72
 go_wp2
 refine bodyPost_ret (by simp [results, Tryz.results72, go_sem]; try rfl) rfl ?_
 exact ⟨rfl, by go_grown⟩
set_option maxRecDepth 100000 in
set_option maxHeartbeats 2000000 in
theorem rowOf_20 (w : World) : Calls Tryz.prog 72 #[.int .i64 20] w fun e w' => e = .returned (.tuple #[rwV (rowP 20), .bool true]) ∧ Below w.heap.size w w' := by
 go_enter Tryz.func72, Tryz.ntmps72
 go_wp2
 refine bodyPost_ret (by simp [results, Tryz.results72, go_sem]; try rfl) rfl ?_
 exact ⟨rfl, by go_grown⟩
set_option maxRecDepth 100000 in
set_option maxHeartbeats 2000000 in
theorem rowOf_21 (w : World) : Calls Tryz.prog 72 #[.int .i64 21] w fun e w' => e = .returned (.tuple #[rwV (rowP 21), .bool true]) ∧ Below w.heap.size w w' := by
 go_enter Tryz.func72, Tryz.ntmps72
 go_wp2
 refine bodyPost_ret (by simp [results, Tryz.results72, go_sem]; try rfl) rfl ?_
 exact ⟨rfl, by go_grown⟩
end Go.Proofs.YtgcmnkanjcfndaaGreatDoor
namespace Go.Proofs.YtgcmnkanjcfndaaGreatDoor
open Go.RowKit
set_option linter.unusedVariables false
set_option linter.unusedSimpArgs false
set_option maxRecDepth 100000 in
set_option maxHeartbeats 2000000 in
theorem rowOf_22 (w : World) : Calls Tryz.prog 72 #[.int .i64 22] w fun e w' => e = .returned (.tuple #[rwV (rowP 22), .bool true]) ∧ Below w.heap.size w w' := by
 go_enter Tryz.func72, Tryz.ntmps72
 go_wp2
 refine bodyPost_ret (by simp [results, Tryz.results72, go_sem]; try rfl) rfl ?_
 exact ⟨rfl, by go_grown⟩
set_option maxRecDepth 100000 in
set_option maxHeartbeats 2000000 in
theorem rowOf_23 (w : World) : Calls Tryz.prog 72 #[.int .i64 23] w fun e w' => e = .returned (.tuple #[rwV (rowP 23), .bool true]) ∧ Below w.heap.size w w' := by
 go_enter Tryz.func72, Tryz.ntmps72
 go_wp2
 refine bodyPost_ret (by simp [results, Tryz.results72, go_sem]; try rfl) rfl ?_
 exact ⟨rfl, by go_grown⟩
set_option maxRecDepth 100000 in
set_option maxHeartbeats 2000000 in
theorem rowOf_24 (w : World) : Calls Tryz.prog 72 #[.int .i64 24] w fun e w' => e = .returned (.tuple #[rwV (rowP 24), .bool true]) ∧ Below w.heap.size w w' := by
 go_enter Tryz.func72, Tryz.ntmps72
 go_wp2
 refine bodyPost_ret (by simp [results, Tryz.results72, go_sem]; try rfl) rfl ?_
 exact ⟨rfl, by go_grown⟩
set_option maxRecDepth 100000 in
set_option maxHeartbeats 2000000 in
theorem rowOf_25 (w : World) : Calls Tryz.prog 72 #[.int .i64 25] w fun e w' => e = .returned (.tuple #[rwV (rowP 25), .bool true]) ∧ Below w.heap.size w w' := by
 go_enter Tryz.func72, Tryz.ntmps72
 go_wp2
 refine bodyPost_ret (by simp [results, Tryz.results72, go_sem]; try rfl) rfl ?_
 exact ⟨rfl, by go_grown⟩
set_option maxRecDepth 100000 in
set_option maxHeartbeats 2000000 in
theorem rowOf_26 (w : World) : Calls Tryz.prog 72 #[.int .i64 26] w fun e w' => e = .returned (.tuple #[rwV (rowP 26), .bool true]) ∧ Below w.heap.size w w' := by
 go_enter Tryz.func72, Tryz.ntmps72
 go_wp2
 refine bodyPost_ret (by simp [results, Tryz.results72, go_sem]; try rfl) rfl ?_
 exact ⟨rfl, by go_grown⟩
set_option maxRecDepth 100000 in
set_option maxHeartbeats 2000000 in
theorem rowOf_27 (w : World) : Calls Tryz.prog 72 #[.int .i64 27] w fun e w' => e = .returned (.tuple #[rwV (rowP 27), .bool true]) ∧ Below w.heap.size w w' := by
 go_enter Tryz.func72, Tryz.ntmps72
 go_wp2
 refine bodyPost_ret (by simp [results, Tryz.results72, go_sem]; try rfl) rfl ?_
 exact ⟨rfl, by go_grown⟩
set_option maxRecDepth 100000 in
set_option maxHeartbeats 2000000 in
theorem rowOf_28 (w : World) : Calls Tryz.prog 72 #[.int .i64 28] w fun e w' => e = .returned (.tuple #[rwV (rowP 28), .bool true]) ∧ Below w.heap.size w w' := by
 go_enter Tryz.func72, Tryz.ntmps72
 go_wp2
 refine bodyPost_ret (by simp [results, Tryz.results72, go_sem]; try rfl) rfl ?_
 exact ⟨rfl, by go_grown⟩
set_option maxRecDepth 100000 in
set_option maxHeartbeats 2000000 in
theorem rowOf_29 (w : World) : Calls Tryz.prog 72 #[.int .i64 29] w fun e w' => e = .returned (.tuple #[rwV (rowP 29), .bool true]) ∧ Below w.heap.size w w' := by
 go_enter Tryz.func72, Tryz.ntmps72
 go_wp2
 refine bodyPost_ret (by simp [results, Tryz.results72, go_sem]; try rfl) rfl ?_
 exact ⟨rfl, by go_grown⟩
end Go.Proofs.YtgcmnkanjcfndaaGreatDoor
namespace Go.Proofs.YtgcmnkanjcfndaaGreatDoor
open Go.RowKit
set_option linter.unusedVariables false
set_option linter.unusedSimpArgs false
set_option maxRecDepth 100000 in
set_option maxHeartbeats 2000000 in
theorem rowOf_30 (w : World) : Calls Tryz.prog 72 #[.int .i64 30] w fun e w' => e = .returned (.tuple #[rwV (rowP 30), .bool true]) ∧ Below w.heap.size w w' := by
 go_enter Tryz.func72, Tryz.ntmps72
 go_wp2
 refine bodyPost_ret (by simp [results, Tryz.results72, go_sem]; try rfl) rfl ?_
 exact ⟨rfl, by go_grown⟩
set_option maxRecDepth 100000 in
set_option maxHeartbeats 2000000 in
theorem rowOf_31 (w : World) : Calls Tryz.prog 72 #[.int .i64 31] w fun e w' => e = .returned (.tuple #[rwV (rowP 31), .bool true]) ∧ Below w.heap.size w w' := by
 go_enter Tryz.func72, Tryz.ntmps72
 go_wp2
 refine bodyPost_ret (by simp [results, Tryz.results72, go_sem]; try rfl) rfl ?_
 exact ⟨rfl, by go_grown⟩
set_option maxRecDepth 100000 in
set_option maxHeartbeats 2000000 in
theorem rowOf_32 (w : World) : Calls Tryz.prog 72 #[.int .i64 32] w fun e w' => e = .returned (.tuple #[rwV (rowP 32), .bool true]) ∧ Below w.heap.size w w' := by
 go_enter Tryz.func72, Tryz.ntmps72
 go_wp2
 refine bodyPost_ret (by simp [results, Tryz.results72, go_sem]; try rfl) rfl ?_
 exact ⟨rfl, by go_grown⟩
set_option maxRecDepth 100000 in
set_option maxHeartbeats 2000000 in
theorem rowOf_33 (w : World) : Calls Tryz.prog 72 #[.int .i64 33] w fun e w' => e = .returned (.tuple #[rwV (rowP 33), .bool true]) ∧ Below w.heap.size w w' := by
 go_enter Tryz.func72, Tryz.ntmps72
 go_wp2
 refine bodyPost_ret (by simp [results, Tryz.results72, go_sem]; try rfl) rfl ?_
 exact ⟨rfl, by go_grown⟩
set_option maxRecDepth 100000 in
set_option maxHeartbeats 2000000 in
theorem rowOf_34 (w : World) : Calls Tryz.prog 72 #[.int .i64 34] w fun e w' => e = .returned (.tuple #[rwV (rowP 34), .bool true]) ∧ Below w.heap.size w w' := by
 go_enter Tryz.func72, Tryz.ntmps72
 go_wp2
 refine bodyPost_ret (by simp [results, Tryz.results72, go_sem]; try rfl) rfl ?_
 exact ⟨rfl, by go_grown⟩
set_option maxRecDepth 100000 in
set_option maxHeartbeats 2000000 in
theorem rowOf_35 (w : World) : Calls Tryz.prog 72 #[.int .i64 35] w fun e w' => e = .returned (.tuple #[rwV (rowP 35), .bool true]) ∧ Below w.heap.size w w' := by
 go_enter Tryz.func72, Tryz.ntmps72
 go_wp2
 refine bodyPost_ret (by simp [results, Tryz.results72, go_sem]; try rfl) rfl ?_
 exact ⟨rfl, by go_grown⟩
set_option maxRecDepth 100000 in
set_option maxHeartbeats 2000000 in
theorem rowOf_36 (w : World) : Calls Tryz.prog 72 #[.int .i64 36] w fun e w' => e = .returned (.tuple #[rwV (rowP 36), .bool true]) ∧ Below w.heap.size w w' := by
 go_enter Tryz.func72, Tryz.ntmps72
 go_wp2
 refine bodyPost_ret (by simp [results, Tryz.results72, go_sem]; try rfl) rfl ?_
 exact ⟨rfl, by go_grown⟩
set_option maxRecDepth 100000 in
set_option maxHeartbeats 2000000 in
theorem rowOf_37 (w : World) : Calls Tryz.prog 72 #[.int .i64 37] w fun e w' => e = .returned (.tuple #[rwV (rowP 37), .bool true]) ∧ Below w.heap.size w w' := by
 go_enter Tryz.func72, Tryz.ntmps72
 go_wp2
 refine bodyPost_ret (by simp [results, Tryz.results72, go_sem]; try rfl) rfl ?_
 exact ⟨rfl, by go_grown⟩
end Go.Proofs.YtgcmnkanjcfndaaGreatDoor
namespace Go.Proofs.YtgcmnkanjcfndaaGreatDoor
open Go.RowKit
set_option linter.unusedVariables false
set_option linter.unusedSimpArgs false
set_option maxRecDepth 100000 in
set_option maxHeartbeats 2000000 in
theorem rowOf_none (op : Int) (h : knownP op = false) (w : World) : Calls Tryz.prog 72 #[.int .i64 op] w fun e w' => e = .returned (.tuple #[rwV ⟨0, 0, 0, 0, 0⟩, .bool false]) ∧ Below w.heap.size w w' := by
 have hh : op < 1 ∨ 37 < op := by unfold knownP at h; simp at h; omega
 have e1 : (op == 1) = false := by have : op ≠ 1 := (by omega); simpa using this
 have e2 : (op == 2) = false := by have : op ≠ 2 := (by omega); simpa using this
 have e3 : (op == 3) = false := by have : op ≠ 3 := (by omega); simpa using this
 have e4 : (op == 4) = false := by have : op ≠ 4 := (by omega); simpa using this
 have e5 : (op == 5) = false := by have : op ≠ 5 := (by omega); simpa using this
 have e6 : (op == 6) = false := by have : op ≠ 6 := (by omega); simpa using this
 have e7 : (op == 7) = false := by have : op ≠ 7 := (by omega); simpa using this
 have e8 : (op == 8) = false := by have : op ≠ 8 := (by omega); simpa using this
 have e9 : (op == 9) = false := by have : op ≠ 9 := (by omega); simpa using this
 have e10 : (op == 10) = false := by have : op ≠ 10 := (by omega); simpa using this
 have e11 : (op == 11) = false := by have : op ≠ 11 := (by omega); simpa using this
 have e12 : (op == 12) = false := by have : op ≠ 12 := (by omega); simpa using this
 have e13 : (op == 13) = false := by have : op ≠ 13 := (by omega); simpa using this
 have e14 : (op == 14) = false := by have : op ≠ 14 := (by omega); simpa using this
 have e15 : (op == 15) = false := by have : op ≠ 15 := (by omega); simpa using this
 have e16 : (op == 16) = false := by have : op ≠ 16 := (by omega); simpa using this
 have e17 : (op == 17) = false := by have : op ≠ 17 := (by omega); simpa using this
 have e18 : (op == 18) = false := by have : op ≠ 18 := (by omega); simpa using this
 have e19 : (op == 19) = false := by have : op ≠ 19 := (by omega); simpa using this
 have e20 : (op == 20) = false := by have : op ≠ 20 := (by omega); simpa using this
 have e21 : (op == 21) = false := by have : op ≠ 21 := (by omega); simpa using this
 have e22 : (op == 22) = false := by have : op ≠ 22 := (by omega); simpa using this
 have e23 : (op == 23) = false := by have : op ≠ 23 := (by omega); simpa using this
 have e24 : (op == 24) = false := by have : op ≠ 24 := (by omega); simpa using this
 have e25 : (op == 25) = false := by have : op ≠ 25 := (by omega); simpa using this
 have e26 : (op == 26) = false := by have : op ≠ 26 := (by omega); simpa using this
 have e27 : (op == 27) = false := by have : op ≠ 27 := (by omega); simpa using this
 have e28 : (op == 28) = false := by have : op ≠ 28 := (by omega); simpa using this
 have e29 : (op == 29) = false := by have : op ≠ 29 := (by omega); simpa using this
 have e30 : (op == 30) = false := by have : op ≠ 30 := (by omega); simpa using this
 have e31 : (op == 31) = false := by have : op ≠ 31 := (by omega); simpa using this
 have e32 : (op == 32) = false := by have : op ≠ 32 := (by omega); simpa using this
 have e33 : (op == 33) = false := by have : op ≠ 33 := (by omega); simpa using this
 have e34 : (op == 34) = false := by have : op ≠ 34 := (by omega); simpa using this
 have e35 : (op == 35) = false := by have : op ≠ 35 := (by omega); simpa using this
 have e36 : (op == 36) = false := by have : op ≠ 36 := (by omega); simpa using this
 have e37 : (op == 37) = false := by have : op ≠ 37 := (by omega); simpa using this
 clear hh h
 go_enter Tryz.func72, Tryz.ntmps72
 go_wp2
 refine bodyPost_ret (by simp [results, Tryz.results72, go_sem]; try rfl) rfl ?_
 exact ⟨rfl, by go_grown⟩
theorem row_none (op : Int) (h : knownP op = false) : rowP op = ⟨0, 0, 0, 0, 0⟩ := by
 have hh : op < 1 ∨ 37 < op := by unfold knownP at h; simp at h; omega
 unfold rowP
 repeat rw [if_neg (by omega)]
theorem rowOf_any (op : Int) (w : World) : Calls Tryz.prog 72 #[.int .i64 op] w fun e w' => e = .returned (.tuple #[rwV (rowP op), .bool (knownP op)]) ∧ Below w.heap.size w w' := by
 by_cases h : knownP op = false
 ·rw [h, row_none op h]; exact rowOf_none op h w
 ·have hh : 1 ≤ op ∧ op ≤ 37 := by unfold knownP at h; simp at h; omega
  rw [show knownP op = true by simpa using h]
  clear h
  by_cases k1 : op = 1
  ·subst k1; exact rowOf_1 w
  by_cases k2 : op = 2
  ·subst k2; exact rowOf_2 w
  by_cases k3 : op = 3
  ·subst k3; exact rowOf_3 w
  by_cases k4 : op = 4
  ·subst k4; exact rowOf_4 w
  by_cases k5 : op = 5
  ·subst k5; exact rowOf_5 w
  by_cases k6 : op = 6
  ·subst k6; exact rowOf_6 w
  by_cases k7 : op = 7
  ·subst k7; exact rowOf_7 w
  by_cases k8 : op = 8
  ·subst k8; exact rowOf_8 w
  by_cases k9 : op = 9
  ·subst k9; exact rowOf_9 w
  by_cases k10 : op = 10
  ·subst k10; exact rowOf_10 w
  by_cases k11 : op = 11
  ·subst k11; exact rowOf_11 w
  by_cases k12 : op = 12
  ·subst k12; exact rowOf_12 w
  by_cases k13 : op = 13
  ·subst k13; exact rowOf_13 w
  by_cases k14 : op = 14
  ·subst k14; exact rowOf_14 w
  by_cases k15 : op = 15
  ·subst k15; exact rowOf_15 w
  by_cases k16 : op = 16
  ·subst k16; exact rowOf_16 w
  by_cases k17 : op = 17
  ·subst k17; exact rowOf_17 w
  by_cases k18 : op = 18
  ·subst k18; exact rowOf_18 w
  by_cases k19 : op = 19
  ·subst k19; exact rowOf_19 w
  by_cases k20 : op = 20
  ·subst k20; exact rowOf_20 w
  by_cases k21 : op = 21
  ·subst k21; exact rowOf_21 w
  by_cases k22 : op = 22
  ·subst k22; exact rowOf_22 w
  by_cases k23 : op = 23
  ·subst k23; exact rowOf_23 w
  by_cases k24 : op = 24
  ·subst k24; exact rowOf_24 w
  by_cases k25 : op = 25
  ·subst k25; exact rowOf_25 w
  by_cases k26 : op = 26
  ·subst k26; exact rowOf_26 w
  by_cases k27 : op = 27
  ·subst k27; exact rowOf_27 w
  by_cases k28 : op = 28
  ·subst k28; exact rowOf_28 w
  by_cases k29 : op = 29
  ·subst k29; exact rowOf_29 w
  by_cases k30 : op = 30
  ·subst k30; exact rowOf_30 w
  by_cases k31 : op = 31
  ·subst k31; exact rowOf_31 w
  by_cases k32 : op = 32
  ·subst k32; exact rowOf_32 w
  by_cases k33 : op = 33
  ·subst k33; exact rowOf_33 w
  by_cases k34 : op = 34
  ·subst k34; exact rowOf_34 w
  by_cases k35 : op = 35
  ·subst k35; exact rowOf_35 w
  by_cases k36 : op = 36
  ·subst k36; exact rowOf_36 w
  by_cases k37 : op = 37
  ·subst k37; exact rowOf_37 w
  omega
end Go.Proofs.YtgcmnkanjcfndaaGreatDoor
