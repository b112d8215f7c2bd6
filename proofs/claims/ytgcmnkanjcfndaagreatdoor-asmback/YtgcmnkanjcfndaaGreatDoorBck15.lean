import Derived.Test.YtgcmnkanjcfndaaGreatDoorBck1
import Derived.Test.YtgcmnkanjcfndaaGreatDoorBck14
import Derived.OrdersHeld
import Derived.Deep.DeepCutAuto
/- Package asm: the reader: register, walked. -/
namespace Go.Proofs.YtgcmnkanjcfndaaGreatDoor
open Go.RowKit
set_option linter.unusedVariables false
set_option linter.unusedSimpArgs false

/-- What a call tells that takes a line's words. -/
def LineT (E B WB m0 m1 m2 m3 m4 : Nat) (ln st : Int) (o : Option Cd) (w : World) (e : Ending) (w' : World) : Prop :=
  e = .returned (.tuple #[]) ∧ ∃ (c' : Cd) (u0 u1 u2 u3 : Value) (ws' : List Bs) (b' : Bool), RdA E B m0 m1 m2 m3 m4 w' c' ln st u0 u1 u2 u3 ∧ WdM WB ws' b' w' ∧ Below E w w' ∧ SayT o c' ws' b'
theorem RdA.len {E B m0 m1 m2 m3 m4 : Nat} {w : World} {c : Cd} {ln st : Int} {u0 u1 u2 u3 : Value} (h : RdA E B m0 m1 m2 m3 m4 w c ln st u0 u1 u2 u3) : ∃ p q, u1 = .slice p c.regs.length q := own_len h.own.regs

set_option maxRecDepth 100000 in
set_option maxHeartbeats 4000000 in
theorem rreg_any (E B WB m0 m1 m2 m3 m4 : Nat) (c : Cd) (ln st : Int) (u0 u1 u2 u3 : Value) (ws : List Bs) (w : World) (hL : LaidE E w) (hE : E ≤ WB) (h : RdA E B m0 m1 m2 m3 m4 w c ln st u0 u1 u2 u3) (hw : WdM WB ws false w) (ha : (nxW ws).1 = regB) (hl : c.regs.length ≤ 4194304) :
    Calls Tryz.prog 88 #[.pointer (some ⟨B, 0, none⟩), .pointer (some ⟨WB, 0, none⟩)] w fun e w' => LineT E B WB m0 m1 m2 m3 m4 ln st ((regLn c.regs.length ws).map fun t => ⟨c.sign, c.regs ++ [t], c.slots, c.list⟩) w e w' := by
  have HA := hidC ha
  have HLn := hidC hl
  have HX := hidC (And.intro hE (And.intro hL h))
  have K1 := hidC (wnext_any WB ws false w hL.laid hw)
  have hlE := hL.le
  have HLE := hidC hlE
  have HW := hidC hw
  clear h hw hL hE ha hl hlE
  go_enter Tryz.func88, Tryz.ntmps88
  go_upto_region 1 with (go_at_call 118; (with_reducible refine K1.out.mono ?_); rintro e w1 ⟨U, rfl, hU, hU2, h1, k1⟩; have H1 := hidC (And.intro h1 k1); clear h1 k1 hU hU2)
  obtain ⟨T0, -, -, hrow0⟩ := HW.out.row
  have hd1 := H1.out.1.below (bel_d w1)
  have hR1 := (HX.out.2.2.ofB hrow0 H1.out.2).below (bel_d w1)
  have hL1 := (HX.out.2.1.ofB HX.out.1 H1.out.2).below ((bel_d w1).mono (HX.out.2.1.ofB HX.out.1 H1.out.2).le)
  have KN := hidC (wnum_any WB (nxW ws).2 false w1.drew hL1.laid hd1 (fun v k => (hL1.ofB HX.out.1 k).laid))
  have HO1 := hidC (And.intro hd1 (And.intro hR1 hL1))
  obtain ⟨N, hN⟩ : ∃ N, c.regs.length = N := ⟨_, rfl⟩
  obtain ⟨p1, q1, hu1⟩ := hR1.len
  rw [hN] at hu1
  have v1 : w1.drew.cell? ⟨B, 1, none⟩ = some (.slice p1 N q1) := by rw [hR1.row.cell (i := 1) (by decide), ← hu1]; rfl
  have HN := hidC (And.intro hN hu1)
  clear hd1 hR1 hL1 hrow0 hN hu1
  have v1' : w1.cell? ⟨B, 1, none⟩ = some (.slice p1 N q1) := by simpa using v1
  refine wp_region_held_drew (S := (fun v => v.cell? ⟨B, 1, none⟩ = some (.slice p1 N q1))) (by kernel_rfl) ?_ (fun hHeld => ?_)
  · ((try dsimp only); go_keep)
  refine tkT 0 ?_
  refine tkT 1 ?_
  refine tkT 3 ?_
  refine tkT 4 ?_
  refine tkT 5 ?_
  refine tkT 6 ?_
  refine tkT 7 ?_
  refine tkT 8 ?_
  clear hHeld
  refine wpAnyH_ready (rs := [2]) (by kernel_rfl) (by simp) ?_
  refine AllReadyH.cons (i := 2) (by simp only [List.getElem?_toArray, List.getElem?_cons_succ, List.getElem?_cons_zero]; rfl) (fun K hK => ?_) AllReadyH.nil
  go_simp
  (go_at_call 121; (with_reducible refine KN.out.mono ?_); rintro e w2 ⟨n, rfl, hm, h2, k2⟩; have H2 := hidC (And.intro h2 (And.intro k2 hm)); clear h2 k2 hm)
  have hR2 := hidC (HO1.out.2.1.ofB (HO1.out.1.row.choose_spec.2.2) H2.out.2.1)
  have v2 : w2.cell? ⟨B, 1, none⟩ = some (.slice p1 N q1) := by rw [hR2.out.row.cell (i := 1) (by decide), ← HN.out.2]; rfl
  clear v1 v1'
  try (go_wp2_with fail)
  refine hK.out _ _ ?_ (fun hHeld => ?_)
  · ((try dsimp only); go_keep)
  clear hK K
  try simp only [Act.put, List.setIfInBounds_toArray, List.set_cons_zero, List.set_cons_succ]
  refine tkT 9 ?_
  clear hHeld
  refine wpAnyH_ready (rs := [10]) (by kernel_rfl) (by simp) ?_
  refine AllReadyH.cons (i := 10) (by simp only [List.getElem?_toArray, List.getElem?_cons_succ, List.getElem?_cons_zero]; rfl) (fun K hK => ?_) AllReadyH.nil
  go_simp
  (go_at_call 122; (with_reducible refine (whold_any WB _ _ _ _ H2.out.1).mono ?_); rintro e w3 ⟨rfl, h3, k3⟩; have H3 := hidC (And.intro h3 k3); clear h3 k3)
  have hR3 := hidC (hR2.out.ofB (H2.out.1.row.choose_spec.2.2) H3.out.2)
  have v3 : w3.cell? ⟨B, 1, none⟩ = some (.slice p1 N q1) := by rw [hR3.out.row.cell (i := 1) (by decide), ← HN.out.2]; rfl
  clear v2
  try (go_wp2_with fail)
  refine hK.out _ _ ?_ (fun hHeld => ?_)
  · ((try dsimp only); go_keep)
  clear hK K
  try simp only [Act.put, List.setIfInBounds_toArray, List.set_cons_zero, List.set_cons_succ]
  refine wpAnyH_done (by kernel_rfl) ?_ _
  have hd3 := H3.out.1.below (bel_d w3)
  have hR3d := hR3.out.below (bel_d w3)
  have hL3 := (HO1.out.2.2.ofB HX.out.1 H2.out.2.1).ofB HX.out.1 H3.out.2
  have HL3 := hidC (hL3.below ((bel_d w3).mono hL3.le))
  have HD3 := hidC hd3
  have HR3d := hidC hR3d
  have KT := hidC (typed_any E B WB m0 m1 m2 m3 m4 c ln st u0 u1 u2 u3 _ _ w3.drew HL3.out HX.out.1 hR3d hd3)
  have v3d : w3.drew.cell? ⟨B, 1, none⟩ = some (.slice p1 N q1) := by simpa using v3
  clear hd3 hR3d hL3 v3
  go_upto_region 2 with fail
  refine wp_region_held_drew (S := (fun _ => True)) (by kernel_rfl) ?_ (fun hHeld => ?_)
  · trivial
  refine tkT 0 ?_
  refine tkT 1 ?_
  refine tkT 2 ?_
  refine tkT 3 ?_
  refine tkT 4 ?_
  refine tkT 6 ?_
  refine tkT 7 ?_
  clear hHeld
  refine wpAnyH_ready (rs := [5, 8]) (by kernel_rfl) (by simp) ?_
  refine AllReadyH.cons (i := 5) (by simp only [List.getElem?_toArray, List.getElem?_cons_succ, List.getElem?_cons_zero]; rfl) (fun K hK => ?_) ?_
  · go_simp
    refine hK.out _ _ ?_ (fun hHeld => ?_)
    · trivial
    clear hK K
    try simp only [Act.put, List.setIfInBounds_toArray, List.set_cons_zero, List.set_cons_succ]
    clear hHeld
    refine wpAnyH_ready (rs := [8]) (by kernel_rfl) (by simp) ?_
    refine AllReadyH.cons (i := 8) (by simp only [List.getElem?_toArray, List.getElem?_cons_succ, List.getElem?_cons_zero]; rfl) (fun K hK => ?_) AllReadyH.nil
    go_simp
    (go_at_call 123; (with_reducible refine KT.out.mono ?_); rintro e w4 ⟨⟨tk, tp⟩, ws4, b4, rfl, h4, k4, ht4⟩; have H4 := hidC (And.intro h4 (And.intro k4 ht4)); clear h4 k4 ht4)
    have hR4 := hidC (HR3d.out.ofB (HD3.out.row.choose_spec.2.2) H4.out.2.1)
    obtain ⟨g, q, w5, hrun, hrow5, hrd5, hwd5, hbe5⟩ := hR4.out.reg H4.out.1 ⟨tk, tp⟩ (by have := HLn.out; omega) 23
    have H5 := hidC (And.intro hrd5 (And.intro hwd5 hbe5))
    clear hrd5 hwd5 hbe5
    rw [HN.out.2, HN.out.1] at hrun
    have hrun5 : (Builtin.append_ #[23, 23] 23 #[.slice p1 N q1, .slice (some ⟨w4.heap.size, 0, none⟩) 1 1]).run Tryz.prog (w4.alloc (.cells #[.int .i64 tk, .int .i64 tp] 50)) = .ok (.slice (some ⟨g, 0, none⟩) (N + 1) q) w5 := hrun
    have HRUN := hidC hrun5
    clear hrun hrun5
    have z5 := hrow5.frozen 1
    have c5 := hrow5.cell (i := 1) (by decide)
    have c5' : w5.cell? ⟨B, 1, none⟩ = some u1 := c5
    rw [HN.out.2] at c5'
    clear c5 hrow5
    have v4 : w4.cell? ⟨B, 1, none⟩ = some (.slice p1 N q1) := by rw [hR4.out.row.cell (i := 1) (by decide), ← HN.out.2]; rfl
    have v4' : (w4.alloc (.cells #[.int .i64 tk, .int .i64 tp] 50)).cell? ⟨B, 1, none⟩ = some (.slice p1 N q1) := kc (bel_alloc _ _) v4
    try (go_wp2_with fail)
    refine hK.out _ _ ?_ (fun hHeld => ?_)
    · trivial
    clear hK K
    try simp only [Act.put, List.setIfInBounds_toArray, List.set_cons_zero, List.set_cons_succ]
    clear hHeld
    refine wpAnyH_ready (rs := [9]) (by kernel_rfl) (by simp) ?_
    refine AllReadyH.cons (i := 9) (by simp only [List.getElem?_toArray, List.getElem?_cons_succ, List.getElem?_cons_zero]; rfl) (fun K hK => ?_) AllReadyH.nil
    go_simp
    refine hK.out _ _ ?_ (fun hHeld => ?_)
    · trivial
    clear hK K
    try simp only [Act.put, List.setIfInBounds_toArray, List.set_cons_zero, List.set_cons_succ]
    clear hHeld
    refine wpAnyH_ready (rs := [10]) (by kernel_rfl) (by simp) ?_
    refine AllReadyH.cons (i := 10) (by simp only [List.getElem?_toArray, List.getElem?_cons_succ, List.getElem?_cons_zero]; rfl) (fun K hK => ?_) AllReadyH.nil
    refine ready_appA _ _ _ _ (by rfl) _ _ _ (by rfl) (by rfl) HRUN.out ?_ _ (by rfl)
    refine hK.out _ _ ?_ (fun hHeld => ?_)
    · trivial
    clear hK K
    try simp only [Act.put, List.setIfInBounds_toArray, List.set_cons_zero, List.set_cons_succ]
    refine tkT 11 ?_
    refine tkT 12 ?_
    refine tkT 13 ?_
    clear hHeld
    refine wpAnyH_ready (rs := [14]) (by kernel_rfl) (by simp) ?_
    refine AllReadyH.cons (i := 14) (by simp only [List.getElem?_toArray, List.getElem?_cons_succ, List.getElem?_cons_zero]; rfl) (fun K hK => ?_) AllReadyH.nil
    go_simp
    refine hK.out _ _ ?_ (fun hHeld => ?_)
    · trivial
    clear hK K
    try simp only [Act.put, List.setIfInBounds_toArray, List.set_cons_zero, List.set_cons_succ]
    refine wpAnyH_done (by kernel_rfl) ?_ _
    refine bodyPost_end (by simp [results, Tryz.results88, go_sem, *]; try rfl) rfl ?_
    have hE := HX.out.1
    have l0 := HX.out.2.1.le
    have s1 := H1.out.2.size
    have s1d := (bel_d w1).size
    have s2 := H2.out.2.1.size
    have s3 := H3.out.2.size
    have s3d := (bel_d w3).size
    have s4 := H4.out.2.1.size
    have b1 := H1.out.2.bel E hE l0
    have b1d : Below E w1 w1.drew := (bel_d w1).mono (by omega)
    have b2 := H2.out.2.1.bel E hE (by omega)
    have b3 := H3.out.2.bel E hE (by omega)
    have b3d : Below E w3 w3.drew := (bel_d w3).mono (by omega)
    have b4 := H4.out.2.1.bel E hE (by omega)
    have r5 := H5.out.1
    have d5 := H5.out.2.1
    have e5 := H5.out.2.2
    rw [HN.out.1] at r5 d5 e5
    have hreg := reg_end (n := (c.regs.length : Int)) (c := c) HA.out H2.out.2.2 (by rw [HN.out.1]; exact H4.out.2.2)
    exact ⟨rfl, _, _, _, _, _, _, _, r5, d5, (((((b1.trans b1d).trans b2).trans b3).trans b3d).trans b4).trans e5, reg_say hreg⟩
  refine AllReadyH.cons (i := 8) (by simp only [List.getElem?_toArray, List.getElem?_cons_succ, List.getElem?_cons_zero]; rfl) (fun K hK => ?_) AllReadyH.nil
  go_simp
  (go_at_call 123; (with_reducible refine KT.out.mono ?_); rintro e w4 ⟨⟨tk, tp⟩, ws4, b4, rfl, h4, k4, ht4⟩; have H4 := hidC (And.intro h4 (And.intro k4 ht4)); clear h4 k4 ht4)
  have hR4 := hidC (HR3d.out.ofB (HD3.out.row.choose_spec.2.2) H4.out.2.1)
  obtain ⟨g, q, w5, hrun, hrow5, hrd5, hwd5, hbe5⟩ := hR4.out.reg H4.out.1 ⟨tk, tp⟩ (by have := HLn.out; omega) 23
  have H5 := hidC (And.intro hrd5 (And.intro hwd5 hbe5))
  clear hrd5 hwd5 hbe5
  rw [HN.out.2, HN.out.1] at hrun
  have hrun5 : (Builtin.append_ #[23, 23] 23 #[.slice p1 N q1, .slice (some ⟨w4.heap.size, 0, none⟩) 1 1]).run Tryz.prog (w4.alloc (.cells #[.int .i64 tk, .int .i64 tp] 50)) = .ok (.slice (some ⟨g, 0, none⟩) (N + 1) q) w5 := hrun
  have HRUN := hidC hrun5
  clear hrun hrun5
  have z5 := hrow5.frozen 1
  have c5 := hrow5.cell (i := 1) (by decide)
  have c5' : w5.cell? ⟨B, 1, none⟩ = some u1 := c5
  rw [HN.out.2] at c5'
  clear c5 hrow5
  have v4 : w4.cell? ⟨B, 1, none⟩ = some (.slice p1 N q1) := by rw [hR4.out.row.cell (i := 1) (by decide), ← HN.out.2]; rfl
  have v4' : (w4.alloc (.cells #[.int .i64 tk, .int .i64 tp] 50)).cell? ⟨B, 1, none⟩ = some (.slice p1 N q1) := kc (bel_alloc _ _) v4
  try (go_wp2_with fail)
  refine hK.out _ _ ?_ (fun hHeld => ?_)
  · trivial
  clear hK K
  try simp only [Act.put, List.setIfInBounds_toArray, List.set_cons_zero, List.set_cons_succ]
  clear hHeld
  refine wpAnyH_ready (rs := [5, 9]) (by kernel_rfl) (by simp) ?_
  refine AllReadyH.cons (i := 5) (by simp only [List.getElem?_toArray, List.getElem?_cons_succ, List.getElem?_cons_zero]; rfl) (fun K hK => ?_) ?_
  · go_simp
    refine hK.out _ _ ?_ (fun hHeld => ?_)
    · trivial
    clear hK K
    try simp only [Act.put, List.setIfInBounds_toArray, List.set_cons_zero, List.set_cons_succ]
    clear hHeld
    refine wpAnyH_ready (rs := [9]) (by kernel_rfl) (by simp) ?_
    refine AllReadyH.cons (i := 9) (by simp only [List.getElem?_toArray, List.getElem?_cons_succ, List.getElem?_cons_zero]; rfl) (fun K hK => ?_) AllReadyH.nil
    go_simp
    refine hK.out _ _ ?_ (fun hHeld => ?_)
    · trivial
    clear hK K
    try simp only [Act.put, List.setIfInBounds_toArray, List.set_cons_zero, List.set_cons_succ]
    clear hHeld
    refine wpAnyH_ready (rs := [10]) (by kernel_rfl) (by simp) ?_
    refine AllReadyH.cons (i := 10) (by simp only [List.getElem?_toArray, List.getElem?_cons_succ, List.getElem?_cons_zero]; rfl) (fun K hK => ?_) AllReadyH.nil
    refine ready_appA _ _ _ _ (by rfl) _ _ _ (by rfl) (by rfl) HRUN.out ?_ _ (by rfl)
    refine hK.out _ _ ?_ (fun hHeld => ?_)
    · trivial
    clear hK K
    try simp only [Act.put, List.setIfInBounds_toArray, List.set_cons_zero, List.set_cons_succ]
    refine tkT 11 ?_
    refine tkT 12 ?_
    refine tkT 13 ?_
    clear hHeld
    refine wpAnyH_ready (rs := [14]) (by kernel_rfl) (by simp) ?_
    refine AllReadyH.cons (i := 14) (by simp only [List.getElem?_toArray, List.getElem?_cons_succ, List.getElem?_cons_zero]; rfl) (fun K hK => ?_) AllReadyH.nil
    go_simp
    refine hK.out _ _ ?_ (fun hHeld => ?_)
    · trivial
    clear hK K
    try simp only [Act.put, List.setIfInBounds_toArray, List.set_cons_zero, List.set_cons_succ]
    refine wpAnyH_done (by kernel_rfl) ?_ _
    refine bodyPost_end (by simp [results, Tryz.results88, go_sem, *]; try rfl) rfl ?_
    have hE := HX.out.1
    have l0 := HX.out.2.1.le
    have s1 := H1.out.2.size
    have s1d := (bel_d w1).size
    have s2 := H2.out.2.1.size
    have s3 := H3.out.2.size
    have s3d := (bel_d w3).size
    have s4 := H4.out.2.1.size
    have b1 := H1.out.2.bel E hE l0
    have b1d : Below E w1 w1.drew := (bel_d w1).mono (by omega)
    have b2 := H2.out.2.1.bel E hE (by omega)
    have b3 := H3.out.2.bel E hE (by omega)
    have b3d : Below E w3 w3.drew := (bel_d w3).mono (by omega)
    have b4 := H4.out.2.1.bel E hE (by omega)
    have r5 := H5.out.1
    have d5 := H5.out.2.1
    have e5 := H5.out.2.2
    rw [HN.out.1] at r5 d5 e5
    have hreg := reg_end (n := (c.regs.length : Int)) (c := c) HA.out H2.out.2.2 (by rw [HN.out.1]; exact H4.out.2.2)
    exact ⟨rfl, _, _, _, _, _, _, _, r5, d5, (((((b1.trans b1d).trans b2).trans b3).trans b3d).trans b4).trans e5, reg_say hreg⟩
  refine AllReadyH.cons (i := 9) (by simp only [List.getElem?_toArray, List.getElem?_cons_succ, List.getElem?_cons_zero]; rfl) (fun K hK => ?_) AllReadyH.nil
  go_simp
  refine hK.out _ _ ?_ (fun hHeld => ?_)
  · trivial
  clear hK K
  try simp only [Act.put, List.setIfInBounds_toArray, List.set_cons_zero, List.set_cons_succ]
  clear hHeld
  refine wpAnyH_ready (rs := [5]) (by kernel_rfl) (by simp) ?_
  refine AllReadyH.cons (i := 5) (by simp only [List.getElem?_toArray, List.getElem?_cons_succ, List.getElem?_cons_zero]; rfl) (fun K hK => ?_) AllReadyH.nil
  go_simp
  refine hK.out _ _ ?_ (fun hHeld => ?_)
  · trivial
  clear hK K
  try simp only [Act.put, List.setIfInBounds_toArray, List.set_cons_zero, List.set_cons_succ]
  clear hHeld
  refine wpAnyH_ready (rs := [10]) (by kernel_rfl) (by simp) ?_
  refine AllReadyH.cons (i := 10) (by simp only [List.getElem?_toArray, List.getElem?_cons_succ, List.getElem?_cons_zero]; rfl) (fun K hK => ?_) AllReadyH.nil
  refine ready_appA _ _ _ _ (by rfl) _ _ _ (by rfl) (by rfl) HRUN.out ?_ _ (by rfl)
  refine hK.out _ _ ?_ (fun hHeld => ?_)
  · trivial
  clear hK K
  try simp only [Act.put, List.setIfInBounds_toArray, List.set_cons_zero, List.set_cons_succ]
  refine tkT 11 ?_
  refine tkT 12 ?_
  refine tkT 13 ?_
  clear hHeld
  refine wpAnyH_ready (rs := [14]) (by kernel_rfl) (by simp) ?_
  refine AllReadyH.cons (i := 14) (by simp only [List.getElem?_toArray, List.getElem?_cons_succ, List.getElem?_cons_zero]; rfl) (fun K hK => ?_) AllReadyH.nil
  go_simp
  refine hK.out _ _ ?_ (fun hHeld => ?_)
  · trivial
  clear hK K
  try simp only [Act.put, List.setIfInBounds_toArray, List.set_cons_zero, List.set_cons_succ]
  refine wpAnyH_done (by kernel_rfl) ?_ _
  refine bodyPost_end (by simp [results, Tryz.results88, go_sem, *]; try rfl) rfl ?_
  have hE := HX.out.1
  have l0 := HX.out.2.1.le
  have s1 := H1.out.2.size
  have s1d := (bel_d w1).size
  have s2 := H2.out.2.1.size
  have s3 := H3.out.2.size
  have s3d := (bel_d w3).size
  have s4 := H4.out.2.1.size
  have b1 := H1.out.2.bel E hE l0
  have b1d : Below E w1 w1.drew := (bel_d w1).mono (by omega)
  have b2 := H2.out.2.1.bel E hE (by omega)
  have b3 := H3.out.2.bel E hE (by omega)
  have b3d : Below E w3 w3.drew := (bel_d w3).mono (by omega)
  have b4 := H4.out.2.1.bel E hE (by omega)
  have r5 := H5.out.1
  have d5 := H5.out.2.1
  have e5 := H5.out.2.2
  rw [HN.out.1] at r5 d5 e5
  have hreg := reg_end (n := (c.regs.length : Int)) (c := c) HA.out H2.out.2.2 (by rw [HN.out.1]; exact H4.out.2.2)
  exact ⟨rfl, _, _, _, _, _, _, _, r5, d5, (((((b1.trans b1d).trans b2).trans b3).trans b3d).trans b4).trans e5, reg_say hreg⟩

end Go.Proofs.YtgcmnkanjcfndaaGreatDoor
/- Package asm: the reader: what an instruction's line says, plainly. -/
namespace Go.Proofs.YtgcmnkanjcfndaaGreatDoor
set_option linter.unusedVariables false
set_option linter.unusedSimpArgs false

def setA (i : Ins) (o : Nat) (v : Int) : Ins := if o = 1 then { i with d := v } else if o = 2 then { i with a := v } else if o = 3 then { i with b := v } else { i with c := v }
def insA0 (op : Nat) : Ins := ⟨(op : Int), 0, 0, 0, 0, 0, 0⟩
/-- The fields that a row names as registers, in their order. -/
def rgO (i : Ins) : List Nat := (if (rowP i.op).d != 0 then [1] else []) ++ [2, 3, 4].take (readsP i (rowP i.op)).length
/-- These taken one behind the other. -/
def goR : List Nat → Ins → List Bs → Option (Ins × List Bs)
  | [], i, ws => some (i, ws)
  | o :: os, i, ws => (rgW (nxW ws).1).bind fun n => goR os (setA i o n) (nxW ws).2
theorem row_abc : ∀ n : Nat, n < 38 → ((rowP (n : Int)).a = 0 → (rowP (n : Int)).b = 0) ∧ ((rowP (n : Int)).b = 0 → (rowP (n : Int)).c = 0) := by decide +kernel
theorem goR_fld {α : Type} (op : Nat) (hop : op < 38) (ws : List Bs) (G : Int → Int → Int → Int → List Bs → Option α) :
    ((fldLn (rowP (op : Int)).d ws).bind fun d => (fldLn (rowP (op : Int)).a d.2).bind fun a => (fldLn (rowP (op : Int)).b a.2).bind fun b => (fldLn (rowP (op : Int)).c b.2).bind fun c => G d.1 a.1 b.1 c.1 c.2) = (goR (rgO (insA0 op)) (insA0 op) ws).bind fun x => G x.1.d x.1.a x.1.b x.1.c x.2 := by
  obtain ⟨h1, h2⟩ := row_abc op hop
  unfold rgO readsP insA0
  simp only
  generalize (rowP (op : Int)).d = D at *
  generalize (rowP (op : Int)).a = A at *
  generalize (rowP (op : Int)).b = B at *
  generalize (rowP (op : Int)).c = C at *
  by_cases hd : D = 0 <;> by_cases ha : A = 0
  · simp [fld_take, hd, ha, h1 ha, h2 (h1 ha), goR]
  · by_cases hb : B = 0
    · simp [fld_take, hd, ha, hb, h2 hb, goR, setA, Option.bind_assoc]
    · by_cases hc : C = 0
      · simp [fld_take, hd, ha, hb, hc, goR, setA, Option.bind_assoc]
      · simp [fld_take, hd, ha, hb, hc, goR, setA, Option.bind_assoc]
  · simp [fld_take, hd, ha, h1 ha, h2 (h1 ha), goR, setA, Option.bind_assoc]
  · by_cases hb : B = 0
    · simp [fld_take, hd, ha, hb, h2 hb, goR, setA, Option.bind_assoc]
    · by_cases hc : C = 0
      · simp [fld_take, hd, ha, hb, hc, goR, setA, Option.bind_assoc]
      · simp [fld_take, hd, ha, hb, hc, goR, setA, Option.bind_assoc]
theorem ins_goR (ws : List Bs) : insLn ws = (opW (nxW ws).1).bind fun k => (goR (rgO (insA0 (k + 1))) (insA0 (k + 1)) (nxW ws).2).bind fun x => (endLn (rowP ((k : Int) + 1)).n x.2).bind fun e => some ⟨(k : Int) + 1, x.1.d, x.1.a, x.1.b, x.1.c, e.1, e.2⟩ := by
  rw [ins_take]
  cases h : opW (nxW ws).1 with
  | none => rfl
  | some k =>
    rw [Option.bind_some, Option.bind_some]
    have hk := (op_out h).1
    have e := goR_fld (k + 1) (by omega) (nxW ws).2 (fun d a b c l => (endLn (rowP ((k : Int) + 1)).n l).bind fun e => some (⟨(k : Int) + 1, d, a, b, c, e.1, e.2⟩ : Ins))
    rw [show (((k + 1 : Nat) : Int)) = (k : Int) + 1 by omega] at e
    exact e

theorem meanA_some {L : List Bs} : ∀ {n j : Nat} {s : Bs}, meanA L n s = some j → j < n ∧ s = (L[j]?).getD [] ∧ s ≠ []
  | 0, j, s, h => by cases h
  | n + 1, j, s, h => by
    rw [meanA] at h
    by_cases q : s = (L[n]?).getD [] ∧ s ≠ []
    · rw [if_pos q] at h
      have := Option.some.inj h
      subst this
      exact ⟨by omega, q.1, q.2⟩
    · rw [if_neg q] at h
      obtain ⟨h1, h2⟩ := meanA_some h
      exact ⟨by omega, h2⟩
theorem ops_all : ∀ k : Nat, k < 37 → meanA opsB 38 (opT ((k : Int) + 1)) = some (k + 1) := by decide +kernel
theorem ops_mean (x : Bs) : meanA opsB 38 x = (opW x).map fun k => k + 1 := by
  cases h : opW x with
  | some k =>
    obtain ⟨h1, rfl⟩ := op_out h
    exact ops_all k h1
  | none =>
    show meanA opsB 38 x = none
    refine none_or fun j hj => ?_
    obtain ⟨h1, h2, h3⟩ := meanA_some hj
    cases j with
    | zero => exact h3 (by rw [h2]; rfl)
    | succ k =>
      have e : x = opT ((k : Int) + 1) := by rw [h2]; unfold opT; rw [show ((k : Int) + 1).toNat = k + 1 by omega]
      rw [e, op_all k (by omega)] at h
      cases h

def nmB (op : Nat) : Bool := decide (op = 2 ∨ op = 29 ∨ op = 30 ∨ op = 31 ∨ op = 32 ∨ op = 33 ∨ op = 36)
theorem row_endA : ∀ op : Nat, op < 38 → nmB op = true → (rowP (op : Int)).n ≠ 0 := by decide +kernel
theorem row_endB : ∀ op : Nat, op < 38 → nmB op = true → (rowP (op : Int)).n ≠ 7 := by decide +kernel
theorem row_endC : ∀ op : Nat, op < 38 → nmB op = false → op = 0 ∨ op = 1 ∨ (rowP (op : Int)).n = 0 := by decide +kernel
theorem row_end (op : Nat) (h : op < 38) (h1 : 1 ≤ op) : (nmB op = true → (rowP (op : Int)).n ≠ 0 ∧ (rowP (op : Int)).n ≠ 7) ∧ (op = 1 → (rowP (op : Int)).n = 7 ∧ nmB op = false) ∧ (nmB op = false → op ≠ 1 → (rowP (op : Int)).n = 0) := by
  refine ⟨fun q => ⟨row_endA op h q, row_endB op h q⟩, fun q => by subst q; decide, fun q q1 => ?_⟩
  rcases row_endC op h q with e | e | e
  · omega
  · exact absurd e q1
  · exact e

/-- An instruction under way: its fields taken up to a place. -/
structure InsI (F : List Nat) (i0 : Ins) (ws0 : List Bs) (bad : Bool) (j : Nat) (i : Ins) (ws : List Bs) (b : Bool) : Prop where
  good : b = false → bad = false ∧ goR F i0 ws0 = goR (F.drop j) i ws
  wrong : b = true → bad = true ∨ goR F i0 ws0 = none
  rest : i.op = i0.op ∧ i.n = i0.n ∧ i.bits = i0.bits
theorem InsI.start (F : List Nat) (i0 : Ins) (ws0 : List Bs) (bad : Bool) : InsI F i0 ws0 bad 0 i0 ws0 bad := ⟨fun h => ⟨h, rfl⟩, fun h => .inl h, rfl, rfl, rfl⟩
theorem InsI.step {F : List Nat} {i0 i : Ins} {ws0 ws : List Bs} {bad b : Bool} {j : Nat} (h : InsI F i0 ws0 bad j i ws b) (hj : j < F.length) {n : Int} (hn : ∀ m, rgW (nxW ws).1 = some m → n = m) :
    InsI F i0 ws0 bad (j + 1) (setA i F[j] n) (nxW ws).2 (b || !(rgW (nxW ws).1).isSome) := by
  have hd : goR (F.drop j) i ws = (rgW (nxW ws).1).bind fun n => goR (F.drop (j + 1)) (setA i F[j] n) (nxW ws).2 := by
    rw [List.drop_eq_getElem_cons hj]; rfl
  refine ⟨fun hb => ?_, fun hb => ?_, ?_⟩
  · cases hb0 : b with
    | true => rw [hb0] at hb; cases hb
    | false =>
      obtain ⟨h1, h2⟩ := h.good hb0
      cases e : rgW (nxW ws).1 with
      | none => rw [hb0, e] at hb; cases hb
      | some m =>
        rw [hd, e] at h2
        rw [hn m e]
        exact ⟨h1, h2⟩
  · cases hb0 : b with
    | true => exact h.wrong hb0
    | false =>
      obtain ⟨h1, h2⟩ := h.good hb0
      cases e : rgW (nxW ws).1 with
      | none => rw [hd, e] at h2; exact .inr h2
      | some m => rw [hb0, e] at hb; cases hb
  · obtain ⟨h1, h2, h3⟩ := h.rest
    unfold setA
    split
    · exact ⟨h1, h2, h3⟩
    split
    · exact ⟨h1, h2, h3⟩
    split
    · exact ⟨h1, h2, h3⟩
    · exact ⟨h1, h2, h3⟩

theorem ins_end {ws : List Bs} {c : Cd} {O : Nat} {i i' : Ins} {ws2 ws' : List Bs} {b2 b' : Bool} (hO : (meanA opsB 38 (nxW ws).1).getD 0 = O)
    (hI : InsI (rgO (insA0 O)) (insA0 O) (nxW ws).2 (false || !(meanA opsB 38 (nxW ws).1).isSome) (rgO (insA0 O)).length i ws2 b2)
    (hE : (i'.op = i.op ∧ i'.d = i.d ∧ i'.a = i.a ∧ i'.b = i.b ∧ i'.c = i.c) ∧ if nmB O = true then (∀ x, numW (nxW ws2).1 = some x → i'.n = x) ∧ i'.bits = 0 ∧ ws' = (nxW ws2).2 ∧ b' = (b2 || !(numW (nxW ws2).1).isSome) else if O = 1 then (∀ x, hexW (nxW ws2).1 = some x → i'.bits = x) ∧ i'.n = 0 ∧ ws' = (nxW ws2).2 ∧ b' = (b2 || !(hexW (nxW ws2).1).isSome) else i'.n = 0 ∧ i'.bits = 0 ∧ ws' = ws2 ∧ b' = b2) :
    SayT ((insLn ws).map fun i => ⟨c.sign, c.regs, c.slots, c.list ++ [i]⟩) ⟨c.sign, c.regs, c.slots, c.list ++ [i']⟩ ws' b' := by
  obtain ⟨hF, hE⟩ := hE
  have hbb : b2 = true → b' = true := fun h => by
    by_cases q : nmB O = true
    · rw [if_pos q] at hE; rw [hE.2.2.2, h]; rfl
    · rw [if_neg q] at hE
      by_cases q1 : O = 1
      · rw [if_pos q1] at hE; rw [hE.2.2.2, h]; rfl
      · rw [if_neg q1] at hE; rw [hE.2.2.2, h]
  rw [ins_goR]
  rw [ops_mean] at hO hI
  cases hop : opW (nxW ws).1 with
  | none =>
    refine SayT.bad _ rfl (hbb ?_)
    cases hb : b2 with
    | true => rfl
    | false =>
      have := (hI.good hb).1
      rw [hop] at this
      cases this
  | some k =>
    have hk := (op_out hop).1
    rw [hop] at hO hI
    have hO : k + 1 = O := hO
    subst hO
    rw [Option.bind_some]
    have hI : InsI (rgO (insA0 (k + 1))) (insA0 (k + 1)) (nxW ws).2 false (rgO (insA0 (k + 1))).length i ws2 b2 := hI
    cases hb : b2 with
    | true =>
      rcases hI.wrong hb with h | h
      · cases h
      · rw [h]
        exact SayT.bad _ rfl (hbb hb)
    | false =>
      have h := (hI.good hb).2
      rw [List.drop_eq_nil_of_le (Nat.le_refl _)] at h
      rw [h, goR, Option.bind_some]
      obtain ⟨r1, r2, r3⟩ := row_end (k + 1) (by omega) (by omega)
      rw [show (((k + 1 : Nat) : Int)) = (k : Int) + 1 by omega] at r1 r2 r3
      obtain ⟨o1, o2, o3⟩ := hI.rest
      have o1 : i.op = (k : Int) + 1 := by rw [o1]; show ((k + 1 : Nat) : Int) = _; omega
      obtain ⟨f0, f1, f2, f3, f4⟩ := hF
      obtain ⟨xo, xd, xa, xb, xc, xn, xz⟩ := i'
      simp only at f0 f1 f2 f3 f4 hE
      subst f1 f2 f3 f4
      rw [o1] at f0
      subst f0
      rw [end_take]
      by_cases q : nmB (k + 1) = true
      · rw [if_pos q, hb] at hE
        obtain ⟨e1, e2, e3, e4⟩ := hE
        subst e2 e3
        rw [if_neg (r1 q).2, if_neg (r1 q).1]
        by_cases hr : (nxW ws2).2 = []
        · rw [if_pos hr]
          cases hN : numW (nxW ws2).1 with
          | none => rw [hN] at e4; exact SayT.bad _ rfl (by rw [e4]; rfl)
          | some x => rw [hN] at e4; rw [e1 x hN]; exact ⟨hr, by rw [e4]; rfl, rfl⟩
        · rw [if_neg hr]
          exact fun h => hr h.1
      · rw [if_neg q, hb] at hE
        by_cases q1 : k + 1 = 1
        · rw [if_pos q1] at hE
          obtain ⟨e1, e2, e3, e4⟩ := hE
          subst e2 e3
          rw [if_pos (r2 q1).1]
          by_cases hr : (nxW ws2).2 = []
          · rw [if_pos hr]
            cases hN : hexW (nxW ws2).1 with
            | none => rw [hN] at e4; exact SayT.bad _ rfl (by rw [e4]; rfl)
            | some x => rw [hN] at e4; rw [e1 x hN]; exact ⟨hr, by rw [e4]; rfl, rfl⟩
          · rw [if_neg hr]
            exact fun h => hr h.1
        · rw [if_neg q1] at hE
          obtain ⟨e1, e2, e3, e4⟩ := hE
          subst e1 e2 e3
          have h0 := r3 (by simpa using q) q1
          rw [if_neg (by rw [h0]; decide), if_pos h0]
          by_cases hr : ws' = []
          · rw [if_pos hr]
            exact ⟨hr, e4, rfl⟩
          · rw [if_neg hr]
            exact fun h => hr h.1

end Go.Proofs.YtgcmnkanjcfndaaGreatDoor
/- Package asm: the reader: line behind line, plainly. -/
namespace Go.Proofs.YtgcmnkanjcfndaaGreatDoor
set_option linter.unusedVariables false
set_option linter.unusedSimpArgs false

/-- Code of so many lines, each of which may stand. -/
structure OkC (c : Cd) (n : Nat) : Prop where
  len : c.sign.length + c.regs.length + c.slots.length + c.list.length ≤ n
  sign : ∀ p ∈ c.sign, mayP p = true
  slots : ∀ s ∈ c.slots, okSl s
  list : ∀ i ∈ c.list, okIn i
theorem OkC.none : OkC noC 0 := ⟨Nat.le_refl _, fun _ h => (nomatch h), fun _ h => (nomatch h), fun _ h => (nomatch h)⟩
theorem says_ok {c c' : Cd} {n : Nat} {ws : List Bs} (h : OkC c n) (hs : saysW c ws = some c') : OkC c' (n + 1) := by
  have hl := h.len
  unfold saysW at hs
  split at hs
  · obtain ⟨p, hp, rfl⟩ := Option.map_eq_some_iff.1 hs
    refine ⟨by simp only [List.length_append, List.length_singleton]; omega, fun q hq => ?_, h.slots, h.list⟩
    rcases List.mem_append.1 hq with hq | hq
    · exact h.sign q hq
    · rw [List.mem_singleton.1 hq]; exact (par_out hp).1
  split at hs
  · obtain ⟨p, hp, rfl⟩ := Option.map_eq_some_iff.1 hs
    exact ⟨by simp only [List.length_append, List.length_singleton]; omega, h.sign, h.slots, h.list⟩
  split at hs
  · obtain ⟨p, hp, rfl⟩ := Option.map_eq_some_iff.1 hs
    refine ⟨by simp only [List.length_append, List.length_singleton]; omega, h.sign, fun q hq => ?_, h.list⟩
    rcases List.mem_append.1 hq with hq | hq
    · exact h.slots q hq
    · rw [List.mem_singleton.1 hq]; exact (slot_out hp).1
  · obtain ⟨p, hp, rfl⟩ := Option.map_eq_some_iff.1 hs
    refine ⟨by simp only [List.length_append, List.length_singleton]; omega, h.sign, h.slots, fun q hq => ?_⟩
    rcases List.mem_append.1 hq with hq | hq
    · exact h.list q hq
    · rw [List.mem_singleton.1 hq]; exact (ins_out hp).1
theorem okE_bits {l n b : Int} (h : okE l n b) : 0 ≤ b ∧ b < 4294967296 := by
  unfold okE at h
  split at h
  · exact h.2
  split at h
  · rw [h.2]; decide
  · rw [h.1]; decide
theorem okSl_bits {s : Sl} (h : okSl s) : 0 ≤ s.bits ∧ s.bits < 4294967296 := by
  obtain ⟨_, h⟩ := h
  split at h
  · rw [h.1]; decide
  · exact h.2
theorem OkC.cd {c : Cd} {n : Nat} (h : OkC c n) (hn : n ≤ 140737488351232) : CdOk c := by
  have hl := h.len
  refine ⟨by omega, fun p hp => ?_, by omega, by omega, by omega, fun s hs => okSl_bits (h.slots s hs), fun i hi => okE_bits (h.list i hi).2.2.2.2.2⟩
  have := h.sign p hp
  unfold mayP namedP at this
  simp only [Bool.and_eq_true, decide_eq_true_eq] at this
  have := this.1.1.1.2
  omega

theorem cut_none : ∀ (s cur : Bs), (∀ b ∈ s, b ≠ 10) → cutN cur s = ([], cur ++ s)
  | [], cur, _ => by simp [cutN]
  | b :: t, cur, h => by
    have hb : ¬ nb b = 10 := fun e => h b (by simp) (UInt8.toNat_inj.1 (by unfold nb at e; show b.toNat = 10; omega))
    rw [cutN, if_neg (by simpa using hb), cut_none t (cur ++ [b]) (fun x hx => h x (List.mem_cons_of_mem _ hx))]
    simp
theorem nb_10 {b : UInt8} (h : b ≠ 10) : nb b ≠ 10 := fun e => h (UInt8.toNat_inj.1 (by unfold nb at e; show b.toNat = 10; omega))

/-- Lines taken so far of a text: what is left of it. -/
structure GoI (t : Bs) (ln st : Nat) (c : Cd) (s : Bs) : Prop where
  text : ∃ ls, (cutN [] t).1 = ls ++ (cutN [] s).1 ∧ (cutN [] t).2 = (cutN [] s).2 ∧ ls.length = ln ∧ (ln ≠ 0 → ∃ d, ls = headB :: d ∧ goA (0, noC) 2 d = .ok (st, c))
  zero : ln = 0 → st = 0 ∧ c = noC
  left : ln ≠ 0 → s ≠ []
  size : ln + s.length ≤ t.length
  ok : OkC c ln
  sort : st ≤ 3
theorem GoI.start (t : Bs) : GoI t 0 0 noC t := ⟨⟨[], by simp, rfl, rfl, fun h => absurd rfl h⟩, fun _ => ⟨rfl, rfl⟩, fun h => absurd rfl h, by omega, OkC.none, by omega⟩
/-- What all lines tell. -/
def ReadT (t : Bs) (b : Bool) (ln : Nat) (c : Cd) : Prop :=
  match b with
  | false => afterA (cutN [] t).2 (cutN [] t).1 = (noC, 250, (ln : Int))
  | true => OkC c ln ∧ ln ≤ t.length ∧ afterA (cutN [] t).2 (cutN [] t).1 = if (checkC c).1 ≠ 0 then (noC, 160, lineA (ln : Int) c (checkC c).2) else (c, 0, 0)
/-- A line that does not end. -/
theorem GoI.open {t : Bs} {ln st : Nat} {c c' : Cd} {s : Bs} (h : GoI t ln st c s) (hs : ∀ b ∈ s, b ≠ 10) : ReadT t false (ln + 1) c' := by
  obtain ⟨ls, h1, h2, h3, h4⟩ := h.text
  have hc := cut_none s [] hs
  rw [List.nil_append] at hc
  rw [hc, List.append_nil] at h1
  rw [hc] at h2
  show afterA _ _ = _
  rw [h1, h2]
  by_cases h0 : ln = 0
  · have : ls = [] := List.length_eq_zero_iff.1 (by omega)
    rw [this, h0]; rfl
  · obtain ⟨d, rfl, hd⟩ := h4 h0
    have hl := h.left h0
    show (if headB ≠ headB then (noC, 250, 1) else endA d s (goA (0, noC) 2 d)) = _
    rw [if_neg (fun e => e rfl), hd]
    show (if s ≠ [] then (noC, 250, (d.length : Int) + 2) else _) = _
    rw [if_pos hl]
    rw [List.length_cons] at h3
    rw [show ((ln + 1 : Nat) : Int) = (d.length : Int) + 2 by omega]
theorem GoI.split {t : Bs} {ln st : Nat} {c : Cd} {x y : Bs} (h : GoI t ln st c (x ++ 10 :: y)) (hx : ∀ b ∈ x, b ≠ 10) : ∃ ls, (cutN [] t).1 = (ls ++ [x]) ++ (cutN [] y).1 ∧ (cutN [] t).2 = (cutN [] y).2 ∧ ls.length = ln ∧ (ln ≠ 0 → ∃ d, ls = headB :: d ∧ goA (0, noC) 2 d = .ok (st, c)) := by
  obtain ⟨ls, h1, h2, h3, h4⟩ := h.text
  have hc := cut_cat x [] y (fun b hb => nb_10 (hx b hb))
  rw [List.nil_append] at hc
  rw [hc] at h1 h2
  exact ⟨ls, by rw [h1]; simp, h2, h3, h4⟩
/-- The first line, not the head. -/
theorem GoI.head {t : Bs} {st : Nat} {c c' : Cd} {x y : Bs} (h : GoI t 0 st c (x ++ 10 :: y)) (hx : ∀ b ∈ x, b ≠ 10) (hb : x ≠ headB) : ReadT t false 1 c' := by
  obtain ⟨ls, h1, h2, h3, h4⟩ := h.split hx
  have : ls = [] := List.length_eq_zero_iff.1 h3
  subst this
  show afterA _ _ = _
  rw [h1, List.nil_append, List.singleton_append]
  show (if x ≠ headB then (noC, 250, 1) else _) = _
  rw [if_pos hb]
  rfl
/-- A line that can't be the next one. -/
theorem GoI.wrong {t : Bs} {ln st : Nat} {c c' : Cd} {x y : Bs} (h : GoI t ln st c (x ++ 10 :: y)) (hx : ∀ b ∈ x, b ≠ 10) (h0 : ln ≠ 0) (hb : stepW (st, c) (wordsA [] x) = none) : ReadT t false (ln + 1) c' := by
  obtain ⟨ls, h1, h2, h3, h4⟩ := h.split hx
  obtain ⟨d, rfl, hd⟩ := h4 h0
  show afterA _ _ = _
  rw [h1]
  show (if headB ≠ headB then (noC, 250, 1) else endA (d ++ [x] ++ (cutN [] y).1) (cutN [] t).2 (goA (0, noC) 2 (d ++ [x] ++ (cutN [] y).1))) = _
  rw [if_neg (fun e => e rfl), List.append_assoc, go_app d _ _ _ _ hd]
  have : goA (st, c) (2 + d.length) ([x] ++ (cutN [] y).1) = .error (2 + d.length) := by
    show (match stepW (st, c) (wordsA [] x) with | some s' => goA s' (2 + d.length + 1) (cutN [] y).1 | none => .error (2 + d.length)) = _
    rw [hb]
  rw [this]
  rw [List.length_cons] at h3
  show (noC, (250 : Int), ((2 + d.length : Nat) : Int)) = _
  rw [show ((2 + d.length : Nat) : Int) = ((ln + 1 : Nat) : Int) by omega]
theorem GoI.first {t : Bs} {st : Nat} {c : Cd} {y : Bs} (h : GoI t 0 st c (headB ++ 10 :: y)) (hy : y ≠ []) : GoI t 1 st c y := by
  obtain ⟨ls, h1, h2, h3, h4⟩ := h.split (by decide)
  have : ls = [] := List.length_eq_zero_iff.1 h3
  subst this
  obtain ⟨rfl, rfl⟩ := h.zero rfl
  have hsz := h.size
  simp only [List.length_append, List.length_cons] at hsz
  exact ⟨⟨[headB], h1, h2, rfl, fun _ => ⟨[], rfl, rfl⟩⟩, fun e => by omega, fun _ => hy, by omega, ⟨by have := h.ok.len; omega, h.ok.sign, h.ok.slots, h.ok.list⟩, h.sort⟩
theorem GoI.firstEnd {t : Bs} {st : Nat} {c : Cd} (h : GoI t 0 st c (headB ++ 10 :: [])) : ReadT t true 1 c := by
  obtain ⟨ls, h1, h2, h3, h4⟩ := h.split (by decide)
  have : ls = [] := List.length_eq_zero_iff.1 h3
  subst this
  obtain ⟨rfl, rfl⟩ := h.zero rfl
  have hsz := h.size
  simp only [List.length_append, List.length_cons] at hsz
  refine ⟨⟨by have := h.ok.len; omega, h.ok.sign, h.ok.slots, h.ok.list⟩, by omega, ?_⟩
  rw [h1, h2]
  rfl
theorem step_says {st : Nat} {c : Cd} (hs : st ≤ 3) {ws : List Bs} {s' : Nat × Cd} (h : stepW (st, c) ws = some s') : ¬ sortW ws < st ∧ s'.1 = sortW ws ∧ saysW c ws = some s'.2 := by
  rw [step_sort st c hs] at h
  by_cases q : sortW ws < st
  · rw [if_pos q] at h; cases h
  · rw [if_neg q] at h
    obtain ⟨c', hc, rfl⟩ := Option.map_eq_some_iff.1 h
    exact ⟨q, rfl, hc⟩
theorem sort_le (ws : List Bs) : sortW ws ≤ 3 := by
  unfold sortW
  split
  · decide
  split
  · decide
  split
  · decide
  · decide
theorem GoI.more {t : Bs} {ln st : Nat} {c : Cd} {x y : Bs} {s' : Nat × Cd} (h : GoI t ln st c (x ++ 10 :: y)) (hx : ∀ b ∈ x, b ≠ 10) (h0 : ln ≠ 0) (hb : stepW (st, c) (wordsA [] x) = some s') :
    ∃ d, (cutN [] t).1 = (headB :: (d ++ [x])) ++ (cutN [] y).1 ∧ (cutN [] t).2 = (cutN [] y).2 ∧ d.length + 1 = ln ∧ goA (0, noC) 2 (d ++ [x]) = .ok s' ∧ OkC s'.2 (ln + 1) ∧ s'.1 ≤ 3 := by
  obtain ⟨ls, h1, h2, h3, h4⟩ := h.split hx
  obtain ⟨d, rfl, hd⟩ := h4 h0
  obtain ⟨g1, g2, g3⟩ := step_says h.sort hb
  refine ⟨d, by rw [h1]; rfl, h2, by rw [← h3]; rfl, ?_, says_ok h.ok g3, by rw [g2]; exact sort_le _⟩
  rw [go_app d _ _ _ _ hd]
  show (match stepW (st, c) (wordsA [] x) with | some s' => goA s' (2 + d.length + 1) [] | none => .error (2 + d.length)) = _
  rw [hb]
  rfl
theorem GoI.next {t : Bs} {ln st : Nat} {c : Cd} {x y : Bs} {s' : Nat × Cd} (h : GoI t ln st c (x ++ 10 :: y)) (hx : ∀ b ∈ x, b ≠ 10) (h0 : ln ≠ 0) (hb : stepW (st, c) (wordsA [] x) = some s') (hy : y ≠ []) : GoI t (ln + 1) s'.1 s'.2 y := by
  obtain ⟨d, h1, h2, h3, h4, h5, h6⟩ := h.more hx h0 hb
  have hsz := h.size
  simp only [List.length_append, List.length_cons] at hsz
  exact ⟨⟨_, h1, h2, by simp; omega, fun _ => ⟨_, rfl, h4⟩⟩, fun e => by omega, fun _ => hy, by omega, h5, h6⟩
theorem GoI.last {t : Bs} {ln st : Nat} {c : Cd} {x : Bs} {s' : Nat × Cd} (h : GoI t ln st c (x ++ 10 :: [])) (hx : ∀ b ∈ x, b ≠ 10) (h0 : ln ≠ 0) (hb : stepW (st, c) (wordsA [] x) = some s') : ReadT t true (ln + 1) s'.2 := by
  obtain ⟨d, h1, h2, h3, h4, h5, h6⟩ := h.more hx h0 hb
  have hsz := h.size
  simp only [List.length_append, List.length_cons] at hsz
  refine ⟨h5, by omega, ?_⟩
  rw [h1, h2]
  show (if headB ≠ headB then (noC, 250, 1) else endA (d ++ [x] ++ []) [] (goA (0, noC) 2 (d ++ [x] ++ []))) = _
  rw [if_neg (fun e => e rfl), List.append_nil, h4]
  show (if ([] : Bs) ≠ [] then (noC, (250 : Int), ((d ++ [x]).length : Int) + 2) else if (checkC s'.2).1 ≠ 0 then (noC, 160, lineA (((d ++ [x]).length : Int) + 1) s'.2 (checkC s'.2).2) else (s'.2, 0, 0)) = _
  rw [if_neg (fun e => e rfl), show (((d ++ [x]).length : Int) + 1) = ((ln + 1 : Nat) : Int) by simp; omega]

end Go.Proofs.YtgcmnkanjcfndaaGreatDoor
/- Package asm: hasN, hasBits, registersOf. By program (tool/layer25/genasmz1.py). -/
namespace Go.Proofs.YtgcmnkanjcfndaaGreatDoor
open Go.RowKit
set_option linter.unusedVariables false
set_option linter.unusedSimpArgs false

set_option maxRecDepth 100000 in
set_option maxHeartbeats 4000000 in
theorem ahasN_any (op : Nat) (w : World) :
    Calls Tryz.prog 83 #[.int .i64 (op : Int)] w fun e w' => e = .returned (.bool (nmB op)) ∧ w' = w := by
  by_cases q : op = 2 ∨ op = 29 ∨ op = 30 ∨ op = 31 ∨ op = 32 ∨ op = 33 ∨ op = 36
  · have HT : Hid (nmB op = true) := by show nmB op = _; unfold nmB; simp [q]
    rw [HT.out]
    clear HT
    rcases q with rfl | rfl | rfl | rfl | rfl | rfl | rfl
    all_goals
      go_enter Tryz.func83, Tryz.ntmps83
      go_wp2
      refine bodyPost_ret (by simp [results, Tryz.results83, go_sem, *]; try rfl) rfl ?_
      exact ⟨rfl, rfl⟩
  · have HT : Hid (nmB op = false) := by show nmB op = _; unfold nmB; simp [q]
    rw [HT.out]
    have a1 : ((op : Int) == 2) = false := by simp; omega
    have a2 : ((op : Int) == 29) = false := by simp; omega
    have a3 : ((op : Int) == 30) = false := by simp; omega
    have a4 : ((op : Int) == 31) = false := by simp; omega
    have a5 : ((op : Int) == 32) = false := by simp; omega
    have a6 : ((op : Int) == 33) = false := by simp; omega
    have a7 : ((op : Int) == 36) = false := by simp; omega
    clear HT q
    go_enter Tryz.func83, Tryz.ntmps83
    go_wp2
    refine bodyPost_ret (by simp [results, Tryz.results83, go_sem, *]; try rfl) rfl ?_
    exact ⟨rfl, rfl⟩

set_option maxRecDepth 100000 in
set_option maxHeartbeats 4000000 in
theorem ahasB_any (op : Nat) (w : World) :
    Calls Tryz.prog 84 #[.int .i64 (op : Int)] w fun e w' => e = .returned (.bool (decide (op = 1))) ∧ w' = w := by
  have e1 : ((op : Int) == 1) = decide (op = 1) := by
    by_cases q : op = 1
    · subst q; rfl
    · simp [q]; omega
  go_enter Tryz.func84, Tryz.ntmps84
  go_wp2
  refine bodyPost_ret (by simp [results, Tryz.results84, go_sem, *]; try rfl) rfl ?_
  exact ⟨by first | rfl | rw [← e1], rfl⟩

/-- Pointers to cells of one block. -/
def ptrN (LB : Nat) (os : List Nat) : List Value := os.map fun o => .pointer (some ⟨LB, o, none⟩)
theorem ptrN_app (LB : Nat) (a b : List Nat) : ptrN LB (a ++ b) = ptrN LB a ++ ptrN LB b := by simp [ptrN]
theorem info_PtrN : (Tryz.prog.info? 146).map (fun i => (i.zero, i.size, i.bytes)) = some (some (.pointer none), 1, 8) := by kernel_rfl
/-- More pointers, wherever they lie. -/
theorem app_ptrN {E LB : Nat} {V : World} {p : Option Addr} {q : Nat} {os : List Nat} (h : V.ownsRow E 146 1 (.slice p os.length q) os.length (ptrN LB os)) (hE : E ≤ V.heap.size) {RB d : Nat} (ns : List Nat) (hn : ∀ j (hj : j < ns.length), V.cell? ⟨RB, j, none⟩ = some (.pointer (some ⟨LB, ns[j], none⟩))) (hl : os.length + ns.length ≤ 1000000) (ty : TypeId) :
    ∃ p' q' w', (Builtin.append_ #[144, 144] ty #[.slice p os.length q, .slice (some ⟨RB, 0, none⟩) ns.length d]).run Tryz.prog V = .ok (.slice p' (os.length + ns.length) q') w' ∧ w'.ownsRow E 146 1 (.slice p' (os ++ ns).length q') (os ++ ns).length (ptrN LB (os ++ ns)) ∧ Below E V w' := by
  obtain ⟨i0, hi0, hz0, hz1, hz2⟩ := info_parts info_PtrN
  obtain ⟨v', w', hr, h2, h3, -, -⟩ := run_append_own_at (P := Tryz.prog) V E 144 ty 146 i0 _ 1 8 Tryz.underlying144 hi0 hz0 hz1 hz2 rfl (by decide) (.slice p os.length q) os.length (ptrN LB os) h ⟨RB, 0, none⟩ ns.length d (ptrN LB ns) (by simp [ptrN]) (fun j u hu => by
    have hj : j < ns.length := by have := (List.getElem?_eq_some_iff.1 hu).1; simpa [ptrN] using this
    have hadd : (⟨RB, 0, none⟩ : Addr).add j = ⟨RB, j, none⟩ := by unfold Addr.add; split <;> simp_all
    rw [hadd, hn j hj]
    simpa [ptrN, hj] using hu) (by simp [ptrN, Value.oneCell']) (by unfold maxLen; omega) (by omega) hE
  obtain ⟨p', q', rfl⟩ := own_len h2
  refine ⟨p', q', w', hr, ?_, (Below.refl E V).grown h3 hE (fun b e => (h.lt b e).1)⟩
  rw [List.length_append, ptrN_app]
  exact h2
theorem app_ptrN1 {E LB : Nat} {V : World} {p : Option Addr} {q : Nat} {os : List Nat} (h : V.ownsRow E 146 1 (.slice p os.length q) os.length (ptrN LB os)) (hE : E ≤ V.heap.size) (o : Nat) (hl : os.length + 1 ≤ 1000000) (ty : TypeId) :
    ∃ p' q' w', (Builtin.append_ #[144, 144] ty #[.slice p os.length q, .slice (some ⟨V.heap.size, 0, none⟩) 1 1]).run Tryz.prog (V.alloc (.cells #[.pointer (some ⟨LB, o, none⟩)] 146)) = .ok (.slice p' (os.length + 1) q') w' ∧ w'.ownsRow E 146 1 (.slice p' (os ++ [o]).length q') (os ++ [o]).length (ptrN LB (os ++ [o])) ∧ Below E V w' := by
  have hb0 : Below V.heap.size V (V.alloc (.cells #[.pointer (some ⟨LB, o, none⟩)] 146)) := bel_alloc _ _
  obtain ⟨p', q', w', h1, h2, h3⟩ := app_ptrN (LB := LB) (own_below h hb0) (Nat.le_trans hE hb0.size) (RB := V.heap.size) (d := 1) [o] (fun j hj => by
    have : j = 0 := by simp only [List.length_cons, List.length_nil] at hj; omega
    subst this
    simp [go_sem]) hl ty
  exact ⟨p', q', w', h1, h2, (hb0.mono hE).trans h3⟩
theorem reads_leN (i : Ins) : (readsP i (rowP i.op)).length ≤ 3 := by
  rw [reads_eq]
  have h1 := rd1_le (rowP i.op).a i.a
  have h2 := rd1_le (rowP i.op).b i.b
  have h3 := rd1_le (rowP i.op).c i.c
  simp only [List.length_append]
  omega

set_option maxRecDepth 100000 in
set_option maxHeartbeats 16000000 in
theorem regsOf_any (X : Nat) (i : Ins) (h1 : 0 ≤ i.op) (w : World) (hc : CellsAt w X 0 (inC i)) :
    Calls Tryz.prog 82 #[.pointer (some ⟨X, 0, none⟩)] w fun e w' => ∃ q d, e = .returned (.slice q (rgO i).length d) ∧ w'.ownsRow w.heap.size 146 1 (.slice q (rgO i).length d) (rgO i).length (ptrN X (rgO i)) ∧ Below w.heap.size w w' := by
  obtain ⟨E, hE⟩ : ∃ E, w.heap.size = E := ⟨_, rfl⟩
  have HE := hidC hE
  simp only [hE]
  have HRL := hidC (reads_leN i)
  obtain ⟨F, hF⟩ : ∃ F, rgO i = F := ⟨_, rfl⟩
  rw [hF]
  have HF : Hid ((if (rowP i.op).d != 0 then [1] else []) ++ [2, 3, 4].take (readsP i (rowP i.op)).length = F) := hF
  clear hF
  obtain ⟨op, d, a, b, e, n, z⟩ := i
  simp only at h1 HRL HF
  obtain ⟨O, hO⟩ : ∃ O : Nat, op = (O : Int) := ⟨op.toNat, by omega⟩
  subst hO
  have HYY : Hid (∀ v, Below E w v → v.cell? ⟨X, 0, none⟩ = some (.int .i64 (O : Int)) ∧ v.cell? ⟨X, 1, none⟩ = some (.int .i64 d) ∧ v.cell? ⟨X, 2, none⟩ = some (.int .i64 a) ∧ v.cell? ⟨X, 3, none⟩ = some (.int .i64 b) ∧ v.cell? ⟨X, 4, none⟩ = some (.int .i64 e) ∧ v.cell? ⟨X, 5, none⟩ = some (.int .i64 n) ∧ v.cell? ⟨X, 6, none⟩ = some (.int .u32 z)) := fun v hv => by
    rw [← hE] at hv
    have g : ∀ k x, (inC ⟨(O : Int), d, a, b, e, n, z⟩)[k]? = some x → v.cell? ⟨X, k, none⟩ = some x := fun k x hx => by
      have h9 := hc.at k hx
      rw [Nat.zero_add] at h9
      exact kc hv h9
    exact ⟨g 0 _ rfl, g 1 _ rfl, g 2 _ rfl, g 3 _ rfl, g 4 _ rfl, g 5 _ rfl, g 6 _ rfl⟩
  obtain ⟨y0, y1, y2, y3, y4, y5, y6⟩ := HYY.out w (Below.refl _ _)
  have KS := hidC (fun v => sets_any ⟨(O : Int), d, a, b, e, n, z⟩ v)
  have KR := hidC (fun v => reads_any ⟨(O : Int), d, a, b, e, n, z⟩ v)
  unfold insV at KS KR
  simp only at KS KR
  obtain ⟨rs, hrs⟩ : ∃ rs, readsP (⟨(O : Int), d, a, b, e, n, z⟩ : Ins) (rowP (O : Int)) = rs := ⟨_, rfl⟩
  simp only [hrs] at KR HRL HF
  obtain ⟨sb, hsb⟩ : ∃ sb, ((rowP (O : Int)).d != 0) = sb := ⟨_, rfl⟩
  simp only [hsb] at KS HF
  obtain ⟨P1, hP1⟩ : ∃ P, (if sb = true then [1] else [] : List Nat) = P := ⟨_, rfl⟩
  have HP1L : Hid (P1.length ≤ 1) := by rw [← hP1]; show _ ≤ _; split <;> simp
  have HP1 := hidC hP1
  rw [hP1] at HF
  obtain ⟨P2, hP2⟩ : ∃ P, P1 ++ [2, 3, 4].take rs.length = P := ⟨_, rfl⟩
  have HP2 := hidC hP2
  rw [hP2] at HF
  have HP2L : Hid (P2.length ≤ 4) := by
    rw [← hP2, List.length_append, List.length_take]
    have := HP1L.out
    show _ ≤ _
    simp only [List.length_cons, List.length_nil]
    omega
  have HEW : Hid (E ≤ w.heap.size) := by rw [hE]; exact Nat.le_refl _
  clear hc hE hrs hsb hP1 hP2 h1
  go_enter Tryz.func82, Tryz.ntmps82
  go_upto_if 8 with (go_at_call 114; (with_reducible refine (KS.out _).mono ?_); rintro e9 w4 ⟨rfl, hb4⟩; have HB4 : Hid (Below E w w4) := (by have h9 := hb4; rw [HE.out] at h9; exact h9); clear hb4)
  go_cut [3] (fun lv wx => ∃ (q : Option Addr) (d' : Nat), lv = .slice q P1.length d' ∧ Hid (Below E w wx ∧ E ≤ wx.heap.size ∧ wx.ownsRow E 146 1 (.slice q P1.length d') P1.length (ptrN X P1)))
  case first =>
    cases sb with
    | false =>
      obtain rfl : [] = P1 := HP1.out
      go_wp2
      go_meet
      exact ⟨none, 0, rfl, HB4.out, Nat.le_trans HEW.out HB4.out.size, World.ownsRow_nil _ _ _ 1⟩
    | true =>
      obtain rfl : [1] = P1 := HP1.out
      obtain ⟨p', q', w5, r1, r2, r3⟩ := app_ptrN1 (E := E) (LB := X) (V := w4) (p := none) (q := 0) (os := []) (World.ownsRow_nil _ _ _ 1) (Nat.le_trans HEW.out HB4.out.size) 1 (by decide) 144
      have HR1 := hidC r1
      have HR2 := hidC r2
      have HR3 := hidC r3
      clear r1 r2 r3
      go_wp2_with (at_builtin; refine wpList_app (by rfl) _ _ _ (by rfl) _ _ _ (by rfl) (by rfl) HR1.out ?_)
      go_meet
      exact ⟨p', q', rfl, HB4.out.trans HR3.out, Nat.le_trans (Nat.le_trans HEW.out HB4.out.size) HR3.out.size, HR2.out⟩
  case rest =>
    obtain ⟨q5, d5, rfl, HC5⟩ := hcut
    obtain ⟨hb5, hE5, ho5⟩ := HC5.out
    have HB5 := hidC hb5
    have HE5 := hidC hE5
    have HO5 := hidC ho5
    obtain ⟨u0, -⟩ := HYY.out wc hb5
    have lLB : X < wc.heap.size := mcell_lt u0
    have nLB : ¬ X = wc.heap.size := by omega
    have k0 : ∀ o, (wc.alloc o).cell? ⟨X, 0, none⟩ = some (.int .i64 (O : Int)) := fun o => kc (bel_alloc _ _) u0
    clear HC5 hb5 hE5 ho5 y0 y1 y2 y3 y4 y5 y6 KS HB4
    go_upto_region 4 with fail
    refine wp_region_held_drew (S := (fun v => v.cell? ⟨X, 0, none⟩ = some (.int .i64 (O : Int)))) (by kernel_rfl) ?_ (fun hHeld => ?_)
    · ((try dsimp only); go_keep)
    refine tkT 0 ?_
    refine tkT 1 ?_
    refine tkT 2 ?_
    refine tkT 3 ?_
    refine tkT 4 ?_
    refine tkT 5 ?_
    refine tkT 6 ?_
    refine tkT 7 ?_
    refine tkT 8 ?_
    refine tkT 9 ?_
    clear hHeld
    refine wpAnyH_ready (rs := [10]) (by kernel_rfl) (by simp) ?_
    refine AllReadyH.cons (i := 10) (by simp only [List.getElem?_toArray, List.getElem?_cons_succ, List.getElem?_cons_zero]; rfl) (fun K hK => ?_) AllReadyH.nil
    go_simp
    refine hK.out _ _ ?_ (fun hHeld => ?_)
    · ((try dsimp only); go_keep)
    clear hK K
    try simp only [Act.put, List.setIfInBounds_toArray, List.set_cons_zero, List.set_cons_succ]
    clear hHeld
    refine wpAnyH_ready (rs := [11]) (by kernel_rfl) (by simp) ?_
    refine AllReadyH.cons (i := 11) (by simp only [List.getElem?_toArray, List.getElem?_cons_succ, List.getElem?_cons_zero]; rfl) (fun K hK => ?_) AllReadyH.nil
    go_simp
    refine hK.out _ _ ?_ (fun hHeld => ?_)
    · ((try dsimp only); go_keep)
    clear hK K
    try simp only [Act.put, List.setIfInBounds_toArray, List.set_cons_zero, List.set_cons_succ]
    refine wpAnyH_done (by kernel_rfl) ?_ _
    obtain ⟨W6, hW6⟩ : ∃ W, (wc.alloc (.cells #[.pointer (some ⟨X, 2, none⟩), .pointer (some ⟨X, 3, none⟩), .pointer (some ⟨X, 4, none⟩)] 170)).drew = W := ⟨_, rfl⟩
    rw [hW6]
    have HB6 : Hid (Below wc.heap.size wc W6) := by rw [← hW6]; exact bel (bel_alloc _ _) (Below.refl _ _).drew
    have HX6 : Hid (∀ k (hk : k < 3), W6.cell? ⟨wc.heap.size, k, none⟩ = some (.pointer (some ⟨X, [2, 3, 4][k], none⟩))) := fun k hk => by
      rw [← hW6]
      rcases (show k = 0 ∨ k = 1 ∨ k = 2 by omega) with rfl | rfl | rfl <;> simp [go_sem]
    have HBW : Hid (Below E w W6) := HB5.out.trans (HB6.out.mono HE5.out)
    obtain ⟨y0, y1, y2, y3, y4, y5, y6⟩ := HYY.out W6 HBW.out
    obtain ⟨m, hm⟩ : ∃ m, rs.length = m := ⟨_, rfl⟩
    have HNS : Hid (([2, 3, 4].take rs.length).length = m) := by show _ = _; have := HRL.out; rw [List.length_take]; simp only [List.length_cons, List.length_nil]; omega
    have HMM : Hid (m ≤ 3) := by rw [← hm]; exact HRL.out
    have m3 : (m : Int) ≤ 3 := by have := HMM.out; omega
    have m4 : m ≤ 3 := HMM.out
    have m5 : (0 : Int) ≤ (m : Int) := by omega
    simp only [hm] at KR
    clear hW6 hm u0 k0
    go_upto_region 5 with fail
    go_wp2_with (first
      | (go_at_call 115; (with_reducible refine (KR.out _).mono ?_); rintro e9 w7 ⟨v7, rfl, ho7, hb7⟩; obtain ⟨p7, q7, rfl⟩ := own_len ho7; have HB7 := hidC hb7; obtain ⟨p', q', w8, r1, r2, r3⟩ := app_ptrN (LB := X) (RB := wc.heap.size) (d := 3) (own_below HO5.out (bel HB6.out HB7.out)) (Nat.le_trans HE5.out (bel HB6.out HB7.out).size) ([2, 3, 4].take rs.length) (fun k hk => by
          have h9 : k < 3 := by have := HNS.out; have := HMM.out; omega
          rw [List.getElem_take]
          exact kc HB7.out (HX6.out k h9)) (by have := HNS.out; have := HMM.out; have := HP1L.out; omega) 144; rw [HP2.out] at r2; rw [HNS.out] at r1; have HR1 := hidC r1; have HR2 := hidC r2; have HR3 := hidC r3; clear r1 r2 r3 ho7 hb7)
      | (at_builtin; refine wpList_app (by rfl) _ _ _ (by rfl) _ _ _ (by rfl) (by rfl) HR1.out ?_))
    have HBX : Hid (Below E w w8) := (HBW.out.trans (HB7.out.mono (Nat.le_trans HE5.out HB6.out.size))).trans HR3.out
    have hpl : P1.length + m = P2.length := by rw [← HP2.out, List.length_append, HNS.out]
    have HFF : Hid (F = P2) := HF.out.symm
    have HPL := hidC hpl
    clear hpl
    refine bodyPost_ret (by simp [results, Tryz.results82, go_sem, *]; try rfl) rfl ?_
    rw [HFF.out]
    exact ⟨_, _, by rw [HPL.out], HR2.out, HBX.out⟩

end Go.Proofs.YtgcmnkanjcfndaaGreatDoor
