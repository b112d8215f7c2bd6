import Derived.Test.YtgcmnkanjcfndaaGreatDoorTxt14
import Derived.Deep.DeepCutAuto
import Derived.Test.YtgcmnkanjcfndaaGreatDoorTxt1
import Derived.OrdersHeld
namespace Go.Proofs.YtgcmnkanjcfndaaGreatDoor
open Go.RowKit
set_option linter.unusedVariables false
set_option linter.unusedSimpArgs false
theorem info_ParA : (Tryz.prog.info? 48).map (fun i => (i.zero, i.size, i.bytes)) = some (some (.agg #[.string ⟨#[]⟩, .int .i64 0, .int .i64 0]), 3, 32) := by kernel_rfl
theorem info_InA : (Tryz.prog.info? 46).map (fun i => (i.zero, i.size, i.bytes)) = some (some (.agg #[.int .i64 0, .int .i64 0, .int .i64 0, .int .i64 0, .int .i64 0, .int .i64 0, .int .u32 0]), 7, 56) := by kernel_rfl
theorem ready_appA {P : Program} {w w' : World} {o : Oper} {a : Act} {K : Act → World → Prop} {Q : Exit → Act → World → Prop} (s x : Operand) (t u : TypeId)
  (ho : o.op = .call { callee := .builtin .append, args := #[s, x], argTypes := #[t, u] }) (v v2 v' : Value) (hs : a.eval s = v) (hx : a.eval x = v2) (hr : (Builtin.append_ #[t, u] o.type #[v, v2]).run P w = .ok v' w')
  (h : K (a.put o.dst v') w') (y' : Bool) (hy : y' = true) : if y' = true then Oper.wp P o a w K Q else K (a.put o.dst undef) w := by
 rw [if_pos hy]
 unfold Oper.wp execOp
 simp only [ho, resolve, invoke, builtin, Sem.run_bind, Sem.run_pure, Result.andThen_ok, List.map_toArray, List.map_cons, List.map_nil, hs, hx, hr]
 exact h
theorem RdA.slot {E B WB m0 m1 m2 m3 m4 : Nat} {w : World} {c : Cd} {ln st : Int} {u0 u1 u2 u3 : Value} {ws : List Bs} {b : Bool} (h : RdA E B m0 m1 m2 m3 m4 w c ln st u0 u1 u2 u3) (hw : WdM WB ws b w) (s : Sl) (hl : c.slots.length * 32 ≤ 140737488351232) (ty : TypeId) :
  ∃ g q w', (Builtin.append_ #[24, 24] ty #[u2, .slice (some ⟨w.heap.size, 0, none⟩) 1 1]).run Tryz.prog (w.alloc (.cells (slC s).toArray 60)) = .ok (.slice (some ⟨g, 0, none⟩) (c.slots.length + 1) q) w' ∧ w'.rowIs B 67 11 (g11 u0 u1 u2 u3 (.int .i64 ln) (.int .i64 st) (.map (some m0)) (.map (some m1)) (.map (some m2)) (.map (some m3)) (.map (some m4))) ∧ RdA E B m0 m1 m2 m3 m4 (w'.setCell ⟨B, 2, none⟩ (.slice (some ⟨g, 0, none⟩) (c.slots.length + 1) q)) ⟨c.sign, c.regs, c.slots ++ [s], c.list⟩ ln st u0 u1 (.slice (some ⟨g, 0, none⟩) (c.slots.length + 1) q) u3 ∧ WdM WB ws b (w'.setCell ⟨B, 2, none⟩ (.slice (some ⟨g, 0, none⟩) (c.slots.length + 1) q)) ∧ Below E w (w'.setCell ⟨B, 2, none⟩ (.slice (some ⟨g, 0, none⟩) (c.slots.length + 1) q)) := by
 have hsz : E ≤ w.heap.size := by have := h.le; have := h.row.lt; omega
 obtain ⟨p, q, rfl⟩ := own_len h.own.slots
 obtain ⟨g, c', w', h1, h2, h3, h4⟩ := own_app (t := 24) (e := 60) Tryz.underlying24 info_Slot (by rfl) (by decide) h.own.slots hsz (slC s).toArray rfl (by intro u hu; exact slC_one s u (by simpa using hu)) (by unfold maxLen; omega) (by omega) ty
 have hr := h.row.of_block (h4 _ h.row.lt (own_rowV h.own.slots h.row (by decide)))
 have k0 := own_keep h.own.sign fun b hb => h4 b (h.own.sign.lt b hb).2 fun e => own_other h.own.sign h.own.slots (by decide) b hb e
 have k1 := own_keep h.own.regs fun b hb => h4 b (h.own.regs.lt b hb).2 fun e => own_other h.own.regs h.own.slots (by decide) b hb e
 have k3 := own_keep h.own.list fun b hb => h4 b (h.own.list.lt b hb).2 fun e => own_other h.own.list h.own.slots (by decide) b hb e
 have km : MapsA E w' m0 m1 m2 m3 m4 := h.maps.keep fun C g hm => h4 C hm.lt (own_map h.own.slots hm)
 have hp := put11_2 hr (.slice (some ⟨g, 0, none⟩) (c.slots.length + 1) c')
 obtain ⟨T, w1, w2, w3⟩ := hw.row
 have hr3 := w3.of_block (h4 _ w3.lt (own_rowV h.own.slots w3 (by decide)))
 have hne : WB ≠ B := fun e => by
  obtain ⟨x, hx, -⟩ := h.row
  obtain ⟨y, hy, -⟩ := w3
  rw [e, hx] at hy
  have := (Obj.cells.inj (Option.some.inj hy)).2.1
  exact absurd this (by decide)
 refine ⟨g, c', w', h1, hr, ⟨h.le, hp.1, ⟨own_putV k0 hr (by decide) hp.2, own_putV k1 hr (by decide) hp.2, ?_, own_putV k3 hr (by decide) hp.2⟩, km.keep fun C g hm => hp.2.oth C (hm.no hr)⟩, ⟨⟨T, w1, w2, hr3.of_block (hp.2.oth _ hne)⟩, hw.no⟩, h2.trans (hp.2.bel E h.le)⟩
 show World.ownsRow _ _ _ _ _ (c.slots ++ [s]).length (flat slC (c.slots ++ [s]))
 rw [List.length_append, List.length_singleton, flat_append, show flat slC [s] = slC s by simp [flat]]
 exact own_putV (by simpa using h3) hr (by decide) hp.2
theorem RdA.ins {E B WB m0 m1 m2 m3 m4 : Nat} {w : World} {c : Cd} {ln st : Int} {u0 u1 u2 u3 : Value} {ws : List Bs} {b : Bool} (h : RdA E B m0 m1 m2 m3 m4 w c ln st u0 u1 u2 u3) (hw : WdM WB ws b w) (s : Ins) (hl : c.list.length * 56 ≤ 140737488351232) (ty : TypeId) :
  ∃ g q w', (Builtin.append_ #[25, 25] ty #[u3, .slice (some ⟨w.heap.size, 0, none⟩) 1 1]).run Tryz.prog (w.alloc (.cells (inC s).toArray 46)) = .ok (.slice (some ⟨g, 0, none⟩) (c.list.length + 1) q) w' ∧ w'.rowIs B 67 11 (g11 u0 u1 u2 u3 (.int .i64 ln) (.int .i64 st) (.map (some m0)) (.map (some m1)) (.map (some m2)) (.map (some m3)) (.map (some m4))) ∧ RdA E B m0 m1 m2 m3 m4 (w'.setCell ⟨B, 3, none⟩ (.slice (some ⟨g, 0, none⟩) (c.list.length + 1) q)) ⟨c.sign, c.regs, c.slots, c.list ++ [s]⟩ ln st u0 u1 u2 (.slice (some ⟨g, 0, none⟩) (c.list.length + 1) q) ∧ WdM WB ws b (w'.setCell ⟨B, 3, none⟩ (.slice (some ⟨g, 0, none⟩) (c.list.length + 1) q)) ∧ Below E w (w'.setCell ⟨B, 3, none⟩ (.slice (some ⟨g, 0, none⟩) (c.list.length + 1) q)) := by
 have hsz : E ≤ w.heap.size := by have := h.le; have := h.row.lt; omega
 obtain ⟨p, q, rfl⟩ := own_len h.own.list
 obtain ⟨g, c', w', h1, h2, h3, h4⟩ := own_app (t := 25) (e := 46) Tryz.underlying25 info_InA (by rfl) (by decide) h.own.list hsz (inC s).toArray rfl (by intro u hu; exact inC_one s u (by simpa using hu)) (by unfold maxLen; omega) (by omega) ty
 have hr := h.row.of_block (h4 _ h.row.lt (own_rowV h.own.list h.row (by decide)))
 have k0 := own_keep h.own.sign fun b hb => h4 b (h.own.sign.lt b hb).2 fun e => own_other h.own.sign h.own.list (by decide) b hb e
 have k1 := own_keep h.own.regs fun b hb => h4 b (h.own.regs.lt b hb).2 fun e => own_other h.own.regs h.own.list (by decide) b hb e
 have k2 := own_keep h.own.slots fun b hb => h4 b (h.own.slots.lt b hb).2 fun e => own_other h.own.slots h.own.list (by decide) b hb e
 have km : MapsA E w' m0 m1 m2 m3 m4 := h.maps.keep fun C g hm => h4 C hm.lt (own_map h.own.list hm)
 have hp := put11_3 hr (.slice (some ⟨g, 0, none⟩) (c.list.length + 1) c')
 obtain ⟨T, w1, w2, w3⟩ := hw.row
 have hr3 := w3.of_block (h4 _ w3.lt (own_rowV h.own.list w3 (by decide)))
 have hne : WB ≠ B := fun e => by
  obtain ⟨x, hx, -⟩ := h.row
  obtain ⟨y, hy, -⟩ := w3
  rw [e, hx] at hy
  have := (Obj.cells.inj (Option.some.inj hy)).2.1
  exact absurd this (by decide)
 refine ⟨g, c', w', h1, hr, ⟨h.le, hp.1, ⟨own_putV k0 hr (by decide) hp.2, own_putV k1 hr (by decide) hp.2, own_putV k2 hr (by decide) hp.2, ?_⟩, km.keep fun C g hm => hp.2.oth C (hm.no hr)⟩, ⟨⟨T, w1, w2, hr3.of_block (hp.2.oth _ hne)⟩, hw.no⟩, h2.trans (hp.2.bel E h.le)⟩
 show World.ownsRow _ _ _ _ _ (c.list ++ [s]).length (flat inC (c.list ++ [s]))
 rw [List.length_append, List.length_singleton, flat_append, show flat inC [s] = inC s by simp [flat]]
 exact own_putV (by simpa using h3) hr (by decide) hp.2
theorem RdA.par {E B WB m0 m1 m2 m3 m4 : Nat} {w : World} {c : Cd} {ln st : Int} {u0 u1 u2 u3 : Value} {ws : List Bs} {b : Bool} (h : RdA E B m0 m1 m2 m3 m4 w c ln st u0 u1 u2 u3) (hw : WdM WB ws b w) (s : Par) (hl : c.sign.length * 32 ≤ 140737488351232) (ty : TypeId) :
  ∃ g q w', (Builtin.append_ #[22, 22] ty #[u0, .slice (some ⟨w.heap.size, 0, none⟩) 1 1]).run Tryz.prog (w.alloc (.cells (parCells s).toArray 48)) = .ok (.slice (some ⟨g, 0, none⟩) (c.sign.length + 1) q) w' ∧ w'.rowIs B 67 11 (g11 u0 u1 u2 u3 (.int .i64 ln) (.int .i64 st) (.map (some m0)) (.map (some m1)) (.map (some m2)) (.map (some m3)) (.map (some m4))) ∧ RdA E B m0 m1 m2 m3 m4 (w'.setCell ⟨B, 0, none⟩ (.slice (some ⟨g, 0, none⟩) (c.sign.length + 1) q)) ⟨c.sign ++ [s], c.regs, c.slots, c.list⟩ ln st (.slice (some ⟨g, 0, none⟩) (c.sign.length + 1) q) u1 u2 u3 ∧ WdM WB ws b (w'.setCell ⟨B, 0, none⟩ (.slice (some ⟨g, 0, none⟩) (c.sign.length + 1) q)) ∧ Below E w (w'.setCell ⟨B, 0, none⟩ (.slice (some ⟨g, 0, none⟩) (c.sign.length + 1) q)) := by
 have hsz : E ≤ w.heap.size := by have := h.le; have := h.row.lt; omega
 obtain ⟨p, q, rfl⟩ := own_len h.own.sign
 obtain ⟨g, c', w', h1, h2, h3, h4⟩ := own_app (t := 22) (e := 48) Tryz.underlying22 info_ParA (by rfl) (by decide) h.own.sign hsz (parCells s).toArray rfl (by intro u hu; exact parC_one s u (by simpa using hu)) (by unfold maxLen; omega) (by omega) ty
 have hr := h.row.of_block (h4 _ h.row.lt (own_rowV h.own.sign h.row (by decide)))
 have k1 := own_keep h.own.regs fun b hb => h4 b (h.own.regs.lt b hb).2 fun e => own_other h.own.regs h.own.sign (by decide) b hb e
 have k2 := own_keep h.own.slots fun b hb => h4 b (h.own.slots.lt b hb).2 fun e => own_other h.own.slots h.own.sign (by decide) b hb e
 have k3 := own_keep h.own.list fun b hb => h4 b (h.own.list.lt b hb).2 fun e => own_other h.own.list h.own.sign (by decide) b hb e
 have km : MapsA E w' m0 m1 m2 m3 m4 := h.maps.keep fun C g hm => h4 C hm.lt (own_map h.own.sign hm)
 have hp := put11_0 hr (.slice (some ⟨g, 0, none⟩) (c.sign.length + 1) c')
 obtain ⟨T, w1, w2, w3⟩ := hw.row
 have hr3 := w3.of_block (h4 _ w3.lt (own_rowV h.own.sign w3 (by decide)))
 have hne : WB ≠ B := fun e => by
  obtain ⟨x, hx, -⟩ := h.row
  obtain ⟨y, hy, -⟩ := w3
  rw [e, hx] at hy
  have := (Obj.cells.inj (Option.some.inj hy)).2.1
  exact absurd this (by decide)
 refine ⟨g, c', w', h1, hr, ⟨h.le, hp.1, ⟨?_, own_putV k1 hr (by decide) hp.2, own_putV k2 hr (by decide) hp.2, own_putV k3 hr (by decide) hp.2⟩, km.keep fun C g hm => hp.2.oth C (hm.no hr)⟩, ⟨⟨T, w1, w2, hr3.of_block (hp.2.oth _ hne)⟩, hw.no⟩, h2.trans (hp.2.bel E h.le)⟩
 show World.ownsRow _ _ _ _ _ (c.sign ++ [s]).length (flat parCells (c.sign ++ [s]))
 rw [List.length_append, List.length_singleton, flat_append, show flat parCells [s] = parCells s by simp [flat]]
 exact own_putV (by simpa using h3) hr (by decide) hp.2
end Go.Proofs.YtgcmnkanjcfndaaGreatDoor
namespace Go.Proofs.YtgcmnkanjcfndaaGreatDoor
open Go.RowKit
set_option linter.unusedVariables false
set_option linter.unusedSimpArgs false
def LineT (E B WB m0 m1 m2 m3 m4 : Nat) (ln st : Int) (o : Option Cd) (w : World) (e : Ending) (w' : World) : Prop :=
 e = .returned (.tuple #[]) ∧ ∃ (c' : Cd) (u0 u1 u2 u3 : Value) (ws' : List Bs) (b' : Bool), RdA E B m0 m1 m2 m3 m4 w' c' ln st u0 u1 u2 u3 ∧ WdM WB ws' b' w' ∧ Below E w w' ∧ SayT o c' ws' b'
theorem RdA.len {E B m0 m1 m2 m3 m4 : Nat} {w : World} {c : Cd} {ln st : Int} {u0 u1 u2 u3 : Value} (h : RdA E B m0 m1 m2 m3 m4 w c ln st u0 u1 u2 u3) : ∃ p q, u1 = .slice p c.regs.length q := own_len h.own.regs
set_option maxRecDepth 100000 in
set_option maxHeartbeats 4000000 in
theorem rreg_any (E B WB m0 m1 m2 m3 m4 : Nat) (c : Cd) (ln st : Int) (u0 u1 u2 u3 : Value) (ws : List Bs) (w : World) (hL : LaidE E w) (hE : E ≤ WB) (h : RdA E B m0 m1 m2 m3 m4 w c ln st u0 u1 u2 u3) (hw : WdM WB ws false w) (ha : (nxW ws).1 = regB) (hl : c.regs.length ≤ 4194304) :
  Calls Tryz.prog 88 #[.pointer (some ⟨B, 0, none⟩), .pointer (some ⟨WB, 0, none⟩)] w fun e w' => LineT E B WB m0 m1 m2 m3 m4 ln st ((regLn c.regs.length ws).map fun t => ⟨c.sign, c.regs ++ [t], c.slots, c.list⟩) w e w' := by
 have HA := hidC ha
 have HLn := hidC hl
 have HX := hidC (And.intro hE (And.intro hL h))
 have K1 := hidC (wnext_any WB ws false w hL.laid hw)
 have hlE := hL.le
 have HLE := hidC hlE
 have HW := hidC hw
 clear h hw hL hE ha hl hlE
 go_enter Tryz.func88, Tryz.ntmps88
 go_upto_region 1 with (go_at_call 118; (with_reducible refine K1.out.mono ?_); rintro e w1 ⟨U, rfl, hU, hU2, h1, k1⟩; have H1 := hidC (And.intro h1 k1); clear h1 k1 hU hU2)
 obtain ⟨T0, -, -, hrow0⟩ := HW.out.row
 have hd1 := H1.out.1.below (bel_d w1)
 have hR1 := (HX.out.2.2.ofB hrow0 H1.out.2).below (bel_d w1)
 have hL1 := (HX.out.2.1.ofB HX.out.1 H1.out.2).below ((bel_d w1).mono (HX.out.2.1.ofB HX.out.1 H1.out.2).le)
 have KN := hidC (wnum_any WB (nxW ws).2 false w1.drew hL1.laid hd1 (fun v k => (hL1.ofB HX.out.1 k).laid))
 have HO1 := hidC (And.intro hd1 (And.intro hR1 hL1))
 obtain ⟨N, hN⟩ : ∃ N, c.regs.length = N := ⟨_, rfl⟩
 obtain ⟨p1, q1, hu1⟩ := hR1.len
 rw [hN] at hu1
 have v1 : w1.drew.cell? ⟨B, 1, none⟩ = some (.slice p1 N q1) := by rw [hR1.row.cell (i := 1) (by decide), ← hu1]; rfl
 have HN := hidC (And.intro hN hu1)
 clear hd1 hR1 hL1 hrow0 hN hu1
 have v1' : w1.cell? ⟨B, 1, none⟩ = some (.slice p1 N q1) := by simpa using v1
 refine wp_region_held_drew (S := (fun v => v.cell? ⟨B, 1, none⟩ = some (.slice p1 N q1))) (by kernel_rfl) ?_ (fun hHeld => ?_)
 ·((try dsimp only); go_keep)
 refine tkT 0 ?_
 refine tkT 1 ?_
 refine tkT 3 ?_
 refine tkT 4 ?_
 refine tkT 5 ?_
 refine tkT 6 ?_
 refine tkT 7 ?_
 refine tkT 8 ?_
 clear hHeld
 refine wpAnyH_ready (rs := [2]) (by kernel_rfl) (by simp) ?_
 refine AllReadyH.cons (i := 2) (by simp only [List.getElem?_toArray, List.getElem?_cons_succ, List.getElem?_cons_zero]; rfl) (fun K hK => ?_) AllReadyH.nil
 go_simp
 (go_at_call 121; (with_reducible refine KN.out.mono ?_); rintro e w2 ⟨n, rfl, hm, h2, k2⟩; have H2 := hidC (And.intro h2 (And.intro k2 hm)); clear h2 k2 hm)
 have hR2 := hidC (HO1.out.2.1.ofB (HO1.out.1.row.choose_spec.2.2) H2.out.2.1)
 have v2 : w2.cell? ⟨B, 1, none⟩ = some (.slice p1 N q1) := by rw [hR2.out.row.cell (i := 1) (by decide), ← HN.out.2]; rfl
 clear v1 v1'
 try (go_wp2_with fail)
 refine hK.out _ _ ?_ (fun hHeld => ?_)
 ·((try dsimp only); go_keep)
 clear hK K
 try simp only [Act.put, List.setIfInBounds_toArray, List.set_cons_zero, List.set_cons_succ]
 refine tkT 9 ?_
 clear hHeld
 refine wpAnyH_ready (rs := [10]) (by kernel_rfl) (by simp) ?_
 refine AllReadyH.cons (i := 10) (by simp only [List.getElem?_toArray, List.getElem?_cons_succ, List.getElem?_cons_zero]; rfl) (fun K hK => ?_) AllReadyH.nil
 go_simp
 (go_at_call 122; (with_reducible refine (whold_any WB _ _ _ _ H2.out.1).mono ?_); rintro e w3 ⟨rfl, h3, k3⟩; have H3 := hidC (And.intro h3 k3); clear h3 k3)
 have hR3 := hidC (hR2.out.ofB (H2.out.1.row.choose_spec.2.2) H3.out.2)
 have v3 : w3.cell? ⟨B, 1, none⟩ = some (.slice p1 N q1) := by rw [hR3.out.row.cell (i := 1) (by decide), ← HN.out.2]; rfl
 clear v2
 try (go_wp2_with fail)
 refine hK.out _ _ ?_ (fun hHeld => ?_)
 ·((try dsimp only); go_keep)
 clear hK K
 try simp only [Act.put, List.setIfInBounds_toArray, List.set_cons_zero, List.set_cons_succ]
 refine wpAnyH_done (by kernel_rfl) ?_ _
 have hd3 := H3.out.1.below (bel_d w3)
 have hR3d := hR3.out.below (bel_d w3)
 have hL3 := (HO1.out.2.2.ofB HX.out.1 H2.out.2.1).ofB HX.out.1 H3.out.2
 have HL3 := hidC (hL3.below ((bel_d w3).mono hL3.le))
 have HD3 := hidC hd3
 have HR3d := hidC hR3d
 have KT := hidC (typed_any E B WB m0 m1 m2 m3 m4 c ln st u0 u1 u2 u3 _ _ w3.drew HL3.out HX.out.1 hR3d hd3)
 have v3d : w3.drew.cell? ⟨B, 1, none⟩ = some (.slice p1 N q1) := by simpa using v3
 clear hd3 hR3d hL3 v3
 go_upto_region 2 with fail
 refine wp_region_held_drew (S := (fun _ => True)) (by kernel_rfl) ?_ (fun hHeld => ?_)
 ·trivial
 refine tkT 0 ?_
 refine tkT 1 ?_
 refine tkT 2 ?_
 refine tkT 3 ?_
 refine tkT 4 ?_
 refine tkT 6 ?_
 refine tkT 7 ?_
 clear hHeld
 refine wpAnyH_ready (rs := [5, 8]) (by kernel_rfl) (by simp) ?_
 refine AllReadyH.cons (i := 5) (by simp only [List.getElem?_toArray, List.getElem?_cons_succ, List.getElem?_cons_zero]; rfl) (fun K hK => ?_) ?_
 ·go_simp
  refine hK.out _ _ ?_ (fun hHeld => ?_)
  ·trivial
  clear hK K
  try simp only [Act.put, List.setIfInBounds_toArray, List.set_cons_zero, List.set_cons_succ]
  clear hHeld
  refine wpAnyH_ready (rs := [8]) (by kernel_rfl) (by simp) ?_
  refine AllReadyH.cons (i := 8) (by simp only [List.getElem?_toArray, List.getElem?_cons_succ, List.getElem?_cons_zero]; rfl) (fun K hK => ?_) AllReadyH.nil
  go_simp
  (go_at_call 123; (with_reducible refine KT.out.mono ?_); rintro e w4 ⟨⟨tk, tp⟩, ws4, b4, rfl, h4, k4, ht4⟩; have H4 := hidC (And.intro h4 (And.intro k4 ht4)); clear h4 k4 ht4)
  have hR4 := hidC (HR3d.out.ofB (HD3.out.row.choose_spec.2.2) H4.out.2.1)
  obtain ⟨g, q, w5, hrun, hrow5, hrd5, hwd5, hbe5⟩ := hR4.out.reg H4.out.1 ⟨tk, tp⟩ (by have := HLn.out; omega) 23
  have H5 := hidC (And.intro hrd5 (And.intro hwd5 hbe5))
  clear hrd5 hwd5 hbe5
  rw [HN.out.2, HN.out.1] at hrun
  have hrun5 : (Builtin.append_ #[23, 23] 23 #[.slice p1 N q1, .slice (some ⟨w4.heap.size, 0, none⟩) 1 1]).run Tryz.prog (w4.alloc (.cells #[.int .i64 tk, .int .i64 tp] 50)) = .ok (.slice (some ⟨g, 0, none⟩) (N + 1) q) w5 := hrun
  have HRUN := hidC hrun5
  clear hrun hrun5
  have z5 := hrow5.frozen 1
  have c5 := hrow5.cell (i := 1) (by decide)
  have c5' : w5.cell? ⟨B, 1, none⟩ = some u1 := c5
  rw [HN.out.2] at c5'
  clear c5 hrow5
  have v4 : w4.cell? ⟨B, 1, none⟩ = some (.slice p1 N q1) := by rw [hR4.out.row.cell (i := 1) (by decide), ← HN.out.2]; rfl
  have v4' : (w4.alloc (.cells #[.int .i64 tk, .int .i64 tp] 50)).cell? ⟨B, 1, none⟩ = some (.slice p1 N q1) := kc (bel_alloc _ _) v4
  try (go_wp2_with fail)
  refine hK.out _ _ ?_ (fun hHeld => ?_)
  ·trivial
  clear hK K
  try simp only [Act.put, List.setIfInBounds_toArray, List.set_cons_zero, List.set_cons_succ]
  clear hHeld
  refine wpAnyH_ready (rs := [9]) (by kernel_rfl) (by simp) ?_
  refine AllReadyH.cons (i := 9) (by simp only [List.getElem?_toArray, List.getElem?_cons_succ, List.getElem?_cons_zero]; rfl) (fun K hK => ?_) AllReadyH.nil
  go_simp
  refine hK.out _ _ ?_ (fun hHeld => ?_)
  ·trivial
  clear hK K
  try simp only [Act.put, List.setIfInBounds_toArray, List.set_cons_zero, List.set_cons_succ]
  clear hHeld
  refine wpAnyH_ready (rs := [10]) (by kernel_rfl) (by simp) ?_
  refine AllReadyH.cons (i := 10) (by simp only [List.getElem?_toArray, List.getElem?_cons_succ, List.getElem?_cons_zero]; rfl) (fun K hK => ?_) AllReadyH.nil
  refine ready_appA _ _ _ _ (by rfl) _ _ _ (by rfl) (by rfl) HRUN.out ?_ _ (by rfl)
  refine hK.out _ _ ?_ (fun hHeld => ?_)
  ·trivial
  clear hK K
  try simp only [Act.put, List.setIfInBounds_toArray, List.set_cons_zero, List.set_cons_succ]
  refine tkT 11 ?_
  refine tkT 12 ?_
  refine tkT 13 ?_
  clear hHeld
  refine wpAnyH_ready (rs := [14]) (by kernel_rfl) (by simp) ?_
  refine AllReadyH.cons (i := 14) (by simp only [List.getElem?_toArray, List.getElem?_cons_succ, List.getElem?_cons_zero]; rfl) (fun K hK => ?_) AllReadyH.nil
  go_simp
  refine hK.out _ _ ?_ (fun hHeld => ?_)
  ·trivial
  clear hK K
  try simp only [Act.put, List.setIfInBounds_toArray, List.set_cons_zero, List.set_cons_succ]
  refine wpAnyH_done (by kernel_rfl) ?_ _
  refine bodyPost_end (by simp [results, Tryz.results88, go_sem, *]; try rfl) rfl ?_
  have hE := HX.out.1
  have l0 := HX.out.2.1.le
  have s1 := H1.out.2.size
  have s1d := (bel_d w1).size
  have s2 := H2.out.2.1.size
  have s3 := H3.out.2.size
  have s3d := (bel_d w3).size
  have s4 := H4.out.2.1.size
  have b1 := H1.out.2.bel E hE l0
  have b1d : Below E w1 w1.drew := (bel_d w1).mono (by omega)
  have b2 := H2.out.2.1.bel E hE (by omega)
  have b3 := H3.out.2.bel E hE (by omega)
  have b3d : Below E w3 w3.drew := (bel_d w3).mono (by omega)
  have b4 := H4.out.2.1.bel E hE (by omega)
  have r5 := H5.out.1
  have d5 := H5.out.2.1
  have e5 := H5.out.2.2
  rw [HN.out.1] at r5 d5 e5
  have hreg := reg_end (n := (c.regs.length : Int)) (c := c) HA.out H2.out.2.2 (by rw [HN.out.1]; exact H4.out.2.2)
  exact ⟨rfl, _, _, _, _, _, _, _, r5, d5, (((((b1.trans b1d).trans b2).trans b3).trans b3d).trans b4).trans e5, reg_say hreg⟩
 refine AllReadyH.cons (i := 8) (by simp only [List.getElem?_toArray, List.getElem?_cons_succ, List.getElem?_cons_zero]; rfl) (fun K hK => ?_) AllReadyH.nil
 go_simp
 (go_at_call 123; (with_reducible refine KT.out.mono ?_); rintro e w4 ⟨⟨tk, tp⟩, ws4, b4, rfl, h4, k4, ht4⟩; have H4 := hidC (And.intro h4 (And.intro k4 ht4)); clear h4 k4 ht4)
 have hR4 := hidC (HR3d.out.ofB (HD3.out.row.choose_spec.2.2) H4.out.2.1)
 obtain ⟨g, q, w5, hrun, hrow5, hrd5, hwd5, hbe5⟩ := hR4.out.reg H4.out.1 ⟨tk, tp⟩ (by have := HLn.out; omega) 23
 have H5 := hidC (And.intro hrd5 (And.intro hwd5 hbe5))
 clear hrd5 hwd5 hbe5
 rw [HN.out.2, HN.out.1] at hrun
 have hrun5 : (Builtin.append_ #[23, 23] 23 #[.slice p1 N q1, .slice (some ⟨w4.heap.size, 0, none⟩) 1 1]).run Tryz.prog (w4.alloc (.cells #[.int .i64 tk, .int .i64 tp] 50)) = .ok (.slice (some ⟨g, 0, none⟩) (N + 1) q) w5 := hrun
 have HRUN := hidC hrun5
 clear hrun hrun5
 have z5 := hrow5.frozen 1
 have c5 := hrow5.cell (i := 1) (by decide)
 have c5' : w5.cell? ⟨B, 1, none⟩ = some u1 := c5
 rw [HN.out.2] at c5'
 clear c5 hrow5
 have v4 : w4.cell? ⟨B, 1, none⟩ = some (.slice p1 N q1) := by rw [hR4.out.row.cell (i := 1) (by decide), ← HN.out.2]; rfl
 have v4' : (w4.alloc (.cells #[.int .i64 tk, .int .i64 tp] 50)).cell? ⟨B, 1, none⟩ = some (.slice p1 N q1) := kc (bel_alloc _ _) v4
 try (go_wp2_with fail)
 refine hK.out _ _ ?_ (fun hHeld => ?_)
 ·trivial
 clear hK K
 try simp only [Act.put, List.setIfInBounds_toArray, List.set_cons_zero, List.set_cons_succ]
 clear hHeld
 refine wpAnyH_ready (rs := [5, 9]) (by kernel_rfl) (by simp) ?_
 refine AllReadyH.cons (i := 5) (by simp only [List.getElem?_toArray, List.getElem?_cons_succ, List.getElem?_cons_zero]; rfl) (fun K hK => ?_) ?_
 ·go_simp
  refine hK.out _ _ ?_ (fun hHeld => ?_)
  ·trivial
  clear hK K
  try simp only [Act.put, List.setIfInBounds_toArray, List.set_cons_zero, List.set_cons_succ]
  clear hHeld
  refine wpAnyH_ready (rs := [9]) (by kernel_rfl) (by simp) ?_
  refine AllReadyH.cons (i := 9) (by simp only [List.getElem?_toArray, List.getElem?_cons_succ, List.getElem?_cons_zero]; rfl) (fun K hK => ?_) AllReadyH.nil
  go_simp
  refine hK.out _ _ ?_ (fun hHeld => ?_)
  ·trivial
  clear hK K
  try simp only [Act.put, List.setIfInBounds_toArray, List.set_cons_zero, List.set_cons_succ]
  clear hHeld
  refine wpAnyH_ready (rs := [10]) (by kernel_rfl) (by simp) ?_
  refine AllReadyH.cons (i := 10) (by simp only [List.getElem?_toArray, List.getElem?_cons_succ, List.getElem?_cons_zero]; rfl) (fun K hK => ?_) AllReadyH.nil
  refine ready_appA _ _ _ _ (by rfl) _ _ _ (by rfl) (by rfl) HRUN.out ?_ _ (by rfl)
  refine hK.out _ _ ?_ (fun hHeld => ?_)
  ·trivial
  clear hK K
  try simp only [Act.put, List.setIfInBounds_toArray, List.set_cons_zero, List.set_cons_succ]
  refine tkT 11 ?_
  refine tkT 12 ?_
  refine tkT 13 ?_
  clear hHeld
  refine wpAnyH_ready (rs := [14]) (by kernel_rfl) (by simp) ?_
  refine AllReadyH.cons (i := 14) (by simp only [List.getElem?_toArray, List.getElem?_cons_succ, List.getElem?_cons_zero]; rfl) (fun K hK => ?_) AllReadyH.nil
  go_simp
  refine hK.out _ _ ?_ (fun hHeld => ?_)
  ·trivial
  clear hK K
  try simp only [Act.put, List.setIfInBounds_toArray, List.set_cons_zero, List.set_cons_succ]
  refine wpAnyH_done (by kernel_rfl) ?_ _
  refine bodyPost_end (by simp [results, Tryz.results88, go_sem, *]; try rfl) rfl ?_
  have hE := HX.out.1
  have l0 := HX.out.2.1.le
  have s1 := H1.out.2.size
  have s1d := (bel_d w1).size
  have s2 := H2.out.2.1.size
  have s3 := H3.out.2.size
  have s3d := (bel_d w3).size
  have s4 := H4.out.2.1.size
  have b1 := H1.out.2.bel E hE l0
  have b1d : Below E w1 w1.drew := (bel_d w1).mono (by omega)
  have b2 := H2.out.2.1.bel E hE (by omega)
  have b3 := H3.out.2.bel E hE (by omega)
  have b3d : Below E w3 w3.drew := (bel_d w3).mono (by omega)
  have b4 := H4.out.2.1.bel E hE (by omega)
  have r5 := H5.out.1
  have d5 := H5.out.2.1
  have e5 := H5.out.2.2
  rw [HN.out.1] at r5 d5 e5
  have hreg := reg_end (n := (c.regs.length : Int)) (c := c) HA.out H2.out.2.2 (by rw [HN.out.1]; exact H4.out.2.2)
  exact ⟨rfl, _, _, _, _, _, _, _, r5, d5, (((((b1.trans b1d).trans b2).trans b3).trans b3d).trans b4).trans e5, reg_say hreg⟩
 refine AllReadyH.cons (i := 9) (by simp only [List.getElem?_toArray, List.getElem?_cons_succ, List.getElem?_cons_zero]; rfl) (fun K hK => ?_) AllReadyH.nil
 go_simp
 refine hK.out _ _ ?_ (fun hHeld => ?_)
 ·trivial
 clear hK K
 try simp only [Act.put, List.setIfInBounds_toArray, List.set_cons_zero, List.set_cons_succ]
 clear hHeld
 refine wpAnyH_ready (rs := [5]) (by kernel_rfl) (by simp) ?_
 refine AllReadyH.cons (i := 5) (by simp only [List.getElem?_toArray, List.getElem?_cons_succ, List.getElem?_cons_zero]; rfl) (fun K hK => ?_) AllReadyH.nil
 go_simp
 refine hK.out _ _ ?_ (fun hHeld => ?_)
 ·trivial
 clear hK K
 try simp only [Act.put, List.setIfInBounds_toArray, List.set_cons_zero, List.set_cons_succ]
 clear hHeld
 refine wpAnyH_ready (rs := [10]) (by kernel_rfl) (by simp) ?_
 refine AllReadyH.cons (i := 10) (by simp only [List.getElem?_toArray, List.getElem?_cons_succ, List.getElem?_cons_zero]; rfl) (fun K hK => ?_) AllReadyH.nil
 refine ready_appA _ _ _ _ (by rfl) _ _ _ (by rfl) (by rfl) HRUN.out ?_ _ (by rfl)
 refine hK.out _ _ ?_ (fun hHeld => ?_)
 ·trivial
 clear hK K
 try simp only [Act.put, List.setIfInBounds_toArray, List.set_cons_zero, List.set_cons_succ]
 refine tkT 11 ?_
 refine tkT 12 ?_
 refine tkT 13 ?_
 clear hHeld
 refine wpAnyH_ready (rs := [14]) (by kernel_rfl) (by simp) ?_
 refine AllReadyH.cons (i := 14) (by simp only [List.getElem?_toArray, List.getElem?_cons_succ, List.getElem?_cons_zero]; rfl) (fun K hK => ?_) AllReadyH.nil
 go_simp
 refine hK.out _ _ ?_ (fun hHeld => ?_)
 ·trivial
 clear hK K
 try simp only [Act.put, List.setIfInBounds_toArray, List.set_cons_zero, List.set_cons_succ]
 refine wpAnyH_done (by kernel_rfl) ?_ _
 refine bodyPost_end (by simp [results, Tryz.results88, go_sem, *]; try rfl) rfl ?_
 have hE := HX.out.1
 have l0 := HX.out.2.1.le
 have s1 := H1.out.2.size
 have s1d := (bel_d w1).size
 have s2 := H2.out.2.1.size
 have s3 := H3.out.2.size
 have s3d := (bel_d w3).size
 have s4 := H4.out.2.1.size
 have b1 := H1.out.2.bel E hE l0
 have b1d : Below E w1 w1.drew := (bel_d w1).mono (by omega)
 have b2 := H2.out.2.1.bel E hE (by omega)
 have b3 := H3.out.2.bel E hE (by omega)
 have b3d : Below E w3 w3.drew := (bel_d w3).mono (by omega)
 have b4 := H4.out.2.1.bel E hE (by omega)
 have r5 := H5.out.1
 have d5 := H5.out.2.1
 have e5 := H5.out.2.2
 rw [HN.out.1] at r5 d5 e5
 have hreg := reg_end (n := (c.regs.length : Int)) (c := c) HA.out H2.out.2.2 (by rw [HN.out.1]; exact H4.out.2.2)
 exact ⟨rfl, _, _, _, _, _, _, _, r5, d5, (((((b1.trans b1d).trans b2).trans b3).trans b3d).trans b4).trans e5, reg_say hreg⟩
end Go.Proofs.YtgcmnkanjcfndaaGreatDoor
namespace Go.Proofs.YtgcmnkanjcfndaaGreatDoor
set_option linter.unusedVariables false
set_option linter.unusedSimpArgs false
def setA (i : Ins) (o : Nat) (v : Int) : Ins := if o = 1 then { i with d := v } else if o = 2 then { i with a := v } else if o = 3 then { i with b := v } else { i with c := v }
def insA0 (op : Nat) : Ins := ⟨(op : Int), 0, 0, 0, 0, 0, 0⟩
def rgO (i : Ins) : List Nat := (if (rowP i.op).d != 0 then [1] else []) ++ [2, 3, 4].take (readsP i (rowP i.op)).length
def goR : List Nat → Ins → List Bs → Option (Ins × List Bs)
 | [], i, ws => some (i, ws)
 | o :: os, i, ws => (rgW (nxW ws).1).bind fun n => goR os (setA i o n) (nxW ws).2
theorem row_abc : ∀ n : Nat, n < 38 → ((rowP (n : Int)).a = 0 → (rowP (n : Int)).b = 0) ∧ ((rowP (n : Int)).b = 0 → (rowP (n : Int)).c = 0) := by decide +kernel
theorem goR_fld {α : Type} (op : Nat) (hop : op < 38) (ws : List Bs) (G : Int → Int → Int → Int → List Bs → Option α) :
  ((fldLn (rowP (op : Int)).d ws).bind fun d => (fldLn (rowP (op : Int)).a d.2).bind fun a => (fldLn (rowP (op : Int)).b a.2).bind fun b => (fldLn (rowP (op : Int)).c b.2).bind fun c => G d.1 a.1 b.1 c.1 c.2) = (goR (rgO (insA0 op)) (insA0 op) ws).bind fun x => G x.1.d x.1.a x.1.b x.1.c x.2 := by
 obtain ⟨h1, h2⟩ := row_abc op hop
 unfold rgO readsP insA0
 simp only
 generalize (rowP (op : Int)).d = D at *
 generalize (rowP (op : Int)).a = A at *
 generalize (rowP (op : Int)).b = B at *
 generalize (rowP (op : Int)).c = C at *
 by_cases hd : D = 0 <;> by_cases ha : A = 0
 ·simp [fld_take, hd, ha, h1 ha, h2 (h1 ha), goR]
 ·by_cases hb : B = 0
  ·simp [fld_take, hd, ha, hb, h2 hb, goR, setA, Option.bind_assoc]
  ·by_cases hc : C = 0
   ·simp [fld_take, hd, ha, hb, hc, goR, setA, Option.bind_assoc]
   ·simp [fld_take, hd, ha, hb, hc, goR, setA, Option.bind_assoc]
 ·simp [fld_take, hd, ha, h1 ha, h2 (h1 ha), goR, setA, Option.bind_assoc]
 ·by_cases hb : B = 0
  ·simp [fld_take, hd, ha, hb, h2 hb, goR, setA, Option.bind_assoc]
  ·by_cases hc : C = 0
   ·simp [fld_take, hd, ha, hb, hc, goR, setA, Option.bind_assoc]
   ·simp [fld_take, hd, ha, hb, hc, goR, setA, Option.bind_assoc]
theorem ins_goR (ws : List Bs) : insLn ws = (opW (nxW ws).1).bind fun k => (goR (rgO (insA0 (k + 1))) (insA0 (k + 1)) (nxW ws).2).bind fun x => (endLn (rowP ((k : Int) + 1)).n x.2).bind fun e => some ⟨(k : Int) + 1, x.1.d, x.1.a, x.1.b, x.1.c, e.1, e.2⟩ := by
 rw [ins_take]
 cases h : opW (nxW ws).1 with
 | none => rfl
 | some k =>
  rw [Option.bind_some, Option.bind_some]
  have hk := (op_out h).1
  have e := goR_fld (k + 1) (by omega) (nxW ws).2 (fun d a b c l => (endLn (rowP ((k : Int) + 1)).n l).bind fun e => some (⟨(k : Int) + 1, d, a, b, c, e.1, e.2⟩ : Ins))
  rw [show (((k + 1 : Nat) : Int)) = (k : Int) + 1 by omega] at e
  exact e
theorem meanA_some {L : List Bs} : ∀ {n j : Nat} {s : Bs}, meanA L n s = some j → j < n ∧ s = (L[j]?).getD [] ∧ s ≠ []
 | 0, j, s, h => by cases h
 | n + 1, j, s, h => by
  rw [meanA] at h
  by_cases q : s = (L[n]?).getD [] ∧ s ≠ []
  ·rw [if_pos q] at h
   have := Option.some.inj h
   subst this
   exact ⟨by omega, q.1, q.2⟩
  ·rw [if_neg q] at h
   obtain ⟨h1, h2⟩ := meanA_some h
   exact ⟨by omega, h2⟩
theorem ops_all : ∀ k : Nat, k < 37 → meanA opsB 38 (opT ((k : Int) + 1)) = some (k + 1) := by decide +kernel
theorem ops_mean (x : Bs) : meanA opsB 38 x = (opW x).map fun k => k + 1 := by
 cases h : opW x with
 | some k =>
  obtain ⟨h1, rfl⟩ := op_out h
  exact ops_all k h1
 | none =>
  show meanA opsB 38 x = none
  refine none_or fun j hj => ?_
  obtain ⟨h1, h2, h3⟩ := meanA_some hj
  cases j with
  | zero => exact h3 (by rw [h2]; rfl)
  | succ k =>
   have e : x = opT ((k : Int) + 1) := by rw [h2]; unfold opT; rw [show ((k : Int) + 1).toNat = k + 1 by omega]
   rw [e, op_all k (by omega)] at h
   cases h
def nmB (op : Nat) : Bool := decide (op = 2 ∨ op = 29 ∨ op = 30 ∨ op = 31 ∨ op = 32 ∨ op = 33 ∨ op = 36)
theorem row_endA : ∀ op : Nat, op < 38 → nmB op = true → (rowP (op : Int)).n ≠ 0 := by decide +kernel
theorem row_endB : ∀ op : Nat, op < 38 → nmB op = true → (rowP (op : Int)).n ≠ 7 := by decide +kernel
theorem row_endC : ∀ op : Nat, op < 38 → nmB op = false → op = 0 ∨ op = 1 ∨ (rowP (op : Int)).n = 0 := by decide +kernel
theorem row_end (op : Nat) (h : op < 38) (h1 : 1 ≤ op) : (nmB op = true → (rowP (op : Int)).n ≠ 0 ∧ (rowP (op : Int)).n ≠ 7) ∧ (op = 1 → (rowP (op : Int)).n = 7 ∧ nmB op = false) ∧ (nmB op = false → op ≠ 1 → (rowP (op : Int)).n = 0) := by
 refine ⟨fun q => ⟨row_endA op h q, row_endB op h q⟩, fun q => by subst q; decide, fun q q1 => ?_⟩
 rcases row_endC op h q with e | e | e
 ·omega
 ·exact absurd e q1
 ·exact e
structure InsI (F : List Nat) (i0 : Ins) (ws0 : List Bs) (bad : Bool) (j : Nat) (i : Ins) (ws : List Bs) (b : Bool) : Prop where
 good : b = false → bad = false ∧ goR F i0 ws0 = goR (F.drop j) i ws
 wrong : b = true → bad = true ∨ goR F i0 ws0 = none
 rest : i.op = i0.op ∧ i.n = i0.n ∧ i.bits = i0.bits
theorem InsI.start (F : List Nat) (i0 : Ins) (ws0 : List Bs) (bad : Bool) : InsI F i0 ws0 bad 0 i0 ws0 bad := ⟨fun h => ⟨h, rfl⟩, fun h => .inl h, rfl, rfl, rfl⟩
theorem InsI.step {F : List Nat} {i0 i : Ins} {ws0 ws : List Bs} {bad b : Bool} {j : Nat} (h : InsI F i0 ws0 bad j i ws b) (hj : j < F.length) {n : Int} (hn : ∀ m, rgW (nxW ws).1 = some m → n = m) :
  InsI F i0 ws0 bad (j + 1) (setA i F[j] n) (nxW ws).2 (b || !(rgW (nxW ws).1).isSome) := by
 have hd : goR (F.drop j) i ws = (rgW (nxW ws).1).bind fun n => goR (F.drop (j + 1)) (setA i F[j] n) (nxW ws).2 := by
  rw [List.drop_eq_getElem_cons hj]; rfl
 refine ⟨fun hb => ?_, fun hb => ?_, ?_⟩
 ·cases hb0 : b with
  | true => rw [hb0] at hb; cases hb
  | false =>
   obtain ⟨h1, h2⟩ := h.good hb0
   cases e : rgW (nxW ws).1 with
   | none => rw [hb0, e] at hb; cases hb
   | some m =>
    rw [hd, e] at h2
    rw [hn m e]
    exact ⟨h1, h2⟩
 ·cases hb0 : b with
  | true => exact h.wrong hb0
  | false =>
   obtain ⟨h1, h2⟩ := h.good hb0
   cases e : rgW (nxW ws).1 with
   | none => rw [hd, e] at h2; exact .inr h2
   | some m => rw [hb0, e] at hb; cases hb
 ·obtain ⟨h1, h2, h3⟩ := h.rest
  unfold setA
  split
  ·exact ⟨h1, h2, h3⟩
  split
  ·exact ⟨h1, h2, h3⟩
  split
  ·exact ⟨h1, h2, h3⟩
  ·exact ⟨h1, h2, h3⟩
theorem ins_end {ws : List Bs} {c : Cd} {O : Nat} {i i' : Ins} {ws2 ws' : List Bs} {b2 b' : Bool} (hO : (meanA opsB 38 (nxW ws).1).getD 0 = O)
  (hI : InsI (rgO (insA0 O)) (insA0 O) (nxW ws).2 (false || !(meanA opsB 38 (nxW ws).1).isSome) (rgO (insA0 O)).length i ws2 b2)
  (hE : (i'.op = i.op ∧ i'.d = i.d ∧ i'.a = i.a ∧ i'.b = i.b ∧ i'.c = i.c) ∧ if nmB O = true then (∀ x, numW (nxW ws2).1 = some x → i'.n = x) ∧ i'.bits = 0 ∧ ws' = (nxW ws2).2 ∧ b' = (b2 || !(numW (nxW ws2).1).isSome) else if O = 1 then (∀ x, hexW (nxW ws2).1 = some x → i'.bits = x) ∧ i'.n = 0 ∧ ws' = (nxW ws2).2 ∧ b' = (b2 || !(hexW (nxW ws2).1).isSome) else i'.n = 0 ∧ i'.bits = 0 ∧ ws' = ws2 ∧ b' = b2) :
  SayT ((insLn ws).map fun i => ⟨c.sign, c.regs, c.slots, c.list ++ [i]⟩) ⟨c.sign, c.regs, c.slots, c.list ++ [i']⟩ ws' b' := by
 obtain ⟨hF, hE⟩ := hE
 have hbb : b2 = true → b' = true := fun h => by
  by_cases q : nmB O = true
  ·rw [if_pos q] at hE; rw [hE.2.2.2, h]; rfl
  ·rw [if_neg q] at hE
   by_cases q1 : O = 1
   ·rw [if_pos q1] at hE; rw [hE.2.2.2, h]; rfl
   ·rw [if_neg q1] at hE; rw [hE.2.2.2, h]
 rw [ins_goR]
 rw [ops_mean] at hO hI
 cases hop : opW (nxW ws).1 with
 | none =>
  refine SayT.bad _ rfl (hbb ?_)
  cases hb : b2 with
  | true => rfl
  | false =>
   have := (hI.good hb).1
   rw [hop] at this
   cases this
 | some k =>
  have hk := (op_out hop).1
  rw [hop] at hO hI
  have hO : k + 1 = O := hO
  subst hO
  rw [Option.bind_some]
  have hI : InsI (rgO (insA0 (k + 1))) (insA0 (k + 1)) (nxW ws).2 false (rgO (insA0 (k + 1))).length i ws2 b2 := hI
  cases hb : b2 with
  | true =>
   rcases hI.wrong hb with h | h
   ·cases h
   ·rw [h]
    exact SayT.bad _ rfl (hbb hb)
  | false =>
   have h := (hI.good hb).2
   rw [List.drop_eq_nil_of_le (Nat.le_refl _)] at h
   rw [h, goR, Option.bind_some]
   obtain ⟨r1, r2, r3⟩ := row_end (k + 1) (by omega) (by omega)
   rw [show (((k + 1 : Nat) : Int)) = (k : Int) + 1 by omega] at r1 r2 r3
   obtain ⟨o1, o2, o3⟩ := hI.rest
   have o1 : i.op = (k : Int) + 1 := by rw [o1]; show ((k + 1 : Nat) : Int) = _; omega
   obtain ⟨f0, f1, f2, f3, f4⟩ := hF
   obtain ⟨xo, xd, xa, xb, xc, xn, xz⟩ := i'
   simp only at f0 f1 f2 f3 f4 hE
   subst f1 f2 f3 f4
   rw [o1] at f0
   subst f0
   rw [end_take]
   by_cases q : nmB (k + 1) = true
   ·rw [if_pos q, hb] at hE
    obtain ⟨e1, e2, e3, e4⟩ := hE
    subst e2 e3
    rw [if_neg (r1 q).2, if_neg (r1 q).1]
    by_cases hr : (nxW ws2).2 = []
    ·rw [if_pos hr]
     cases hN : numW (nxW ws2).1 with
     | none => rw [hN] at e4; exact SayT.bad _ rfl (by rw [e4]; rfl)
     | some x => rw [hN] at e4; rw [e1 x hN]; exact ⟨hr, by rw [e4]; rfl, rfl⟩
    ·rw [if_neg hr]
     exact fun h => hr h.1
   ·rw [if_neg q, hb] at hE
    by_cases q1 : k + 1 = 1
    ·rw [if_pos q1] at hE
     obtain ⟨e1, e2, e3, e4⟩ := hE
     subst e2 e3
     rw [if_pos (r2 q1).1]
     by_cases hr : (nxW ws2).2 = []
     ·rw [if_pos hr]
      cases hN : hexW (nxW ws2).1 with
      | none => rw [hN] at e4; exact SayT.bad _ rfl (by rw [e4]; rfl)
      | some x => rw [hN] at e4; rw [e1 x hN]; exact ⟨hr, by rw [e4]; rfl, rfl⟩
     ·rw [if_neg hr]
      exact fun h => hr h.1
    ·rw [if_neg q1] at hE
     obtain ⟨e1, e2, e3, e4⟩ := hE
     subst e1 e2 e3
     have h0 := r3 (by simpa using q) q1
     rw [if_neg (by rw [h0]; decide), if_pos h0]
     by_cases hr : ws' = []
     ·rw [if_pos hr]
      exact ⟨hr, e4, rfl⟩
     ·rw [if_neg hr]
      exact fun h => hr h.1
end Go.Proofs.YtgcmnkanjcfndaaGreatDoor
namespace Go.Proofs.YtgcmnkanjcfndaaGreatDoor
set_option linter.unusedVariables false
set_option linter.unusedSimpArgs false
structure OkC (c : Cd) (n : Nat) : Prop where
 len : c.sign.length + c.regs.length + c.slots.length + c.list.length ≤ n
 sign : ∀ p ∈ c.sign, mayP p = true
 slots : ∀ s ∈ c.slots, okSl s
 list : ∀ i ∈ c.list, okIn i
theorem OkC.none : OkC noC 0 := ⟨Nat.le_refl _, fun _ h => (nomatch h), fun _ h => (nomatch h), fun _ h => (nomatch h)⟩
theorem says_ok {c c' : Cd} {n : Nat} {ws : List Bs} (h : OkC c n) (hs : saysW c ws = some c') : OkC c' (n + 1) := by
 have hl := h.len
 unfold saysW at hs
 split at hs
 ·obtain ⟨p, hp, rfl⟩ := Option.map_eq_some_iff.1 hs
  refine ⟨by simp only [List.length_append, List.length_singleton]; omega, fun q hq => ?_, h.slots, h.list⟩
  rcases List.mem_append.1 hq with hq | hq
  ·exact h.sign q hq
  ·rw [List.mem_singleton.1 hq]; exact (par_out hp).1
 split at hs
 ·obtain ⟨p, hp, rfl⟩ := Option.map_eq_some_iff.1 hs
  exact ⟨by simp only [List.length_append, List.length_singleton]; omega, h.sign, h.slots, h.list⟩
 split at hs
 ·obtain ⟨p, hp, rfl⟩ := Option.map_eq_some_iff.1 hs
  refine ⟨by simp only [List.length_append, List.length_singleton]; omega, h.sign, fun q hq => ?_, h.list⟩
  rcases List.mem_append.1 hq with hq | hq
  ·exact h.slots q hq
  ·rw [List.mem_singleton.1 hq]; exact (slot_out hp).1
 ·obtain ⟨p, hp, rfl⟩ := Option.map_eq_some_iff.1 hs
  refine ⟨by simp only [List.length_append, List.length_singleton]; omega, h.sign, h.slots, fun q hq => ?_⟩
  rcases List.mem_append.1 hq with hq | hq
  ·exact h.list q hq
  ·rw [List.mem_singleton.1 hq]; exact (ins_out hp).1
theorem okE_bits {l n b : Int} (h : okE l n b) : 0 ≤ b ∧ b < 4294967296 := by
 unfold okE at h
 split at h
 ·exact h.2
 split at h
 ·rw [h.2]; decide
 ·rw [h.1]; decide
theorem okSl_bits {s : Sl} (h : okSl s) : 0 ≤ s.bits ∧ s.bits < 4294967296 := by
 obtain ⟨_, h⟩ := h
 split at h
 ·rw [h.1]; decide
 ·exact h.2
theorem OkC.cd {c : Cd} {n : Nat} (h : OkC c n) (hn : n ≤ 140737488351232) : CdOk c := by
 have hl := h.len
 refine ⟨by omega, fun p hp => ?_, by omega, by omega, by omega, fun s hs => okSl_bits (h.slots s hs), fun i hi => okE_bits (h.list i hi).2.2.2.2.2⟩
 have := h.sign p hp
 unfold mayP namedP at this
 simp only [Bool.and_eq_true, decide_eq_true_eq] at this
 have := this.1.1.1.2
 omega
theorem cut_none : ∀ (s cur : Bs), (∀ b ∈ s, b ≠ 10) → cutN cur s = ([], cur ++ s)
 | [], cur, _ => by simp [cutN]
 | b :: t, cur, h => by
  have hb : ¬ nb b = 10 := fun e => h b (by simp) (UInt8.toNat_inj.1 (by unfold nb at e; show b.toNat = 10; omega))
  rw [cutN, if_neg (by simpa using hb), cut_none t (cur ++ [b]) (fun x hx => h x (List.mem_cons_of_mem _ hx))]
  simp
theorem nb_10 {b : UInt8} (h : b ≠ 10) : nb b ≠ 10 := fun e => h (UInt8.toNat_inj.1 (by unfold nb at e; show b.toNat = 10; omega))
structure GoI (t : Bs) (ln st : Nat) (c : Cd) (s : Bs) : Prop where
 text : ∃ ls, (cutN [] t).1 = ls ++ (cutN [] s).1 ∧ (cutN [] t).2 = (cutN [] s).2 ∧ ls.length = ln ∧ (ln ≠ 0 → ∃ d, ls = headB :: d ∧ goA (0, noC) 2 d = .ok (st, c))
 zero : ln = 0 → st = 0 ∧ c = noC
 left : ln ≠ 0 → s ≠ []
 size : ln + s.length ≤ t.length
 ok : OkC c ln
 sort : st ≤ 3
theorem GoI.start (t : Bs) : GoI t 0 0 noC t := ⟨⟨[], by simp, rfl, rfl, fun h => absurd rfl h⟩, fun _ => ⟨rfl, rfl⟩, fun h => absurd rfl h, by omega, OkC.none, by omega⟩
def ReadT (t : Bs) (b : Bool) (ln : Nat) (c : Cd) : Prop :=
 match b with
 | false => afterA (cutN [] t).2 (cutN [] t).1 = (noC, 250, (ln : Int))
 | true => OkC c ln ∧ ln ≤ t.length ∧ afterA (cutN [] t).2 (cutN [] t).1 = if (checkC c).1 ≠ 0 then (noC, 160, lineA (ln : Int) c (checkC c).2) else (c, 0, 0)
theorem GoI.open {t : Bs} {ln st : Nat} {c c' : Cd} {s : Bs} (h : GoI t ln st c s) (hs : ∀ b ∈ s, b ≠ 10) : ReadT t false (ln + 1) c' := by
 obtain ⟨ls, h1, h2, h3, h4⟩ := h.text
 have hc := cut_none s [] hs
 rw [List.nil_append] at hc
 rw [hc, List.append_nil] at h1
 rw [hc] at h2
 show afterA _ _ = _
 rw [h1, h2]
 by_cases h0 : ln = 0
 ·have : ls = [] := List.length_eq_zero_iff.1 (by omega)
  rw [this, h0]; rfl
 ·obtain ⟨d, rfl, hd⟩ := h4 h0
  have hl := h.left h0
  show (if headB ≠ headB then (noC, 250, 1) else endA d s (goA (0, noC) 2 d)) = _
  rw [if_neg (fun e => e rfl), hd]
  show (if s ≠ [] then (noC, 250, (d.length : Int) + 2) else _) = _
  rw [if_pos hl]
  rw [List.length_cons] at h3
  rw [show ((ln + 1 : Nat) : Int) = (d.length : Int) + 2 by omega]
theorem GoI.split {t : Bs} {ln st : Nat} {c : Cd} {x y : Bs} (h : GoI t ln st c (x ++ 10 :: y)) (hx : ∀ b ∈ x, b ≠ 10) : ∃ ls, (cutN [] t).1 = (ls ++ [x]) ++ (cutN [] y).1 ∧ (cutN [] t).2 = (cutN [] y).2 ∧ ls.length = ln ∧ (ln ≠ 0 → ∃ d, ls = headB :: d ∧ goA (0, noC) 2 d = .ok (st, c)) := by
 obtain ⟨ls, h1, h2, h3, h4⟩ := h.text
 have hc := cut_cat x [] y (fun b hb => nb_10 (hx b hb))
 rw [List.nil_append] at hc
 rw [hc] at h1 h2
 exact ⟨ls, by rw [h1]; simp, h2, h3, h4⟩
theorem GoI.head {t : Bs} {st : Nat} {c c' : Cd} {x y : Bs} (h : GoI t 0 st c (x ++ 10 :: y)) (hx : ∀ b ∈ x, b ≠ 10) (hb : x ≠ headB) : ReadT t false 1 c' := by
 obtain ⟨ls, h1, h2, h3, h4⟩ := h.split hx
 have : ls = [] := List.length_eq_zero_iff.1 h3
 subst this
 show afterA _ _ = _
 rw [h1, List.nil_append, List.singleton_append]
 show (if x ≠ headB then (noC, 250, 1) else _) = _
 rw [if_pos hb]
 rfl
theorem GoI.wrong {t : Bs} {ln st : Nat} {c c' : Cd} {x y : Bs} (h : GoI t ln st c (x ++ 10 :: y)) (hx : ∀ b ∈ x, b ≠ 10) (h0 : ln ≠ 0) (hb : stepW (st, c) (wordsA [] x) = none) : ReadT t false (ln + 1) c' := by
 obtain ⟨ls, h1, h2, h3, h4⟩ := h.split hx
 obtain ⟨d, rfl, hd⟩ := h4 h0
 show afterA _ _ = _
 rw [h1]
 show (if headB ≠ headB then (noC, 250, 1) else endA (d ++ [x] ++ (cutN [] y).1) (cutN [] t).2 (goA (0, noC) 2 (d ++ [x] ++ (cutN [] y).1))) = _
 rw [if_neg (fun e => e rfl), List.append_assoc, go_app d _ _ _ _ hd]
 have : goA (st, c) (2 + d.length) ([x] ++ (cutN [] y).1) = .error (2 + d.length) := by
  show (match stepW (st, c) (wordsA [] x) with | some s' => goA s' (2 + d.length + 1) (cutN [] y).1 | none => .error (2 + d.length)) = _
  rw [hb]
 rw [this]
 rw [List.length_cons] at h3
 show (noC, (250 : Int), ((2 + d.length : Nat) : Int)) = _
 rw [show ((2 + d.length : Nat) : Int) = ((ln + 1 : Nat) : Int) by omega]
theorem GoI.first {t : Bs} {st : Nat} {c : Cd} {y : Bs} (h : GoI t 0 st c (headB ++ 10 :: y)) (hy : y ≠ []) : GoI t 1 st c y := by
 obtain ⟨ls, h1, h2, h3, h4⟩ := h.split (by decide)
 have : ls = [] := List.length_eq_zero_iff.1 h3
 subst this
 obtain ⟨rfl, rfl⟩ := h.zero rfl
 have hsz := h.size
 simp only [List.length_append, List.length_cons] at hsz
 exact ⟨⟨[headB], h1, h2, rfl, fun _ => ⟨[], rfl, rfl⟩⟩, fun e => by omega, fun _ => hy, by omega, ⟨by have := h.ok.len; omega, h.ok.sign, h.ok.slots, h.ok.list⟩, h.sort⟩
theorem GoI.firstEnd {t : Bs} {st : Nat} {c : Cd} (h : GoI t 0 st c (headB ++ 10 :: [])) : ReadT t true 1 c := by
 obtain ⟨ls, h1, h2, h3, h4⟩ := h.split (by decide)
 have : ls = [] := List.length_eq_zero_iff.1 h3
 subst this
 obtain ⟨rfl, rfl⟩ := h.zero rfl
 have hsz := h.size
 simp only [List.length_append, List.length_cons] at hsz
 refine ⟨⟨by have := h.ok.len; omega, h.ok.sign, h.ok.slots, h.ok.list⟩, by omega, ?_⟩
 rw [h1, h2]
 rfl
theorem step_says {st : Nat} {c : Cd} (hs : st ≤ 3) {ws : List Bs} {s' : Nat × Cd} (h : stepW (st, c) ws = some s') : ¬ sortW ws < st ∧ s'.1 = sortW ws ∧ saysW c ws = some s'.2 := by
 rw [step_sort st c hs] at h
 by_cases q : sortW ws < st
 ·rw [if_pos q] at h; cases h
 ·rw [if_neg q] at h
  obtain ⟨c', hc, rfl⟩ := Option.map_eq_some_iff.1 h
  exact ⟨q, rfl, hc⟩
theorem sort_le (ws : List Bs) : sortW ws ≤ 3 := by
 unfold sortW
 split
 ·decide
 split
 ·decide
 split
 ·decide
 ·decide
theorem GoI.more {t : Bs} {ln st : Nat} {c : Cd} {x y : Bs} {s' : Nat × Cd} (h : GoI t ln st c (x ++ 10 :: y)) (hx : ∀ b ∈ x, b ≠ 10) (h0 : ln ≠ 0) (hb : stepW (st, c) (wordsA [] x) = some s') :
  ∃ d, (cutN [] t).1 = (headB :: (d ++ [x])) ++ (cutN [] y).1 ∧ (cutN [] t).2 = (cutN [] y).2 ∧ d.length + 1 = ln ∧ goA (0, noC) 2 (d ++ [x]) = .ok s' ∧ OkC s'.2 (ln + 1) ∧ s'.1 ≤ 3 := by
 obtain ⟨ls, h1, h2, h3, h4⟩ := h.split hx
 obtain ⟨d, rfl, hd⟩ := h4 h0
 obtain ⟨g1, g2, g3⟩ := step_says h.sort hb
 refine ⟨d, by rw [h1]; rfl, h2, by rw [← h3]; rfl, ?_, says_ok h.ok g3, by rw [g2]; exact sort_le _⟩
 rw [go_app d _ _ _ _ hd]
 show (match stepW (st, c) (wordsA [] x) with | some s' => goA s' (2 + d.length + 1) [] | none => .error (2 + d.length)) = _
 rw [hb]
 rfl
theorem GoI.next {t : Bs} {ln st : Nat} {c : Cd} {x y : Bs} {s' : Nat × Cd} (h : GoI t ln st c (x ++ 10 :: y)) (hx : ∀ b ∈ x, b ≠ 10) (h0 : ln ≠ 0) (hb : stepW (st, c) (wordsA [] x) = some s') (hy : y ≠ []) : GoI t (ln + 1) s'.1 s'.2 y := by
 obtain ⟨d, h1, h2, h3, h4, h5, h6⟩ := h.more hx h0 hb
 have hsz := h.size
 simp only [List.length_append, List.length_cons] at hsz
 exact ⟨⟨_, h1, h2, by simp; omega, fun _ => ⟨_, rfl, h4⟩⟩, fun e => by omega, fun _ => hy, by omega, h5, h6⟩
theorem GoI.last {t : Bs} {ln st : Nat} {c : Cd} {x : Bs} {s' : Nat × Cd} (h : GoI t ln st c (x ++ 10 :: [])) (hx : ∀ b ∈ x, b ≠ 10) (h0 : ln ≠ 0) (hb : stepW (st, c) (wordsA [] x) = some s') : ReadT t true (ln + 1) s'.2 := by
 obtain ⟨d, h1, h2, h3, h4, h5, h6⟩ := h.more hx h0 hb
 have hsz := h.size
 simp only [List.length_append, List.length_cons] at hsz
 refine ⟨h5, by omega, ?_⟩
 rw [h1, h2]
 show (if headB ≠ headB then (noC, 250, 1) else endA (d ++ [x] ++ []) [] (goA (0, noC) 2 (d ++ [x] ++ []))) = _
 rw [if_neg (fun e => e rfl), List.append_nil, h4]
 show (if ([] : Bs) ≠ [] then (noC, (250 : Int), ((d ++ [x]).length : Int) + 2) else if (checkC s'.2).1 ≠ 0 then (noC, 160, lineA (((d ++ [x]).length : Int) + 1) s'.2 (checkC s'.2).2) else (s'.2, 0, 0)) = _
 rw [if_neg (fun e => e rfl), show (((d ++ [x]).length : Int) + 1) = ((ln + 1 : Nat) : Int) by simp; omega]
end Go.Proofs.YtgcmnkanjcfndaaGreatDoor
