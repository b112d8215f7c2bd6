import Derived.Test.YtgcmnkanjcfndaaGreatDoorTxt1
import Derived.Test.YtgcmnkanjcfndaaGreatDoorTxt19
import Derived.Test.YtgcmnkanjcfndaaGreatDoorTxt7
import Derived.OrdersHeld
import Derived.Deep.DeepCutAuto
namespace Go.Proofs.YtgcmnkanjcfndaaGreatDoor
open Go.RowKit
set_option linter.unusedVariables false
set_option linter.unusedSimpArgs false
theorem lie_writer : LieT 101 5 := ⟨by kernel_rfl, by decide⟩
def wrF (p0 p1 p2 p3 p4 : Nat) (k : Nat) : Value := if k = 2 then .slice (some ⟨p0, 0, none⟩) 3 3 else if k = 3 then .slice (some ⟨p1, 0, none⟩) 3 3 else if k = 4 then .slice (some ⟨p2, 0, none⟩) 4 4 else if k = 5 then .slice (some ⟨p3, 0, none⟩) 2 2 else .slice (some ⟨p4, 0, none⟩) 38 38
structure WrA (E WB p0 p1 p2 p3 p4 : Nat) (p v : Value) (l : Bs) (w : World) : Prop where
 bd : BdT E WB 101 5 (wrF p0 p1 p2 p3 p4) p v l w
 sorts : w.rowIs p0 9 3 (fun i => .string (sof ((sortL[i]?).getD [])))
 kinds : w.rowIs p1 9 3 (fun i => .string (sof ((kindL[i]?).getD [])))
 types : w.rowIs p2 9 4 (fun i => .string (sof ((typeL[i]?).getD [])))
 keeps : w.rowIs p3 9 2 (fun i => .string (sof ((keepL[i]?).getD [])))
 ops : w.rowIs p4 9 38 (fun i => .string (sof ((opsB[i]?).getD [])))
theorem row_two {w : World} {a b m n : Nat} {t t' : TypeId} {f g : Nat → Value} (h : w.rowIs a t m f) (h' : w.rowIs b t' n g) (ht : t ≠ t') : a ≠ b := fun e => by
 obtain ⟨x, hx, -⟩ := h
 obtain ⟨y, hy, -⟩ := h'
 rw [e, hy] at hx
 have := (Obj.cells.inj (Option.some.inj hx)).2.1
 exact ht this.symm
theorem BdT.below {E b n : Nat} {T : TypeId} {f : Nat → Value} {p v : Value} {l : Bs} {w w' : World} (h : BdT E b T n f p v l w) (k : Below w.heap.size w w') : BdT E b T n f p v l w' := ⟨h.le, h.row.of_block (k.block _ h.row.lt), own_below h.own k, h.ptr⟩
theorem WrA.keep {E WB p0 p1 p2 p3 p4 : Nat} {p v p' v' : Value} {l l' : Bs} {w w' : World} (h : WrA E WB p0 p1 p2 p3 p4 p v l w) (k : KeepX WB w w') (hb : BdT E WB 101 5 (wrF p0 p1 p2 p3 p4) p' v' l' w') : WrA E WB p0 p1 p2 p3 p4 p' v' l' w' :=
 ⟨hb, k.row h.sorts (by decide) (row_two h.sorts h.bd.row (by decide)), k.row h.kinds (by decide) (row_two h.kinds h.bd.row (by decide)), k.row h.types (by decide) (row_two h.types h.bd.row (by decide)), k.row h.keeps (by decide) (row_two h.keeps h.bd.row (by decide)), k.row h.ops (by decide) (row_two h.ops h.bd.row (by decide))⟩
theorem WrA.below {E WB p0 p1 p2 p3 p4 : Nat} {p v : Value} {l : Bs} {w w' : World} (h : WrA E WB p0 p1 p2 p3 p4 p v l w) (k : Below w.heap.size w w') : WrA E WB p0 p1 p2 p3 p4 p v l w' :=
 ⟨h.bd.below k, h.sorts.of_block (k.block _ h.sorts.lt), h.kinds.of_block (k.block _ h.kinds.lt), h.types.of_block (k.block _ h.types.lt), h.keeps.of_block (k.block _ h.keeps.lt), h.ops.of_block (k.block _ h.ops.lt)⟩
theorem ajoinAll (R : Nat) (ws : List Bs) (c : Nat) (w : World) (h1 : 1 ≤ ws.length) (h6 : ws.length ≤ 6) (hw : ∀ x ∈ ws, x.length ≤ 1000000) (hc : ∀ i (hi : i < ws.length), w.cell? ⟨R, i, none⟩ = some (.string (sof ws[i]))) (hcap : ws.length ≤ c) :
  Calls Tryz.prog 78 #[.slice (some ⟨R, 0, none⟩) ws.length c, .string ⟨#[32]⟩] w fun e w' => e = .returned (.string (sof (joinW ws))) ∧ Below w.heap.size w w' := by
 by_cases q : 2 ≤ ws.length
 ·exact ajoin_any R ws c w q h6 hw hc hcap
 ·match ws, h1, hc with
  | [a], _, hc => exact (ajoin1_any R (sof a) c w (hc 0 (by simp))).mono fun e w' ⟨h1, h2⟩ => ⟨h1, by rw [h2]; exact bel0 _⟩
  | a :: b :: r, _, _ => exact absurd (by simp) q
set_option maxRecDepth 100000 in
set_option maxHeartbeats 4000000 in
theorem alinew_any (E WB p0 p1 p2 p3 p4 : Nat) (p v : Value) (l : Bs) (R : Nat) (ws : List Bs) (c : Nat) (w : World) (h : WrA E WB p0 p1 p2 p3 p4 p v l w) (hl : l.length ≤ 1000000000) (h1 : 1 ≤ ws.length) (h6 : ws.length ≤ 6) (hw : ∀ x ∈ ws, x.length ≤ 1000000) (hc : ∀ i (hi : i < ws.length), w.cell? ⟨R, i, none⟩ = some (.string (sof ws[i]))) (hcap : ws.length ≤ c) :
  Calls Tryz.prog 43 #[.pointer (some ⟨WB, 0, none⟩), .slice (some ⟨R, 0, none⟩) ws.length c] w fun e w' => e = .returned (.tuple #[]) ∧ ∃ p' v', WrA E WB p0 p1 p2 p3 p4 p' v' (l ++ (joinW ws ++ [10])) w' ∧ Below E w w' ∧ KeepX WB w w' := by
 have hd := h.below (bel_d w)
 have hlen := joinB_len ws 1000000 hw
 have HJ := hidC (ajoinAll R ws c w.drew h1 h6 hw (fun i hi => hc i hi) hcap)
 obtain ⟨s, hs⟩ : ∃ s, sof (joinW ws) = s := ⟨_, rfl⟩
 have hbs : bs s = joinW ws := by rw [← hs]; exact bs_of _
 have hsz : s.size = (joinW ws).length := by rw [← bs_length, hbs]
 have hjl : (joinW ws).length ≤ 6000006 := by have := Nat.mul_le_mul_left 1000001 h6; omega
 rw [hs] at HJ
 have HWS : Hid (∀ v1, Below w.drew.heap.size w.drew v1 → Calls Tryz.prog 77 #[.pointer (some ⟨WB, 0, none⟩), .string s] v1 fun e w' => e = .returned (.tuple #[.int .i64 (s.size : Int), .nilIface]) ∧ ∃ v', BdT E WB 101 5 (wrF p0 p1 p2 p3 p4) (.pointer (some ⟨WB, 0, none⟩)) v' (l ++ bs s) w' ∧ Below E v1 w' ∧ KeepX WB v1 w') := fun v1 k => writeT_any E WB _ 5 _ _ _ l lie_writer s (by omega) v1 (hd.bd.below k)
 have HWB : Hid (∀ v1 v2, BdT E WB 101 5 (wrF p0 p1 p2 p3 p4) (.pointer (some ⟨WB, 0, none⟩)) v1 (l ++ bs s) v2 → Calls Tryz.prog 79 #[.pointer (some ⟨WB, 0, none⟩), .int .u8 10] v2 fun e w' => e = .returned .nilIface ∧ ∃ v', BdT E WB 101 5 (wrF p0 p1 p2 p3 p4) (.pointer (some ⟨WB, 0, none⟩)) v' (l ++ bs s ++ [10]) w' ∧ Below E v2 w' ∧ KeepX WB v2 w') := fun v1 v2 k => wbyteT_any E WB _ 5 _ _ _ _ lie_writer (by rw [List.length_append, hbs]; omega) v2 k
 have HX := hidC (And.intro h hbs)
 have HE : Hid (E ≤ w.heap.size) := by have := h.bd.le; have := h.bd.row.lt; show _ ≤ _; omega
 obtain ⟨N, hN⟩ : ∃ N, ws.length = N := ⟨_, rfl⟩
 rw [hN] at HJ ⊢
 clear h hd hlen hs hbs hsz hjl hl h1 h6 hw hc hcap hN
 go_enter Tryz.func43, Tryz.ntmps43
 go_upto_region 0 with fail
 refine wp_region_held_drew (S := (fun _ => True)) (by kernel_rfl) ?_ (fun hHeld => ?_)
 ·trivial
 refine tkT 0 ?_
 refine tkT 1 ?_
 refine tkT 2 ?_
 refine tkT 3 ?_
 clear hHeld
 refine wpAnyH_ready (rs := [4]) (by kernel_rfl) (by simp) ?_
 refine AllReadyH.cons (i := 4) (by simp only [List.getElem?_toArray, List.getElem?_cons_succ, List.getElem?_cons_zero]; rfl) (fun K hK => ?_) AllReadyH.nil
 go_simp
 (go_at_call 78; (with_reducible refine HJ.out.mono ?_); rintro e w1 ⟨rfl, b1⟩; have H1 := hidC b1; clear b1)
 try (go_wp2_with fail)
 refine hK.out _ _ ?_ (fun hHeld => ?_)
 ·trivial
 clear hK K
 try simp only [Act.put, List.setIfInBounds_toArray, List.set_cons_zero, List.set_cons_succ]
 clear hHeld
 refine wpAnyH_ready (rs := [5]) (by kernel_rfl) (by simp) ?_
 refine AllReadyH.cons (i := 5) (by simp only [List.getElem?_toArray, List.getElem?_cons_succ, List.getElem?_cons_zero]; rfl) (fun K hK => ?_) AllReadyH.nil
 go_simp
 (go_at_call 77; (with_reducible refine (HWS.out _ H1.out).mono ?_); rintro e w2 ⟨rfl, v2, h2, b2, k2⟩; have H2 := hidC (And.intro h2 (And.intro b2 k2)); clear h2 b2 k2)
 try (go_wp2_with fail)
 refine hK.out _ _ ?_ (fun hHeld => ?_)
 ·trivial
 clear hK K
 try simp only [Act.put, List.setIfInBounds_toArray, List.set_cons_zero, List.set_cons_succ]
 refine wpAnyH_done (by kernel_rfl) ?_ _
 go_wp2_with (go_at_call 79; (with_reducible refine (HWB.out _ _ H2.out.1).mono ?_); rintro e w3 ⟨rfl, v3, h3, b3, k3⟩; have H3 := hidC (And.intro h3 (And.intro b3 k3)); clear h3 b3 k3)
 refine bodyPost_end (by simp [results, Tryz.results43, go_sem, *]; try rfl) rfl ?_
 have hk : KeepX WB w w3 := (((KeepX.of (bel_d w)).trans (KeepX.of H1.out)).trans H2.out.2.2).trans H3.out.2.2
 have hb : Below E w w3 := ((((bel_d w).mono HE.out).trans (H1.out.mono HE.out)).trans H2.out.2.1).trans H3.out.2.1
 refine ⟨rfl, .pointer (some ⟨WB, 0, none⟩), v3, HX.out.1.keep hk ?_, hb, hk⟩
 have h9 := H3.out.1
 rw [HX.out.2, List.append_assoc] at h9
 exact h9
theorem typ_le {t : Ty} (h : okTy t) : (joinW (typWs t)).length ≤ 20 := by
 rcases h with ⟨h1, -⟩ | ⟨h1, -⟩ | ⟨h1, h2, h3⟩
 ·unfold typWs; rw [if_pos h1]; decide
 ·unfold typWs; rw [if_neg (by omega), if_pos h1]; decide
 ·unfold typWs
  rw [if_neg (by omega), if_neg (by omega)]
  have : (numT t.par).length ≤ 10 := num_len h3
  show (vectorB ++ 32 :: numT t.par).length ≤ 20
  rw [List.length_append, List.length_cons, show vectorB.length = 6 from rfl]
  omega
set_option maxRecDepth 100000 in
set_option maxHeartbeats 4000000 in
theorem atyped_any (E WB p0 p1 p2 p3 p4 : Nat) (p v : Value) (l : Bs) (t : Ty) (ht : okTy t) (w : World) (hL : Laid w) (h : WrA E WB p0 p1 p2 p3 p4 p v l w) :
  Calls Tryz.prog 45 #[.pointer (some ⟨WB, 0, none⟩), .agg #[.int .i64 t.kind, .int .i64 t.par]] w fun e w' => e = .returned (.string (sof (joinW (typWs t)))) ∧ Below w.heap.size w w' := by
 obtain ⟨kd, par⟩ := t
 obtain ⟨V, hV⟩ : ∃ V, w.alloc (.cells #[.int .i64 kd, .int .i64 par] 50) = V := ⟨_, rfl⟩
 obtain ⟨X, hX⟩ : ∃ X, w.heap.size = X := ⟨_, rfl⟩
 have hb0 : Below w.heap.size w V := by rw [← hV]; exact bel_alloc _ _
 have hr : V.rowIs X 50 2 (g2 (.int .i64 kd) (.int .i64 par)) := by rw [← hV, ← hX]; exact q2_new _ _ _ _
 have hv := h.below hb0
 have HLV := hidC (hL.below hb0)
 have HB0 := hidC hb0
 obtain ⟨x0, x1⟩ := c2g hr
 have t0 : V.cell? ⟨WB, 4, none⟩ = some (.slice (some ⟨p2, 0, none⟩) 4 4) := hv.bd.row.cell (i := 4) (by decide)
 have hrow := hv.types
 have hok : okTy ⟨kd, par⟩ := ht
 by_cases q : kd = 3
 ·subst q
  have a0' := hrow.cell (i := 3) (by decide)
  obtain ⟨A, hA⟩ : ∃ A, sof ((typeL[3]?).getD []) = A := ⟨_, rfl⟩
  have a0 : V.cell? ⟨p2, 3, none⟩ = some (.string A) := by rw [← hA]; exact a0'
  obtain ⟨h2, h3⟩ : 0 ≤ par ∧ par ≤ 2147483647 := by
   rcases hok with ⟨e, _⟩ | ⟨e, _⟩ | ⟨_, e⟩
   ·cases e
   ·cases e
   ·exact e
  obtain ⟨B, hB⟩ : ∃ B, sof (Lib.itoa par) = B := ⟨_, rfl⟩
  have hni : Lib.itoa par = numT par := itoa_num h2
  have HN : Hid (∀ x, Laid x → Calls Tryz.prog 44 #[.int .i64 par] x fun e w' => e = .returned (.string B) ∧ Below x.heap.size x w') := fun x hx => by rw [← hB]; exact anum_any par (by omega) (by omega) x hx
  have sA : A.size = 6 := by rw [← hA]; rfl
  have sB : B.size ≤ 10 := by rw [← hB, hni, ← bs_length, bs_of]; exact num_len h3
  have s1 : ¬ 9223372036854775807 < A.size + 1 := by rw [sA]; decide
  have s2 : ¬ 9223372036854775807 < A.size + 1 + B.size := by rw [sA]; omega
  have HR : Hid ((A ++ (⟨#[32]⟩ : ByteArray)) ++ B = sof (joinW (typWs ⟨3, par⟩))) := by
   show _ = _
   rw [← hA, ← hB, hni]
   show (sof vectorB ++ sof [32]) ++ sof (numT par) = sof (vectorB ++ 32 :: numT par)
   rw [sof_app, sof_app]
   simp
  clear hA hB hni sA sB hrow hv h hL hb0 hr ht hok a0' h2 h3
  have y0 : V.drew.cell? ⟨WB, 4, none⟩ = some (.slice (some ⟨p2, 0, none⟩) 4 4) := t0
  have y1 : V.drew.cell? ⟨X, 0, none⟩ = some (.int .i64 3) := x0
  have y2 : V.drew.cell? ⟨X, 1, none⟩ = some (.int .i64 par) := x1
  have y3 : V.drew.cell? ⟨p2, 3, none⟩ = some (.string A) := a0
  go_enter Tryz.func45, Tryz.ntmps45
  go_upto_region 1 with fail
  try rw [hV]
  try rw [hX]
  clear hV hX
  go_upto_region 2 with fail
  refine wp_region_held_drew (S := (fun v => v.cell? ⟨WB, 4, none⟩ = some (.slice (some ⟨p2, 0, none⟩) 4 4) ∧ v.cell? ⟨X, 0, none⟩ = some (.int .i64 3) ∧ v.cell? ⟨X, 1, none⟩ = some (.int .i64 par) ∧ v.cell? ⟨p2, 3, none⟩ = some (.string A))) (by kernel_rfl) ?_ (fun hHeld => ?_)
  ·((try dsimp only); go_keep)
  refine tkT 0 ?_
  refine tkT 1 ?_
  refine tkT 2 ?_
  refine tkT 3 ?_
  refine tkT 4 ?_
  refine tkT 5 ?_
  refine tkT 6 ?_
  refine tkT 7 ?_
  refine tkT 8 ?_
  refine tkT 9 ?_
  refine tkT 10 ?_
  clear hHeld
  refine wpAnyH_ready (rs := [11]) (by kernel_rfl) (by simp) ?_
  refine AllReadyH.cons (i := 11) (by simp only [List.getElem?_toArray, List.getElem?_cons_succ, List.getElem?_cons_zero]; rfl) (fun K hK => ?_) AllReadyH.nil
  go_simp
  (go_at_call 44; (with_reducible refine (HN.out _ (HLV.out.below (bel_d V))).mono ?_); rintro e w2 ⟨rfl, b2⟩; have b3 := bel (bel_d V) b2; have HB2 := hidC b3; have d0 := kc b3 t0; have d1 := kc b3 x0; have d2 := kc b3 x1; have d3 := kc b3 a0; clear b2 b3)
  try (go_wp2_with fail)
  refine hK.out _ _ ?_ (fun hHeld => ?_)
  ·((try dsimp only); go_keep)
  clear hK K
  try simp only [Act.put, List.setIfInBounds_toArray, List.set_cons_zero, List.set_cons_succ]
  refine tkT 12 ?_
  refine tkT 13 ?_
  refine wpAnyH_done (by kernel_rfl) ?_ _
  try go_wp2
  refine bodyPost_ret (by simp [results, Tryz.results45, go_sem, *]; try rfl) rfl ?_
  exact ⟨by rw [← HR.out], bel HB0.out HB2.out⟩
 ·obtain ⟨k, hk, hk2⟩ : ∃ k : Nat, kd = (k : Int) ∧ (k = 1 ∨ k = 2) := by
   rcases hok with ⟨e, _⟩ | ⟨e, _⟩ | ⟨e, _⟩
   ·exact ⟨1, e, .inl rfl⟩
   ·exact ⟨2, e, .inr rfl⟩
   ·exact absurd e q
  subst hk
  have hk4 : k < 4 := by omega
  have a0' := hrow.cell (i := k) hk4
  obtain ⟨A, hA⟩ : ∃ A, sof ((typeL[k]?).getD []) = A := ⟨_, rfl⟩
  have a0 : V.cell? ⟨p2, k, none⟩ = some (.string A) := by rw [← hA]; exact a0'
  have HR : Hid (A = sof (joinW (typWs ⟨(k : Int), par⟩))) := by
   show _ = _
   rw [← hA]
   rcases hk2 with rfl | rfl <;> rfl
  have e3 : ((k : Int) == 3) = false := by simpa using q
  have k0 : (0 : Int) ≤ (k : Int) := by omega
  have k4 : (k : Int) < 4 := by omega
  clear hA hrow hv h hL hb0 hr ht hok a0' q hk2
  have y0 : V.drew.cell? ⟨WB, 4, none⟩ = some (.slice (some ⟨p2, 0, none⟩) 4 4) := t0
  have y1 : V.drew.cell? ⟨X, 0, none⟩ = some (.int .i64 (k : Int)) := x0
  have y2 : V.drew.cell? ⟨X, 1, none⟩ = some (.int .i64 par) := x1
  have y3 : V.drew.cell? ⟨p2, k, none⟩ = some (.string A) := a0
  go_enter Tryz.func45, Tryz.ntmps45
  go_upto_region 1 with fail
  try rw [hV]
  try rw [hX]
  clear hV hX
  go_upto_region 3 with fail
  refine wp_region_held_drew (S := (fun v => v.cell? ⟨WB, 4, none⟩ = some (.slice (some ⟨p2, 0, none⟩) 4 4) ∧ v.cell? ⟨X, 0, none⟩ = some (.int .i64 (k : Int)) ∧ v.cell? ⟨X, 1, none⟩ = some (.int .i64 par) ∧ v.cell? ⟨p2, k, none⟩ = some (.string A))) (by kernel_rfl) ?_ (fun hHeld => ?_)
  ·((try dsimp only); go_keep)
  refine tkT 0 ?_
  refine tkT 1 ?_
  refine tkT 2 ?_
  refine tkT 3 ?_
  refine tkT 4 ?_
  refine tkT 5 ?_
  refine tkT 6 ?_
  refine tkT 7 ?_
  refine tkT 8 ?_
  refine wpAnyH_done (by kernel_rfl) ?_ _
  try go_wp2
  refine bodyPost_ret (by simp [results, Tryz.results45, go_sem, *]; try rfl) rfl ?_
  exact ⟨by rw [← HR.out], bel HB0.out (bel_d V)⟩
end Go.Proofs.YtgcmnkanjcfndaaGreatDoor
namespace Go.Proofs.YtgcmnkanjcfndaaGreatDoor
open Go.RowKit
set_option linter.unusedVariables false
set_option linter.unusedSimpArgs false
theorem typ_ne (t : Ty) : typWs t ≠ [] := by
 unfold typWs
 split
 ·simp
 split
 ·simp
 ·simp
theorem join_flat {a b : Bs} {m : List Bs} (h : m ≠ []) : joinW (a :: (m ++ [b])) = a ++ 32 :: (joinW m ++ 32 :: b) := by rw [join_cons (by simp), join_snoc _ _ h]
set_option maxRecDepth 100000 in
set_option maxHeartbeats 8000000 in
theorem aslotw_any (E WB p0 p1 p2 p3 p4 : Nat) (p v : Value) (l : Bs) (s : Sl) (hs : okSl s) (w : World) (hL : Laid w) (h : WrA E WB p0 p1 p2 p3 p4 p v l w) :
  Calls Tryz.prog 46 #[.pointer (some ⟨WB, 0, none⟩), .agg #[.int .i64 s.ty.kind, .int .i64 s.ty.par, .bool s.keep, .int .u32 s.bits, .int .i64 s.int_]] w fun e w' => e = .returned (.string (sof (joinW ((if s.keep then keepB else localB) :: (typWs s.ty ++ [if s.ty.kind = 2 then numT s.int_ else hexT s.bits]))))) ∧ Below w.heap.size w w' := by
 obtain ⟨⟨kd, par⟩, kp, bt, it⟩ := s
 have hok : okTy ⟨kd, par⟩ := hs.1
 obtain ⟨V, hV⟩ : ∃ V, w.alloc (.cells #[.int .i64 kd, .int .i64 par, .bool kp, .int .u32 bt, .int .i64 it] 60) = V := ⟨_, rfl⟩
 obtain ⟨X, hXX⟩ : ∃ X, w.heap.size = X := ⟨_, rfl⟩
 have hb0 : Below w.heap.size w V := by rw [← hV]; exact bel_alloc _ _
 have hr : V.rowIs X 60 5 (g5 (.int .i64 kd) (.int .i64 par) (.bool kp) (.int .u32 bt) (.int .i64 it)) := by rw [← hV, ← hXX]; exact q5_new _ _ _ _ _ _ _
 have hv := h.below hb0
 have HLV := hidC (hL.below hb0)
 have HB0 := hidC hb0
 have HBT := hidC (okSl_bits hs)
 obtain ⟨x0, x1, x2, x3, x4⟩ := c5 hr
 have t0 : V.cell? ⟨WB, 5, none⟩ = some (.slice (some ⟨p3, 0, none⟩) 2 2) := hv.bd.row.cell (i := 5) (by decide)
 obtain ⟨Y, hY⟩ : ∃ Y, sof (joinW (typWs ⟨kd, par⟩)) = Y := ⟨_, rfl⟩
 have sY : Y.size ≤ 20 := by rw [← hY, ← bs_length, bs_of]; exact typ_le hok
 have KT : ∀ x, Below V.heap.size V x → Calls Tryz.prog 45 #[.pointer (some ⟨WB, 0, none⟩), .agg #[.int .i64 kd, .int .i64 par]] x fun e w' => e = .returned (.string (sof (joinW (typWs ⟨kd, par⟩)))) ∧ Below x.heap.size x w' := fun x hx => atyped_any E WB p0 p1 p2 p3 p4 p v l ⟨kd, par⟩ hok x (HLV.out.below hx) (hv.below hx)
 rw [hY] at KT
 have HKT := hidC KT
 have h2 := hs.2
 clear KT hb0 hr h hL hs hok
 cases kp with
 | true =>
  obtain ⟨A, hA⟩ : ∃ A, sof keepB = A := ⟨_, rfl⟩
  have sA : A.size ≤ 5 := by rw [← hA]; decide
  by_cases q : kd = 2
  ·subst q
   have HOK : Hid (bt = 0 ∧ 0 ≤ it ∧ it ≤ 2147483647) := by show _ ∧ _; simpa using h2
   clear h2
   have a0 : V.cell? ⟨p3, 1, none⟩ = some (.string A) := by rw [← hA]; exact hv.keeps.cell (i := 1) (by decide)
   obtain ⟨G, hG⟩ : ∃ G, sof (numT it) = G := ⟨_, rfl⟩
   have sG : G.size ≤ 10 := by rw [← hG, ← bs_length, bs_of]; exact num_len HOK.out.2.2
   have s2 : ¬ 9223372036854775807 < A.size + 1 + Y.size := by omega
   have s1 : ¬ 9223372036854775807 < A.size + 1 := by omega
   have s3 : ¬ 9223372036854775807 < A.size + 1 + Y.size + 1 := by omega
   have s4 : ¬ 9223372036854775807 < A.size + 1 + Y.size + 1 + G.size := by omega
   have HR : Hid ((((A ++ (⟨#[32]⟩ : ByteArray)) ++ Y) ++ (⟨#[32]⟩ : ByteArray)) ++ G = sof (joinW (keepB :: (typWs ⟨2, par⟩ ++ [numT it])))) := by
    show _ = _
    rw [← hA, ← hY, ← hG, join_flat (typ_ne _)]
    show (((sof keepB ++ sof [32]) ++ sof _) ++ sof [32]) ++ sof (numT it) = _
    rw [sof_app, sof_app, sof_app, sof_app]
    simp
   have HN : Hid (∀ x, Below V.heap.size V x → Calls Tryz.prog 44 #[.int .i64 it] x fun e w => e = .returned (.string G) ∧ Below x.heap.size x w) := fun x hx => by rw [← hG, ← itoa_num HOK.out.2.1]; exact anum_any it (by have := HOK.out; omega) (by have := HOK.out; omega) x (HLV.out.below hx)
   have HX : Hid (∀ x, Calls Tryz.prog 81 #[.int .u32 bt] x fun e w => e = .returned (.string (hexB bt)) ∧ Below x.heap.size x w) := fun x => hex_any bt HBT.out.1 HBT.out.2 x
   have hbx : ∃ Z, hexB bt = Z := ⟨_, rfl⟩
   obtain ⟨Z, hZ⟩ := hbx
   rw [hZ] at HX
   clear hA hY hG sG sA sY hv hZ
   go_enter Tryz.func46, Tryz.ntmps46
   go_upto_region 1 with fail
   try rw [hV]
   try rw [hXX]
   clear hV hXX
   go_upto_region 6 with (first
    | (go_at_call 81; (with_reducible refine (HX.out _).mono ?_); rintro e u1 ⟨rfl, bb1⟩; have HBU := hidC bb1; have m0 := kc bb1 t0; have m1 := kc bb1 x0; have m2 := kc bb1 x1; have m3 := kc bb1 x2; have m4 := kc bb1 x4; have m5 := kc bb1 a0; clear bb1)
    | (go_at_call 44; (with_reducible refine (HN.out _ HBU.out).mono ?_); rintro e u2 ⟨rfl, bb2⟩; have HBU2 := hidC (bel HBU.out bb2); clear bb2))
   obtain ⟨V1, hV1⟩ : ∃ V1, u2 = V1 := ⟨_, rfl⟩
   have HBV : Hid (Below V.heap.size V V1) := by show Below _ _ _; rw [← hV1]; exact HBU2.out
   try rw [hV1]
   clear m0 m1 m2 m3 m4 m5
   have n0 := kc HBV.out t0
   have n1 := kc HBV.out x0
   have n2 := kc HBV.out x1
   have n3 := kc HBV.out a0
   have y0 : V1.drew.cell? ⟨WB, 5, none⟩ = some (.slice (some ⟨p3, 0, none⟩) 2 2) := n0
   have y1 : V1.drew.cell? ⟨X, 0, none⟩ = some (.int .i64 2) := n1
   have y2 : V1.drew.cell? ⟨X, 1, none⟩ = some (.int .i64 par) := n2
   have y3 : V1.drew.cell? ⟨p3, 1, none⟩ = some (.string A) := n3
   refine wp_region_held_drew (S := (fun v => v.cell? ⟨WB, 5, none⟩ = some (.slice (some ⟨p3, 0, none⟩) 2 2) ∧ v.cell? ⟨X, 0, none⟩ = some (.int .i64 2) ∧ v.cell? ⟨X, 1, none⟩ = some (.int .i64 par) ∧ v.cell? ⟨p3, 1, none⟩ = some (.string A))) (by kernel_rfl) ?_ (fun hHeld => ?_)
   ·((try dsimp only); go_keep)
   refine tkT 0 ?_
   refine tkT 1 ?_
   refine tkT 2 ?_
   refine tkT 3 ?_
   refine tkT 4 ?_
   refine tkT 5 ?_
   refine tkT 6 ?_
   refine tkT 7 ?_
   refine tkT 8 ?_
   refine tkT 9 ?_
   refine tkT 10 ?_
   refine tkT 14 ?_
   clear hHeld
   refine wpAnyH_ready (rs := [11]) (by kernel_rfl) (by simp) ?_
   refine AllReadyH.cons (i := 11) (by simp only [List.getElem?_toArray, List.getElem?_cons_succ, List.getElem?_cons_zero]; rfl) (fun K hK => ?_) AllReadyH.nil
   go_simp
   (go_at_call 45; (with_reducible refine (HKT.out _ (bel HBV.out (bel_d V1))).mono ?_); rintro e w2 ⟨rfl, b2⟩; have b3 := bel (bel HBV.out (bel_d V1)) b2; have HB2 := hidC b3; have d0 := kc b3 t0; have d1 := kc b3 x0; have d2 := kc b3 x1; have d3 := kc b3 a0; clear b2 b3)
   try (go_wp2_with fail)
   refine hK.out _ _ ?_ (fun hHeld => ?_)
   ·((try dsimp only); go_keep)
   clear hK K
   try simp only [Act.put, List.setIfInBounds_toArray, List.set_cons_zero, List.set_cons_succ]
   refine tkT 12 ?_
   refine tkT 13 ?_
   refine tkT 15 ?_
   refine tkT 16 ?_
   refine wpAnyH_done (by kernel_rfl) ?_ _
   try go_wp2
   refine bodyPost_ret (by simp [results, Tryz.results46, go_sem, *]; try rfl) rfl ?_
   exact ⟨by rw [← HR.out], bel HB0.out HB2.out⟩
  ·have HOK : Hid (it = 0 ∧ 0 ≤ bt ∧ bt < 4294967296) := by have h9 := h2; simp only at h9; rw [if_neg q] at h9; exact h9
   have e2 : (kd == 2) = false := by simpa using q
   rw [show (if (⟨⟨kd, par⟩, true, bt, it⟩ : Sl).ty.kind = 2 then numT (⟨⟨kd, par⟩, true, bt, it⟩ : Sl).int_ else hexT (⟨⟨kd, par⟩, true, bt, it⟩ : Sl).bits) = hexT bt from if_neg q]
   clear h2 q
   have a0 : V.cell? ⟨p3, 1, none⟩ = some (.string A) := by rw [← hA]; exact hv.keeps.cell (i := 1) (by decide)
   obtain ⟨G, hG⟩ : ∃ G, hexB bt = G := ⟨_, rfl⟩
   have sG : G.size ≤ 10 := by rw [← hG, hexB_size]; decide
   have s2 : ¬ 9223372036854775807 < A.size + 1 + Y.size := by omega
   have s1 : ¬ 9223372036854775807 < A.size + 1 := by omega
   have s3 : ¬ 9223372036854775807 < A.size + 1 + Y.size + 1 := by omega
   have s4 : ¬ 9223372036854775807 < A.size + 1 + Y.size + 1 + G.size := by omega
   have HR : Hid ((((A ++ (⟨#[32]⟩ : ByteArray)) ++ Y) ++ (⟨#[32]⟩ : ByteArray)) ++ G = sof (joinW (keepB :: (typWs ⟨kd, par⟩ ++ [hexT bt])))) := by
    show _ = _
    rw [← hA, ← hY, ← hG, join_flat (typ_ne _)]
    show (((sof keepB ++ sof [32]) ++ sof _) ++ sof [32]) ++ hexB bt = _
    rw [show hexB bt = sof (hexT bt) from by unfold hexT sof; simp]
    rw [sof_app, sof_app, sof_app, sof_app]
    simp
   have HX : Hid (∀ x, Calls Tryz.prog 81 #[.int .u32 bt] x fun e w => e = .returned (.string (hexB bt)) ∧ Below x.heap.size x w) := fun x => hex_any bt HBT.out.1 HBT.out.2 x
   rw [hG] at HX
   clear hA hY hG sG sA sY hv 
   go_enter Tryz.func46, Tryz.ntmps46
   go_upto_region 1 with fail
   try rw [hV]
   try rw [hXX]
   clear hV hXX
   go_upto_region 6 with (first
    | (go_at_call 81; (with_reducible refine (HX.out _).mono ?_); rintro e u1 ⟨rfl, bb1⟩; have HBU := hidC bb1; have m0 := kc bb1 t0; have m1 := kc bb1 x0; have m2 := kc bb1 x1; have m3 := kc bb1 x2; have m4 := kc bb1 x4; have m5 := kc bb1 a0; clear bb1)
    | (go_at_call 44; (with_reducible refine (HN.out _ HBU.out).mono ?_); rintro e u2 ⟨rfl, bb2⟩; have HBU2 := hidC (bel HBU.out bb2); clear bb2))
   obtain ⟨V1, hV1⟩ : ∃ V1, u1 = V1 := ⟨_, rfl⟩
   have HBV : Hid (Below V.heap.size V V1) := by show Below _ _ _; rw [← hV1]; exact HBU.out
   try rw [hV1]
   clear m0 m1 m2 m3 m4 m5
   have n0 := kc HBV.out t0
   have n1 := kc HBV.out x0
   have n2 := kc HBV.out x1
   have n3 := kc HBV.out a0
   have y0 : V1.drew.cell? ⟨WB, 5, none⟩ = some (.slice (some ⟨p3, 0, none⟩) 2 2) := n0
   have y1 : V1.drew.cell? ⟨X, 0, none⟩ = some (.int .i64 kd) := n1
   have y2 : V1.drew.cell? ⟨X, 1, none⟩ = some (.int .i64 par) := n2
   have y3 : V1.drew.cell? ⟨p3, 1, none⟩ = some (.string A) := n3
   refine wp_region_held_drew (S := (fun v => v.cell? ⟨WB, 5, none⟩ = some (.slice (some ⟨p3, 0, none⟩) 2 2) ∧ v.cell? ⟨X, 0, none⟩ = some (.int .i64 kd) ∧ v.cell? ⟨X, 1, none⟩ = some (.int .i64 par) ∧ v.cell? ⟨p3, 1, none⟩ = some (.string A))) (by kernel_rfl) ?_ (fun hHeld => ?_)
   ·((try dsimp only); go_keep)
   refine tkT 0 ?_
   refine tkT 1 ?_
   refine tkT 2 ?_
   refine tkT 3 ?_
   refine tkT 4 ?_
   refine tkT 5 ?_
   refine tkT 6 ?_
   refine tkT 7 ?_
   refine tkT 8 ?_
   refine tkT 9 ?_
   refine tkT 10 ?_
   refine tkT 14 ?_
   clear hHeld
   refine wpAnyH_ready (rs := [11]) (by kernel_rfl) (by simp) ?_
   refine AllReadyH.cons (i := 11) (by simp only [List.getElem?_toArray, List.getElem?_cons_succ, List.getElem?_cons_zero]; rfl) (fun K hK => ?_) AllReadyH.nil
   go_simp
   (go_at_call 45; (with_reducible refine (HKT.out _ (bel HBV.out (bel_d V1))).mono ?_); rintro e w2 ⟨rfl, b2⟩; have b3 := bel (bel HBV.out (bel_d V1)) b2; have HB2 := hidC b3; have d0 := kc b3 t0; have d1 := kc b3 x0; have d2 := kc b3 x1; have d3 := kc b3 a0; clear b2 b3)
   try (go_wp2_with fail)
   refine hK.out _ _ ?_ (fun hHeld => ?_)
   ·((try dsimp only); go_keep)
   clear hK K
   try simp only [Act.put, List.setIfInBounds_toArray, List.set_cons_zero, List.set_cons_succ]
   refine tkT 12 ?_
   refine tkT 13 ?_
   refine tkT 15 ?_
   refine tkT 16 ?_
   refine wpAnyH_done (by kernel_rfl) ?_ _
   try go_wp2
   refine bodyPost_ret (by simp [results, Tryz.results46, go_sem, *]; try rfl) rfl ?_
   exact ⟨by rw [← HR.out], bel HB0.out HB2.out⟩
 | false =>
  obtain ⟨A, hA⟩ : ∃ A, sof localB = A := ⟨_, rfl⟩
  have sA : A.size ≤ 5 := by rw [← hA]; decide
  by_cases q : kd = 2
  ·subst q
   have HOK : Hid (bt = 0 ∧ 0 ≤ it ∧ it ≤ 2147483647) := by show _ ∧ _; simpa using h2
   clear h2
   have a0 : V.cell? ⟨p3, 0, none⟩ = some (.string A) := by rw [← hA]; exact hv.keeps.cell (i := 0) (by decide)
   obtain ⟨G, hG⟩ : ∃ G, sof (numT it) = G := ⟨_, rfl⟩
   have sG : G.size ≤ 10 := by rw [← hG, ← bs_length, bs_of]; exact num_len HOK.out.2.2
   have s2 : ¬ 9223372036854775807 < A.size + 1 + Y.size := by omega
   have s1 : ¬ 9223372036854775807 < A.size + 1 := by omega
   have s3 : ¬ 9223372036854775807 < A.size + 1 + Y.size + 1 := by omega
   have s4 : ¬ 9223372036854775807 < A.size + 1 + Y.size + 1 + G.size := by omega
   have HR : Hid ((((A ++ (⟨#[32]⟩ : ByteArray)) ++ Y) ++ (⟨#[32]⟩ : ByteArray)) ++ G = sof (joinW (localB :: (typWs ⟨2, par⟩ ++ [numT it])))) := by
    show _ = _
    rw [← hA, ← hY, ← hG, join_flat (typ_ne _)]
    show (((sof localB ++ sof [32]) ++ sof _) ++ sof [32]) ++ sof (numT it) = _
    rw [sof_app, sof_app, sof_app, sof_app]
    simp
   have HN : Hid (∀ x, Below V.heap.size V x → Calls Tryz.prog 44 #[.int .i64 it] x fun e w => e = .returned (.string G) ∧ Below x.heap.size x w) := fun x hx => by rw [← hG, ← itoa_num HOK.out.2.1]; exact anum_any it (by have := HOK.out; omega) (by have := HOK.out; omega) x (HLV.out.below hx)
   have HX : Hid (∀ x, Calls Tryz.prog 81 #[.int .u32 bt] x fun e w => e = .returned (.string (hexB bt)) ∧ Below x.heap.size x w) := fun x => hex_any bt HBT.out.1 HBT.out.2 x
   have hbx : ∃ Z, hexB bt = Z := ⟨_, rfl⟩
   obtain ⟨Z, hZ⟩ := hbx
   rw [hZ] at HX
   clear hA hY hG sG sA sY hv hZ
   go_enter Tryz.func46, Tryz.ntmps46
   go_upto_region 1 with fail
   try rw [hV]
   try rw [hXX]
   clear hV hXX
   go_upto_region 6 with (first
    | (go_at_call 81; (with_reducible refine (HX.out _).mono ?_); rintro e u1 ⟨rfl, bb1⟩; have HBU := hidC bb1; have m0 := kc bb1 t0; have m1 := kc bb1 x0; have m2 := kc bb1 x1; have m3 := kc bb1 x2; have m4 := kc bb1 x4; have m5 := kc bb1 a0; clear bb1)
    | (go_at_call 44; (with_reducible refine (HN.out _ HBU.out).mono ?_); rintro e u2 ⟨rfl, bb2⟩; have HBU2 := hidC (bel HBU.out bb2); clear bb2))
   obtain ⟨V1, hV1⟩ : ∃ V1, u2 = V1 := ⟨_, rfl⟩
   have HBV : Hid (Below V.heap.size V V1) := by show Below _ _ _; rw [← hV1]; exact HBU2.out
   try rw [hV1]
   clear m0 m1 m2 m3 m4 m5
   have n0 := kc HBV.out t0
   have n1 := kc HBV.out x0
   have n2 := kc HBV.out x1
   have n3 := kc HBV.out a0
   have y0 : V1.drew.cell? ⟨WB, 5, none⟩ = some (.slice (some ⟨p3, 0, none⟩) 2 2) := n0
   have y1 : V1.drew.cell? ⟨X, 0, none⟩ = some (.int .i64 2) := n1
   have y2 : V1.drew.cell? ⟨X, 1, none⟩ = some (.int .i64 par) := n2
   have y3 : V1.drew.cell? ⟨p3, 0, none⟩ = some (.string A) := n3
   refine wp_region_held_drew (S := (fun v => v.cell? ⟨WB, 5, none⟩ = some (.slice (some ⟨p3, 0, none⟩) 2 2) ∧ v.cell? ⟨X, 0, none⟩ = some (.int .i64 2) ∧ v.cell? ⟨X, 1, none⟩ = some (.int .i64 par) ∧ v.cell? ⟨p3, 0, none⟩ = some (.string A))) (by kernel_rfl) ?_ (fun hHeld => ?_)
   ·((try dsimp only); go_keep)
   refine tkT 0 ?_
   refine tkT 1 ?_
   refine tkT 2 ?_
   refine tkT 3 ?_
   refine tkT 4 ?_
   refine tkT 5 ?_
   refine tkT 6 ?_
   refine tkT 7 ?_
   refine tkT 8 ?_
   refine tkT 9 ?_
   refine tkT 10 ?_
   refine tkT 14 ?_
   clear hHeld
   refine wpAnyH_ready (rs := [11]) (by kernel_rfl) (by simp) ?_
   refine AllReadyH.cons (i := 11) (by simp only [List.getElem?_toArray, List.getElem?_cons_succ, List.getElem?_cons_zero]; rfl) (fun K hK => ?_) AllReadyH.nil
   go_simp
   (go_at_call 45; (with_reducible refine (HKT.out _ (bel HBV.out (bel_d V1))).mono ?_); rintro e w2 ⟨rfl, b2⟩; have b3 := bel (bel HBV.out (bel_d V1)) b2; have HB2 := hidC b3; have d0 := kc b3 t0; have d1 := kc b3 x0; have d2 := kc b3 x1; have d3 := kc b3 a0; clear b2 b3)
   try (go_wp2_with fail)
   refine hK.out _ _ ?_ (fun hHeld => ?_)
   ·((try dsimp only); go_keep)
   clear hK K
   try simp only [Act.put, List.setIfInBounds_toArray, List.set_cons_zero, List.set_cons_succ]
   refine tkT 12 ?_
   refine tkT 13 ?_
   refine tkT 15 ?_
   refine tkT 16 ?_
   refine wpAnyH_done (by kernel_rfl) ?_ _
   try go_wp2
   refine bodyPost_ret (by simp [results, Tryz.results46, go_sem, *]; try rfl) rfl ?_
   exact ⟨by rw [← HR.out], bel HB0.out HB2.out⟩
  ·have HOK : Hid (it = 0 ∧ 0 ≤ bt ∧ bt < 4294967296) := by have h9 := h2; simp only at h9; rw [if_neg q] at h9; exact h9
   have e2 : (kd == 2) = false := by simpa using q
   rw [show (if (⟨⟨kd, par⟩, false, bt, it⟩ : Sl).ty.kind = 2 then numT (⟨⟨kd, par⟩, false, bt, it⟩ : Sl).int_ else hexT (⟨⟨kd, par⟩, false, bt, it⟩ : Sl).bits) = hexT bt from if_neg q]
   clear h2 q
   have a0 : V.cell? ⟨p3, 0, none⟩ = some (.string A) := by rw [← hA]; exact hv.keeps.cell (i := 0) (by decide)
   obtain ⟨G, hG⟩ : ∃ G, hexB bt = G := ⟨_, rfl⟩
   have sG : G.size ≤ 10 := by rw [← hG, hexB_size]; decide
   have s2 : ¬ 9223372036854775807 < A.size + 1 + Y.size := by omega
   have s1 : ¬ 9223372036854775807 < A.size + 1 := by omega
   have s3 : ¬ 9223372036854775807 < A.size + 1 + Y.size + 1 := by omega
   have s4 : ¬ 9223372036854775807 < A.size + 1 + Y.size + 1 + G.size := by omega
   have HR : Hid ((((A ++ (⟨#[32]⟩ : ByteArray)) ++ Y) ++ (⟨#[32]⟩ : ByteArray)) ++ G = sof (joinW (localB :: (typWs ⟨kd, par⟩ ++ [hexT bt])))) := by
    show _ = _
    rw [← hA, ← hY, ← hG, join_flat (typ_ne _)]
    show (((sof localB ++ sof [32]) ++ sof _) ++ sof [32]) ++ hexB bt = _
    rw [show hexB bt = sof (hexT bt) from by unfold hexT sof; simp]
    rw [sof_app, sof_app, sof_app, sof_app]
    simp
   have HX : Hid (∀ x, Calls Tryz.prog 81 #[.int .u32 bt] x fun e w => e = .returned (.string (hexB bt)) ∧ Below x.heap.size x w) := fun x => hex_any bt HBT.out.1 HBT.out.2 x
   rw [hG] at HX
   clear hA hY hG sG sA sY hv 
   go_enter Tryz.func46, Tryz.ntmps46
   go_upto_region 1 with fail
   try rw [hV]
   try rw [hXX]
   clear hV hXX
   go_upto_region 6 with (first
    | (go_at_call 81; (with_reducible refine (HX.out _).mono ?_); rintro e u1 ⟨rfl, bb1⟩; have HBU := hidC bb1; have m0 := kc bb1 t0; have m1 := kc bb1 x0; have m2 := kc bb1 x1; have m3 := kc bb1 x2; have m4 := kc bb1 x4; have m5 := kc bb1 a0; clear bb1)
    | (go_at_call 44; (with_reducible refine (HN.out _ HBU.out).mono ?_); rintro e u2 ⟨rfl, bb2⟩; have HBU2 := hidC (bel HBU.out bb2); clear bb2))
   obtain ⟨V1, hV1⟩ : ∃ V1, u1 = V1 := ⟨_, rfl⟩
   have HBV : Hid (Below V.heap.size V V1) := by show Below _ _ _; rw [← hV1]; exact HBU.out
   try rw [hV1]
   clear m0 m1 m2 m3 m4 m5
   have n0 := kc HBV.out t0
   have n1 := kc HBV.out x0
   have n2 := kc HBV.out x1
   have n3 := kc HBV.out a0
   have y0 : V1.drew.cell? ⟨WB, 5, none⟩ = some (.slice (some ⟨p3, 0, none⟩) 2 2) := n0
   have y1 : V1.drew.cell? ⟨X, 0, none⟩ = some (.int .i64 kd) := n1
   have y2 : V1.drew.cell? ⟨X, 1, none⟩ = some (.int .i64 par) := n2
   have y3 : V1.drew.cell? ⟨p3, 0, none⟩ = some (.string A) := n3
   refine wp_region_held_drew (S := (fun v => v.cell? ⟨WB, 5, none⟩ = some (.slice (some ⟨p3, 0, none⟩) 2 2) ∧ v.cell? ⟨X, 0, none⟩ = some (.int .i64 kd) ∧ v.cell? ⟨X, 1, none⟩ = some (.int .i64 par) ∧ v.cell? ⟨p3, 0, none⟩ = some (.string A))) (by kernel_rfl) ?_ (fun hHeld => ?_)
   ·((try dsimp only); go_keep)
   refine tkT 0 ?_
   refine tkT 1 ?_
   refine tkT 2 ?_
   refine tkT 3 ?_
   refine tkT 4 ?_
   refine tkT 5 ?_
   refine tkT 6 ?_
   refine tkT 7 ?_
   refine tkT 8 ?_
   refine tkT 9 ?_
   refine tkT 10 ?_
   refine tkT 14 ?_
   clear hHeld
   refine wpAnyH_ready (rs := [11]) (by kernel_rfl) (by simp) ?_
   refine AllReadyH.cons (i := 11) (by simp only [List.getElem?_toArray, List.getElem?_cons_succ, List.getElem?_cons_zero]; rfl) (fun K hK => ?_) AllReadyH.nil
   go_simp
   (go_at_call 45; (with_reducible refine (HKT.out _ (bel HBV.out (bel_d V1))).mono ?_); rintro e w2 ⟨rfl, b2⟩; have b3 := bel (bel HBV.out (bel_d V1)) b2; have HB2 := hidC b3; have d0 := kc b3 t0; have d1 := kc b3 x0; have d2 := kc b3 x1; have d3 := kc b3 a0; clear b2 b3)
   try (go_wp2_with fail)
   refine hK.out _ _ ?_ (fun hHeld => ?_)
   ·((try dsimp only); go_keep)
   clear hK K
   try simp only [Act.put, List.setIfInBounds_toArray, List.set_cons_zero, List.set_cons_succ]
   refine tkT 12 ?_
   refine tkT 13 ?_
   refine tkT 15 ?_
   refine tkT 16 ?_
   refine wpAnyH_done (by kernel_rfl) ?_ _
   try go_wp2
   refine bodyPost_ret (by simp [results, Tryz.results46, go_sem, *]; try rfl) rfl ?_
   exact ⟨by rw [← HR.out], bel HB0.out HB2.out⟩
end Go.Proofs.YtgcmnkanjcfndaaGreatDoor
namespace Go.Proofs.YtgcmnkanjcfndaaGreatDoor
open Go.RowKit
set_option linter.unusedVariables false
set_option linter.unusedSimpArgs false
def strS (ws : List Bs) : List Value := ws.map fun x => .string (sof x)
theorem strS_app (a b : List Bs) : strS (a ++ b) = strS a ++ strS b := by simp [strS]
theorem info_strA : (Tryz.prog.info? 9).map (fun i => (i.zero, i.size, i.bytes)) = some (some (.string ⟨#[]⟩), 1, 16) := by kernel_rfl
theorem own_one (E : Nat) (w : World) (x : Bs) (hE : E ≤ w.heap.size) : (w.alloc (.cells #[.string (sof x)] 9)).ownsRow E 9 1 (.slice (some ⟨w.heap.size, 0, none⟩) 1 1) [x].length (strS [x]) :=
 ⟨rfl, .inr ⟨w.heap.size, 1, #[.string (sof x)], rfl, hE, heap_alloc_new _ _, Nat.le_refl _, by unfold maxLen; decide, rfl, rfl⟩⟩
theorem own_word {E : Nat} {w : World} {q : Option Addr} {d : Nat} {ws : List Bs} (h : w.ownsRow E 9 1 (.slice q ws.length d) ws.length (strS ws)) (hE : E ≤ w.heap.size) (hl : ws.length ≤ 100) (x : Bs) :
  ∃ g c' w', (Builtin.append_ #[69, 69] 69 #[.slice q ws.length d, .slice (some ⟨w.heap.size, 0, none⟩) 1 1]).run Tryz.prog (w.alloc (.cells #[.string (sof x)] 9)) = .ok (.slice (some ⟨g, 0, none⟩) (ws.length + 1) c') w' ∧ Below E w w' ∧ w'.ownsRow E 9 1 (.slice (some ⟨g, 0, none⟩) (ws.length + 1) c') (ws ++ [x]).length (strS (ws ++ [x])) ∧ ∀ b, b < w.heap.size → (Value.slice q ws.length d).ownBlock ≠ some b → w'.heap[b]? = w.heap[b]? := by
 obtain ⟨g, c', w', h1, h2, h3, h4⟩ := own_app (t := 69) (e := 9) Tryz.underlying69 info_strA (by rfl) (by decide) h hE #[.string (sof x)] rfl (by simp [Value.oneCell']) (by unfold maxLen; omega) (by omega) 69
 refine ⟨g, c', w', h1, h2, ?_, h4⟩
 rw [List.length_append, List.length_singleton, strS_app]
 exact h3
def getA (i : Ins) (o : Nat) : Int := if o = 1 then i.d else if o = 2 then i.a else if o = 3 then i.b else i.c
def endS (i : Ins) (O : Nat) : List Bs := if nmB O = true then [numT i.n] else if O = 1 then [hexT i.bits] else []
theorem ins_ws {i : Ins} (O : Nat) (hO : i.op = (O : Int)) (h1 : 1 ≤ O) (h2 : O < 38) : insWs i = opT i.op :: ((rgO i).map (fun o => rgT (getA i o)) ++ endS i O) := by
 obtain ⟨r1, r2⟩ := row_abc O h2
 obtain ⟨s1, s2, s3⟩ := row_end O h2 h1
 unfold insWs rgO readsP fldWs endWs endS
 rw [hO]
 generalize (rowP (O : Int)).d = D at *
 generalize (rowP (O : Int)).a = A at *
 generalize (rowP (O : Int)).b = B at *
 generalize (rowP (O : Int)).c = C at *
 have hE : (if (rowP (O : Int)).n = 7 then [hexT i.bits] else if (rowP (O : Int)).n = 0 then [] else [numT i.n]) = (if nmB O = true then [numT i.n] else if O = 1 then [hexT i.bits] else []) := by
  by_cases q : nmB O = true
  ·rw [if_pos q, if_neg (s1 q).2, if_neg (s1 q).1]
  ·have q' : nmB O = false := by simpa using q
   by_cases q1 : O = 1
   ·rw [if_neg q, if_pos q1, if_pos (s2 q1).1]
   ·rw [if_neg q, if_neg q1, s3 q' q1]; rfl
 rw [hE]
 by_cases hd : D = 0 <;> by_cases ha : A = 0
 ·simp [hd, ha, r1 ha, r2 (r1 ha)]
 ·by_cases hb : B = 0
  ·simp [hd, ha, hb, r2 hb, getA]
  ·by_cases hc : C = 0
   ·simp [hd, ha, hb, hc, getA]
   ·simp [hd, ha, hb, hc, getA]
 ·simp [hd, ha, r1 ha, r2 (r1 ha), getA]
 ·by_cases hb : B = 0
  ·simp [hd, ha, hb, r2 hb, getA]
  ·by_cases hc : C = 0
   ·simp [hd, ha, hb, hc, getA]
   ·simp [hd, ha, hb, hc, getA]
theorem okF_in {l n : Int} (h : okF l n) : 0 ≤ n ∧ n ≤ 2147483647 := by
 unfold okF at h
 split at h
 ·rw [h]; decide
 ·exact h
theorem getA_in {i : Ins} (h : okIn i) (o : Nat) : 0 ≤ getA i o ∧ getA i o ≤ 2147483647 := by
 obtain ⟨-, h1, h2, h3, h4, -⟩ := h
 unfold getA
 split
 ·exact okF_in h1
 split
 ·exact okF_in h2
 split
 ·exact okF_in h3
 ·exact okF_in h4
theorem okE_n {l n b : Int} (h : okE l n b) : 0 ≤ n ∧ n ≤ 2147483647 := by
 unfold okE at h
 split at h
 ·rw [h.1]; decide
 split at h
 ·rw [h.1]; decide
 ·exact h.2
theorem in7_get {w : World} {X : Nat} {i : Ins} (h : w.rowIs X 46 7 (in7 i)) {o : Nat} (h1 : 1 ≤ o) (h2 : o ≤ 4) : w.cell? ⟨X, o, none⟩ = some (.int .i64 (getA i o)) := by
 have h9 := h.cell (i := o) (by omega)
 rcases (show o = 1 ∨ o = 2 ∨ o = 3 ∨ o = 4 by omega) with rfl | rfl | rfl | rfl <;> exact h9
theorem rg_cat (n : Int) : (⟨#[114]⟩ : ByteArray) ++ sof (numT n) = sof (rgT n) := by
 show sof [114] ++ sof (numT n) = _
 rw [sof_app]
 rfl
set_option maxRecDepth 100000 in
set_option maxHeartbeats 16000000 in
theorem ainsw_any (E WB p0 p1 p2 p3 p4 : Nat) (p v : Value) (l : Bs) (i : Ins) (hi : okIn i) (w : World) (hL : Laid w) (h : WrA E WB p0 p1 p2 p3 p4 p v l w) :
  Calls Tryz.prog 47 #[.pointer (some ⟨WB, 0, none⟩), .agg #[.int .i64 i.op, .int .i64 i.d, .int .i64 i.a, .int .i64 i.b, .int .i64 i.c, .int .i64 i.n, .int .u32 i.bits]] w fun e w' => ∃ q d, e = .returned (.slice q (insWs i).length d) ∧ w'.ownsRow w.heap.size 9 1 (.slice q (insWs i).length d) (insWs i).length (strS (insWs i)) ∧ Below w.heap.size w w' := by
 obtain ⟨O, hO⟩ : ∃ O : Nat, i.op = (O : Int) := ⟨i.op.toNat, by have := hi.1; omega⟩
 have hO1 : 1 ≤ O ∧ O < 38 := by have := hi.1; omega
 have hws := ins_ws O hO hO1.1 hO1.2
 have HGA := hidC (getA_in hi)
 have HNN := hidC (okE_n hi.2.2.2.2.2)
 have HBB := hidC (okE_bits hi.2.2.2.2.2)
 obtain ⟨W, hW⟩ : ∃ W, insWs i = W := ⟨_, rfl⟩
 rw [hW] at hws ⊢
 obtain ⟨V, hV⟩ : ∃ V, w.alloc (.cells #[.int .i64 i.op, .int .i64 i.d, .int .i64 i.a, .int .i64 i.b, .int .i64 i.c, .int .i64 i.n, .int .u32 i.bits] 46) = V := ⟨_, rfl⟩
 obtain ⟨X, hXX⟩ : ∃ X, w.heap.size = X := ⟨_, rfl⟩
 have hb0 : Below w.heap.size w V := by rw [← hV]; exact bel_alloc _ _
 have hr : V.rowIs X 46 7 (in7 i) := by
  rw [← hV, ← hXX]
  exact World.rowIs_alloc w #[.int .i64 i.op, .int .i64 i.d, .int .i64 i.a, .int .i64 i.b, .int .i64 i.c, .int .i64 i.n, .int .u32 i.bits] 46 _ (fun j hj => by
   rcases (show j = 0 ∨ j = 1 ∨ j = 2 ∨ j = 3 ∨ j = 4 ∨ j = 5 ∨ j = 6 by have : j < 7 := hj; omega) with rfl | rfl | rfl | rfl | rfl | rfl | rfl <;> rfl)
 have hv := h.below hb0
 have HLV := hidC (hL.below hb0)
 have HB0 := hidC hb0
 obtain ⟨A, hA⟩ : ∃ A, sof (opT i.op) = A := ⟨_, rfl⟩
 have hop : (opsB[O]?).getD [] = opT i.op := by unfold opT; rw [hO]; rfl
 have a0 : V.cell? ⟨p4, O, none⟩ = some (.string A) := by rw [← hA, ← hop]; exact hv.ops.cell (i := O) hO1.2
 have t0 : V.cell? ⟨WB, 6, none⟩ = some (.slice (some ⟨p4, 0, none⟩) 38 38) := hv.bd.row.cell (i := 6) (by decide)
 have x0 : V.cell? ⟨X, 0, none⟩ = some (.int .i64 (O : Int)) := by rw [← hO]; exact hr.cell (i := 0) (by decide)
 have HRX : Hid (∀ x, Below V.heap.size V x → x.rowIs X 46 7 (in7 i)) := fun x k => hr.of_block (k.block _ hr.lt)
 have y0 : V.drew.cell? ⟨WB, 6, none⟩ = some (.slice (some ⟨p4, 0, none⟩) 38 38) := t0
 have y1 : V.drew.cell? ⟨X, 0, none⟩ = some (.int .i64 (O : Int)) := x0
 have y2 : V.drew.cell? ⟨p4, O, none⟩ = some (.string A) := a0
 have o1 : (0 : Int) ≤ (O : Int) := by omega
 have o2 : (O : Int) < 38 := by omega
 have o3 : O < 38 := hO1.2
 have HOO := hidC (And.intro hO hO1)
 have HWS := hidC hws
 have HAA := hidC hA
 have HSB : Hid (sof (opT i.op) = A ∧ (∀ b, b < V.heap.size → True)) := ⟨hA, fun _ _ => trivial⟩
 have lV : V.heap.size = w.heap.size + 1 := by rw [← hV]; simp
 have HLVS := hidC lV
 clear hi hW hb0 hr h hL hv hop hA hO1 hws lV
 go_enter Tryz.func47, Tryz.ntmps47
 rw [hO] at hV ⊢
 go_upto_region 1 with fail
 try rw [hV]
 try rw [hXX]
 clear hV hXX hO
 refine wp_region_held_drew (S := (fun v => v.cell? ⟨WB, 6, none⟩ = some (.slice (some ⟨p4, 0, none⟩) 38 38) ∧ v.cell? ⟨X, 0, none⟩ = some (.int .i64 (O : Int)) ∧ v.cell? ⟨p4, O, none⟩ = some (.string A))) (by kernel_rfl) ?_ (fun hHeld => ?_)
 ·((try dsimp only); go_keep)
 refine tkT 0 ?_
 refine tkT 1 ?_
 refine tkT 2 ?_
 refine tkT 3 ?_
 refine tkT 4 ?_
 refine tkT 5 ?_
 refine tkT 6 ?_
 refine tkT 7 ?_
 clear hHeld
 refine wpAnyH_ready (rs := [8]) (by kernel_rfl) (by simp) ?_
 refine AllReadyH.cons (i := 8) (by simp only [List.getElem?_toArray, List.getElem?_cons_succ, List.getElem?_cons_zero]; rfl) (fun K hK => ?_) AllReadyH.nil
 go_simp
 refine hK.out _ _ ?_ (fun hHeld => ?_)
 ·((try dsimp only); go_keep)
 clear hK K
 try simp only [Act.put, List.setIfInBounds_toArray, List.set_cons_zero, List.set_cons_succ]
 refine tkT 9 ?_
 refine wpAnyH_done (by kernel_rfl) ?_ _
 obtain ⟨E1, hE1⟩ : ∃ E1, V.heap.size = E1 := ⟨_, rfl⟩
 obtain ⟨V2, hV2⟩ : ∃ V2, (V.alloc (.cells #[.string A] 9)).drew = V2 := ⟨_, rfl⟩
 have hown : V2.ownsRow E1 9 1 (.slice (some ⟨E1, 0, none⟩) 1 1) [opT i.op].length (strS [opT i.op]) := by
  rw [← hV2, ← hE1, ← HAA.out]
  exact own_one V.heap.size V.drew (opT i.op) (Nat.le_refl _)
 have hb2 : Below E1 V V2 := by rw [← hV2, ← hE1]; exact (bel_d V).trans (show Below V.heap.size V.drew _ from bel_alloc V.drew _)
 have HE1 := hidC hE1
 simp only [hE1]
 try rw [hV2]
 have HOWN := hidC hown
 have HB2 := hidC hb2
 obtain ⟨F, hF⟩ : ∃ F, rgO i = F := ⟨_, rfl⟩
 have hF4 : F.length ≤ 4 := by rw [← hF]; exact rgO_len _
 have HFI : Hid ((∀ o ∈ F, 1 ≤ o ∧ o ≤ 4) ∧ rgO i = F) := by rw [← hF]; exact ⟨rgO_in, rfl⟩
 have KF := regsOf_any X i (by rw [HOO.out.1]; omega) V2 (in7_cells (HRX.out V2 (by rw [hE1]; exact hb2)))
 rw [hF] at KF
 obtain ⟨NF, hNF⟩ : ∃ N, F.length = N := ⟨_, rfl⟩
 rw [hNF] at KF hF4
 have HNF := hidC hNF
 have KF' := hidC KF
 have HHE : Hid (∀ x, Below E1 V x → E1 ≤ x.heap.size) := fun x k => by have := k.size; have := HE1.out; omega
 have HR7 : Hid (∀ x, Below E1 V x → x.rowIs X 46 7 (in7 i)) := fun x k => HRX.out x (by rw [HE1.out]; exact k)
 have HL7 : Hid (∀ x, Below E1 V x → Laid x) := fun x k => HLV.out.below (by rw [HE1.out]; exact k)
 clear hown hb2 hF KF hNF hV2 hE1 y0 y1 y2 a0 t0 x0 o1 o2 o3
 go_upto_block 0 with (go_at_call 82; (with_reducible refine KF'.out.mono ?_); rintro e9 w5 ⟨q5, d5, rfl, ho5, hb5⟩; have H5 := hidC (And.intro ho5 hb5); clear ho5 hb5)
 have HST : Hid (w5.ownsRow E1 9 1 (.slice (some ⟨E1, 0, none⟩) 1 1) [opT i.op].length (strS [opT i.op]) ∧ w5.ownsRow V2.heap.size 146 1 (.slice q5 NF d5) NF (ptrN X F) ∧ Below E1 V w5) := ⟨own_below HOWN.out H5.out.2, H5.out.1, HB2.out.trans (H5.out.2.mono (HHE.out _ HB2.out))⟩
 clear KF'
 go_wp2_with fail
 go_loopw [5, 19] (fun lv iv wx => ∃ (j N : Nat) (q : Option Addr) (d : Nat), j ≤ NF ∧ iv = .int .i64 (j : Int) ∧ lv = .slice q N d ∧ Hid (N = (opT i.op :: (F.take j).map (fun o => rgT (getA i o))).length ∧ wx.ownsRow E1 9 1 (.slice q N d) N (strS (opT i.op :: (F.take j).map (fun o => rgT (getA i o)))) ∧ wx.ownsRow V2.heap.size 146 1 (.slice q5 NF d5) NF (ptrN X F) ∧ Below E1 V wx)) (fun _ iv _ => NF - (intOf iv).toNat)
 case atStart => exact ⟨0, 1, _, _, Nat.zero_le _, rfl, rfl, rfl, HST.out.1, HST.out.2.1, HST.out.2.2⟩
 case round =>
  clear HST
  obtain ⟨j, N, q, d, hj, rfl, rfl, HJ⟩ := hrel
  obtain ⟨jn, j1, j2, j3⟩ := HJ.out
  obtain ⟨ws, hws⟩ : ∃ ws, opT i.op :: (F.take j).map (fun o => rgT (getA i o)) = ws := ⟨_, rfl⟩
  have hwl : ws.length = j + 1 := by rw [← hws, List.length_cons, List.length_map, List.length_take]; have := HNF.out; omega
  rw [hws] at jn j1
  have HJN := hidC jn
  have HW0 := hidC hws
  by_cases hlt : j < NF
  ·have hjl : j < F.length := by have := HNF.out; omega
   have e1 : (j : Int) < (NF : Int) := by omega
   have i1 : (0 : Int) ≤ (j : Int) := by omega
   obtain ⟨gb, rfl, hgc⟩ : ∃ gb, q5 = some ⟨gb, 0, none⟩ ∧ wr.cell? ⟨gb, j, none⟩ = some (.pointer (some ⟨X, F[j], none⟩)) := by
    rcases j2.2 with ⟨e1, e2⟩ | ⟨gb, cap, cur, e1, -, -⟩
    ·exact absurd e2 (by omega)
    ·simp only [Value.slice.injEq] at e1
     have hob : (Value.slice q5 NF d5).ownBlock = some gb := by rw [e1.1]; rfl
     have hc := j2.cells hob j (.pointer (some ⟨X, F[j], none⟩)) (by simp [ptrN, hjl])
     have hadd : (⟨gb, 0, none⟩ : Addr).add j = ⟨gb, j, none⟩ := by unfold Addr.add; split <;> simp_all
     rw [hadd] at hc
     exact ⟨gb, e1.1, hc⟩
   obtain ⟨ho1, ho2⟩ := HFI.out.1 F[j] (List.getElem_mem hjl)
   have xo := in7_get (HR7.out wr j3) ho1 ho2
   have hnx : opT i.op :: (F.take (j + 1)).map (fun o => rgT (getA i o)) = ws ++ [rgT (getA i F[j])] := by
    rw [List.take_succ_eq_append_getElem hjl, List.map_append, ← hws]; rfl
   obtain ⟨o, hoe⟩ : ∃ o, F[j] = o := ⟨_, rfl⟩
   rw [hoe] at hgc ho1 ho2 xo hnx
   obtain ⟨m, hm⟩ : ∃ m, getA i o = m := ⟨_, rfl⟩
   have hmb := HGA.out o
   rw [hm] at xo hnx hmb
   obtain ⟨S, hS⟩ : ∃ S, sof (numT m) = S := ⟨_, rfl⟩
   have sS : S.size ≤ 10 := by rw [← hS, ← bs_length, bs_of]; exact num_len hmb.2
   have s1 : ¬ 9223372036854775807 < 1 + S.size := by omega
   have HN : Hid (Calls Tryz.prog 44 #[.int .i64 m] wr fun e w' => e = .returned (.string S) ∧ Below wr.heap.size wr w') := by
    show Calls _ _ _ _ _
    rw [← hS, ← itoa_num hmb.1]
    exact anum_any m (by omega) (by omega) wr (HL7.out wr j3)
   have HG : Hid (∀ x, Below wr.heap.size wr x → ∃ g c' w', (Builtin.append_ #[69, 69] 69 #[.slice q N d, .slice (some ⟨x.heap.size, 0, none⟩) 1 1]).run Tryz.prog (x.alloc (.cells #[.string ((⟨#[114]⟩ : ByteArray) ++ S)] 9)) = .ok (.slice (some ⟨g, 0, none⟩) (N + 1) c') w' ∧ w'.ownsRow E1 9 1 (.slice (some ⟨g, 0, none⟩) (N + 1) c') (N + 1) (strS (ws ++ [rgT m])) ∧ w'.ownsRow V2.heap.size 146 1 (.slice (some ⟨gb, 0, none⟩) NF d5) NF (ptrN X F) ∧ Below E1 V w') := fun x k => by
    have hx3 := j3.trans (k.mono (HHE.out wr j3))
    subst jn
    have jx := own_below j1 k
    have jp := own_below j2 k
    obtain ⟨g, c', w', h1, h2, h3, h4⟩ := own_word jx (HHE.out x hx3) (by omega) (rgT m)
    refine ⟨g, c', w', by rw [← hS, rg_cat]; exact h1, by simpa using h3, ?_, hx3.trans h2⟩
    exact own_keep jp fun b hb => h4 b (jp.lt b hb).2 (own_other jp jx (by decide) b hb)
   have wi : IntKind.i64.wrap ((j : Int) + 1) = ((j + 1 : Nat) : Int) := by rw [IntKind.wrap_i64]; omega
   have HNX := hidC hnx
   clear j1 j2 j3 HJ hws hnx hoe hm hmb hS sS hlt hjl hwl jn
   go_wp2_with (first
    | (go_at_call 44; (with_reducible refine HN.out.mono ?_); rintro e9 w7 ⟨rfl, hb7⟩; obtain ⟨g, c', w8, hrun, k1, k2, k3⟩ := HG.out w7 hb7; have xo7 := kc hb7 xo; have HRUN := hidC hrun; have H8 := hidC (And.intro k1 (And.intro k2 k3)); clear hrun k1 k2 k3 hb7)
    | (at_builtin; refine appT_op (by rfl) _ _ _ _ (by rfl) _ _ _ (by rfl) (by rfl) HRUN.out ?_; try simp only [Act.put, List.setIfInBounds_toArray, List.set_cons_zero, List.set_cons_succ]))
   go_roundw
   case rel => exact ⟨j + 1, N + 1, _, _, by omega, by go_num, rfl, by rw [HNX.out, List.length_append, ← HJN.out]; rfl, by rw [HNX.out]; exact H8.out.1, H8.out.2.1, H8.out.2.2⟩
   case measure => simp [intOf]; omega
  ·have e1 : ¬ (j : Int) < (NF : Int) := by omega
   have hall : F.take j = F := List.take_of_length_le (by have := HNF.out; omega)
   have hWs : ws ++ endS i O = W := by rw [HWS.out, ← hws, hall, HFI.out.2]; rfl
   have hr7 := HR7.out wr j3
   obtain ⟨x0, x1, x2, x3, x4, x5, x6⟩ := in7_seven hr7
   rw [HOO.out.1] at x0
   have KH := hidC (fun x => ahasN_any O x)
   have KB := hidC (fun x => ahasB_any O x)
   have HFIN : Hid (∀ x, Below E1 V x → Below w.heap.size w x) := fun x k => HB0.out.trans (k.mono (by have := HE1.out; have := HLVS.out; omega))
   have hEw : w.heap.size ≤ E1 := by have := HE1.out; have := HLVS.out; omega
   have HEW := hidC hEw
   have HG : Hid (∀ (x : World) (y : Bs), Below wr.heap.size wr x → ∃ g c' w', (Builtin.append_ #[69, 69] 69 #[.slice q N d, .slice (some ⟨x.heap.size, 0, none⟩) 1 1]).run Tryz.prog (x.alloc (.cells #[.string (sof y)] 9)) = .ok (.slice (some ⟨g, 0, none⟩) (N + 1) c') w' ∧ w'.ownsRow E1 9 1 (.slice (some ⟨g, 0, none⟩) (N + 1) c') (N + 1) (strS (ws ++ [y])) ∧ Below E1 V w' ∧ w'.rowIs X 46 7 (in7 i)) := fun x y k => by
    have hx3 := j3.trans (k.mono (HHE.out wr j3))
    subst jn
    have jx := own_below j1 k
    obtain ⟨g, c', w', h1, h2, h3, h4⟩ := own_word jx (HHE.out x hx3) (by omega) y
    exact ⟨g, c', w', h1, by simpa using h3, hx3.trans h2, HR7.out w' (hx3.trans h2)⟩
   have HJ1 := hidC (And.intro j1 j3)
   have HLW := hidC (HL7.out wr j3)
   clear hall hws hr7 j1 j2 j3 HJ hlt hwl x1 x2 x3 x4 hEw jn
   cases hnb : nmB O with
   | true =>
    have hE : endS i O = [numT i.n] := by unfold endS; rw [if_pos hnb]
    have hO1 : decide (O = 1) = false := by
     by_cases q : O = 1
     ·subst q; exact absurd hnb (by decide)
     ·simpa using q
    rw [hnb] at KH
    rw [hO1] at KB
    rw [hE] at hWs
    have HWW := hidC hWs
    have HNM : Hid (Calls Tryz.prog 44 #[.int .i64 i.n] wr fun e w' => e = .returned (.string (sof (numT i.n))) ∧ Below wr.heap.size wr w') := by
     show Calls _ _ _ _ _
     rw [← itoa_num HNN.out.1]
     exact anum_any i.n (by have := HNN.out; omega) (by have := HNN.out; omega) wr HLW.out
    obtain ⟨S, hS⟩ : ∃ S, sof (numT i.n) = S := ⟨_, rfl⟩
    rw [hS] at HNM
    have HS := hidC hS
    clear hnb hO1 hE hWs hS x6
    go_wp2_with (first
     | (go_at_call 83; (with_reducible refine (KH.out _).mono ?_); rintro e9 w7 ⟨rfl, hw7⟩; have hw8 := hw7.symm; subst hw8)
     | (go_at_call 84; (with_reducible refine (KB.out _).mono ?_); rintro e9 w7 ⟨rfl, hw7⟩; have hw8 := hw7.symm; subst hw8)
     | (go_at_call 44; (with_reducible refine HNM.out.mono ?_); rintro e9 w7 ⟨rfl, hb7⟩; obtain ⟨g, c', w8, hrun, k1, k2, k3⟩ := HG.out w7 (numT i.n) hb7; rw [HS.out] at hrun; have HRUN := hidC hrun; have H8 := hidC (And.intro k1 k2); have z0 : w8.cell? ⟨X, 0, none⟩ = some (.int .i64 (O : Int)) := (by rw [← HOO.out.1]; exact k3.cell (i := 0) (by decide)); clear hrun k1 k2 k3 hb7 x0 x5)
     | (at_builtin; refine appT_op (by rfl) _ _ _ _ (by rfl) _ _ _ (by rfl) (by rfl) HRUN.out ?_; try simp only [Act.put, List.setIfInBounds_toArray, List.set_cons_zero, List.set_cons_succ]))
    refine bodyPost_ret (by simp [results, Tryz.results47, go_sem, *]; try rfl) rfl ?_
    refine ⟨some ⟨g, 0, none⟩, c', ?_, ?_, HFIN.out _ H8.out.2⟩
    ·rw [← HWW.out, List.length_append, ← HJN.out]; rfl
    ·rw [← HWW.out, List.length_append, ← HJN.out]; exact own_mono H8.out.1 HEW.out
   | false =>
    by_cases q1 : O = 1
    ·have hE : endS i O = [hexT i.bits] := by unfold endS; rw [if_neg (by rw [hnb]; decide), if_pos q1]
     have hO1 : decide (O = 1) = true := by simpa using q1
     rw [hnb] at KH
     rw [hO1] at KB
     rw [hE] at hWs
     have HWW := hidC hWs
     have HXX : Hid (Calls Tryz.prog 81 #[.int .u32 i.bits] wr fun e w' => e = .returned (.string (sof (hexT i.bits))) ∧ Below wr.heap.size wr w') := by
      show Calls _ _ _ _ _
      rw [show sof (hexT i.bits) = hexB i.bits from by unfold hexT sof; simp]
      exact hex_any i.bits HBB.out.1 HBB.out.2 wr
     obtain ⟨S, hS⟩ : ∃ S, sof (hexT i.bits) = S := ⟨_, rfl⟩
     rw [hS] at HXX
     have HS := hidC hS
     clear hnb hO1 hE hWs hS x5 q1
     go_wp2_with (first
      | (go_at_call 83; (with_reducible refine (KH.out _).mono ?_); rintro e9 w7 ⟨rfl, hw7⟩; have hw8 := hw7.symm; subst hw8)
      | (go_at_call 84; (with_reducible refine (KB.out _).mono ?_); rintro e9 w7 ⟨rfl, hw7⟩; have hw8 := hw7.symm; subst hw8)
      | (go_at_call 81; (with_reducible refine HXX.out.mono ?_); rintro e9 w7 ⟨rfl, hb7⟩; obtain ⟨g, c', w8, hrun, k1, k2, k3⟩ := HG.out w7 (hexT i.bits) hb7; rw [HS.out] at hrun; have HRUN := hidC hrun; have H8 := hidC (And.intro k1 k2); clear hrun k1 k2 k3 hb7 x0 x6)
      | (at_builtin; refine appT_op (by rfl) _ _ _ _ (by rfl) _ _ _ (by rfl) (by rfl) HRUN.out ?_; try simp only [Act.put, List.setIfInBounds_toArray, List.set_cons_zero, List.set_cons_succ]))
     refine bodyPost_ret (by simp [results, Tryz.results47, go_sem, *]; try rfl) rfl ?_
     refine ⟨some ⟨g, 0, none⟩, c', ?_, ?_, HFIN.out _ H8.out.2⟩
     ·rw [← HWW.out, List.length_append, ← HJN.out]; rfl
     ·rw [← HWW.out, List.length_append, ← HJN.out]; exact own_mono H8.out.1 HEW.out
    ·have hE : endS i O = [] := by unfold endS; rw [if_neg (by rw [hnb]; decide), if_neg q1]
     have hO1 : decide (O = 1) = false := by simpa using q1
     rw [hnb] at KH
     rw [hO1] at KB
     rw [hE, List.append_nil] at hWs
     have HWW := hidC hWs
     clear hnb hO1 hE hWs x5 x6 q1
     go_wp2_with (first
      | (go_at_call 83; (with_reducible refine (KH.out _).mono ?_); rintro e9 w7 ⟨rfl, hw7⟩; have hw8 := hw7.symm; subst hw8)
      | (go_at_call 84; (with_reducible refine (KB.out _).mono ?_); rintro e9 w7 ⟨rfl, hw7⟩; have hw8 := hw7.symm; subst hw8))
     refine bodyPost_ret (by simp [results, Tryz.results47, go_sem, *]; try rfl) rfl ?_
     refine ⟨q, d, ?_, ?_, HFIN.out _ HJ1.out.2⟩
     ·rw [← HWW.out, ← HJN.out]
     ·rw [← HWW.out, ← HJN.out]; exact own_mono HJ1.out.1 HEW.out
end Go.Proofs.YtgcmnkanjcfndaaGreatDoor
