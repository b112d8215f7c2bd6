import Derived.Test.YtnlgkkbmbijndaaDam15
import Derived.Lib.AppendStr
import Derived.Deep.DeepCutAuto
/- Package code: the writer: a string's bytes; param. -/
namespace Go.Proofs.Ytnlgkkbmbijndaa
open Go.RowKit
open Go.Lib (strCells run_append_own_string run_append_room_string run_append_grow_string)
set_option linter.unusedVariables false
set_option linter.unusedSimpArgs false

theorem wpList_appS {P : Program} {w w' : World} {ops : Array Oper} {rest : List Oper} {o : Oper} {a : Act} {Q : Exit → Act → World → Prop} (hgd : o.guard = none) (s x : Operand) (t u : TypeId)
    (ho : o.op = .call { callee := .builtin .append, args := #[s, x], argTypes := #[t, u] }) (v v2 v' : Value) (hs : a.eval s = v) (hx : a.eval x = v2) (hr : (Builtin.append_ #[t, u] o.type #[v, v2]).run P w = .ok v' w')
    (h : wpList P ops Q rest (a.put o.dst v') w') : wpList P ops Q (o :: rest) a w :=
  wpList_plain hgd fun _ hK => by
    unfold Oper.wp execOp
    simp only [ho, resolve, invoke, builtin, Sem.run_bind, Sem.run_pure, Result.andThen_ok, List.map_toArray, List.map_cons, List.map_nil, hs, hx, hr]
    exact hK _ _ h
theorem ready_appS {P : Program} {w w' : World} {o : Oper} {a : Act} {K : Act → World → Prop} {Q : Exit → Act → World → Prop} (s x : Operand) (t u : TypeId)
    (ho : o.op = .call { callee := .builtin .append, args := #[s, x], argTypes := #[t, u] }) (v v2 v' : Value) (hs : a.eval s = v) (hx : a.eval x = v2) (hr : (Builtin.append_ #[t, u] o.type #[v, v2]).run P w = .ok v' w')
    (h : K (a.put o.dst v') w') (y' : Bool) (hy : y' = true) : if y' = true then Oper.wp P o a w K Q else K (a.put o.dst undef) w := by
  rw [if_pos hy]
  unfold Oper.wp execOp
  simp only [ho, resolve, invoke, builtin, Sem.run_bind, Sem.run_pure, Result.andThen_ok, List.map_toArray, List.map_cons, List.map_nil, hs, hx, hr]
  exact h
theorem u8s_str (s : ByteArray) : strCells s = u8s (bytN s) := by unfold strCells u8s bytN; rw [List.map_map]; rfl
/-- An own row of bytes and a string's bytes behind it. -/
theorem own_appS {B : Nat} {V : World} {v : Value} {n : Nat} {xs : List Value} (h : V.ownsRow B 5 1 v n xs) (hB : B ≤ V.heap.size) (s : ByteArray) (hn : n + s.size ≤ 200000000) (ty : TypeId) :
    ∃ v' w', (Builtin.append_ #[40, 9] ty #[v, .string s]).run Try.prog V = .ok v' w' ∧ w'.ownsRow B 5 1 v' (n + s.size) (xs ++ strCells s) ∧ V.grownBy w' v.ownBlock ∧ (v'.ownBlock = none ∨ v'.ownBlock = v.ownBlock ∨ v'.ownBlock = some V.heap.size) := by
  obtain ⟨i0, hi0, hz0, hz1, hz2⟩ := info_parts info_U8
  have ht : Try.prog.underlying 40 = some (.slice 5) := Try.underlying40
  have hu : Try.prog.underlying 9 = some .string := Try.underlying9
  have hmx : n + s.size ≤ maxLen := by unfold maxLen; omega
  obtain ⟨v', w', hr, ho, hg, hnn⟩ := run_append_own_string (P := Try.prog) V B _ _ ty _ i0 ht hu hi0 hz0 hz1 hz2 v n xs h s hmx (by omega) hB
  refine ⟨v', w', hr, ho, hg, ?_⟩
  rcases h.2 with ⟨rfl, rfl⟩ | ⟨g, cap, cur, rfl, hbg, hgc, hnc, hcm, hcs, htake⟩
  · by_cases hm : s.size = 0
    · left
      rw [hnn.2 ⟨rfl, hm⟩]
      rfl
    · have h2 := run_append_nil_string (P := Try.prog) V _ _ ty _ i0 (.int .u8 0) ht hu hi0 hz0 s (by omega) (by omega) (by rw [hz2]; omega)
      rw [hr] at h2
      injection h2 with h3 h4
      right; right
      rw [h3]
      rfl
  · by_cases hroom : n + s.size ≤ cap
    · have h2 := run_append_room_string (P := Try.prog) V _ _ ty _ i0 ht hu hi0 hz1 g n cap cur hgc s hroom (by omega)
      rw [hr] at h2
      injection h2 with h3 h4
      right; left
      rw [h3]
      rfl
    · have holds : ∀ j u, xs[j]? = some u → V.cell? ((⟨g, 0, none⟩ : Addr).add j) = some u := h.cells (g := g) rfl
      have h2 := run_append_grow_string (P := Try.prog) V _ _ ty _ i0 (.int .u8 0) ht hu hi0 hz0 ⟨g, 0, none⟩ n cap xs (by rw [hz1]; exact h.1) holds s (by omega) (by omega) (by rw [hz2]; exact growslice_fits (by omega) (by omega))
      rw [hr] at h2
      injection h2 with h3 h4
      right; right
      rw [h3]
      rfl
/-- A string's bytes more. -/
theorem WrM.appS {E WB : Nat} {l : List Nat} {v : Value} {w : World} (h : WrM E WB l v w) (s : ByteArray) (hl : l.length + s.size ≤ 100000000) :
    ∃ p q p' q' n' w', v = .slice p l.length q ∧ (Builtin.append_ #[40, 9] 40 #[.slice p l.length q, .string s]).run Try.prog w = .ok (.slice p' n' q') w' ∧ w'.cell? ⟨WB, 0, none⟩ = some (.slice p l.length q) ∧ w'.frozen? ⟨WB, 0, none⟩ = false ∧ Below E w (w'.setCell ⟨WB, 0, none⟩ (.slice p' n' q')) ∧ WrM E WB (l ++ bytN s) (.slice p' n' q') (w'.setCell ⟨WB, 0, none⟩ (.slice p' n' q')) ∧ WrO WB v w (.slice p' n' q') (w'.setCell ⟨WB, 0, none⟩ (.slice p' n' q')) ∧ w.grownBy w' v.ownBlock := by
  obtain ⟨p, q, rfl⟩ := own_len h.o
  obtain ⟨v', w', h1, h3, h4, h5⟩ := own_appS h.o h.le s (by omega) 40
  obtain ⟨p', q', rfl⟩ := own_len h3
  have hb' := h.b.of_block (h4.block _ h.b.lt (fun e => own_rowF h.o h.b (by decide) e.symm))
  have h2 : Below E w w' := (Below.refl E w).grown h4 h.le (fun q e => (h.o.lt q e).1)
  refine ⟨p, q, p', q', _, w', rfl, h1, hb'.cell (i := 0) (by decide), hb'.frozen 0, h2.setCell h.ge _, ⟨(hb'.set 0 _).congr fun j hj => ?_, ?_, h.ge, by simpa using Nat.le_trans h.le h2.size⟩, ⟨by simpa using h2.size, fun k k1 k2 k3 => ⟨(Below.heap_setCell _ _ _ _ k2).trans (h4.block k k1 (Ne.symm k3)), fun e => ?_⟩⟩, h4⟩
  · have : j = 0 := by omega
    subst this
    rfl
  · rw [List.length_append, bytN_len, show u8s (l ++ bytN s) = u8s l ++ u8s (bytN s) by unfold u8s; rw [List.map_append], ← u8s_str]
    exact own_keep h3 fun k hk => Below.heap_setCell _ _ _ _ (fun e => own_rowF h3 hb' (by decide) (hk.trans (congrArg some e)))
  · rcases h5 with q9 | q9 | q9
    · rw [q9] at e; exact absurd e (by simp)
    · exact k3 (q9.symm.trans e)
    · rw [q9] at e
      have := Option.some.inj e
      omega
theorem ePar_len {p : Par} (h : okPar p) : (ePar p).length ≤ 90 := by
  obtain ⟨h1, h2, h3, h4, h5⟩ := h
  have a1 := numB_nine (n := p.len.toNat) (by omega)
  have a2 := numB_nine (n := p.name.size) (by omega)
  unfold ePar eNam eFld
  rw [List.length_append, List.length_append, List.length_append, bytN_len, if_pos rfl, List.length_singleton]
  omega

set_option maxRecDepth 100000 in
set_option maxHeartbeats 4000000 in
theorem wpar_any (E WB : Nat) (l : List Nat) (v : Value) (w : World) (h : WrM E WB l v w) (x : Par) (hs : okPar x) (hl : l.length + 100 ≤ 100000000) :
    Calls Try.prog 21 #[.pointer (some ⟨WB, 0, none⟩), .agg #[.string x.name, .int .i64 x.kind, .int .i64 x.len]] w fun e w' => e = .returned (.tuple #[]) ∧ Below E w w' ∧ ∃ v', WrM E WB (l ++ ePar x) v' w' ∧ WrO WB v w v' w' := by
  obtain ⟨nm, kd, ln⟩ := x
  obtain ⟨s1, s2, s3, s4, s5⟩ := hs
  simp only at s1 s2 s3 s4 s5 ⊢
  obtain ⟨K, hK⟩ : ∃ B : Nat, kd = (B : Int) := ⟨kd.toNat, by omega⟩
  obtain ⟨I, hI⟩ : ∃ I : Nat, ln = (I : Int) := ⟨ln.toNat, by omega⟩
  subst hK hI
  have hi9 := numB_nine (n := I) (by omega)
  have hn9 := numB_nine (n := nm.size) (by omega)
  have hbn := bytN_len nm
  have HET : Hid (ePar ⟨nm, (K : Int), (I : Int)⟩ = [K] ++ ((numB nm.size ++ bytN nm) ++ numB I)) := by
    show ePar ⟨nm, (K : Int), (I : Int)⟩ = _
    unfold ePar eNam eFld
    simp only [Int.toNat_natCast, if_true]
  obtain ⟨V, hV⟩ : ∃ V, w.alloc (.cells #[.string nm, .int .i64 (K : Int), .int .i64 (I : Int)] 58) = V := ⟨_, rfl⟩
  have hb0 : Below w.heap.size w V := by rw [← hV]; exact bel_alloc _ _
  have hs0 : V.heap.size = w.heap.size + 1 := by rw [← hV]; simp
  obtain ⟨X, hX⟩ : ∃ X, w.heap.size = X := ⟨_, rfl⟩
  have x0 : V.cell? ⟨X, 0, none⟩ = some (.string nm) := by rw [← hV, ← hX]; simp [go_sem]
  have x1 : V.cell? ⟨X, 1, none⟩ = some (.int .i64 (K : Int)) := by rw [← hV, ← hX]; simp [go_sem]
  have x2 : V.cell? ⟨X, 2, none⟩ = some (.int .i64 (I : Int)) := by rw [← hV, ← hX]; simp [go_sem]
  have HXC : Hid (∀ u : World, u.heap[X]? = V.heap[X]? → u.cell? ⟨X, 0, none⟩ = some (.string nm) ∧ u.cell? ⟨X, 1, none⟩ = some (.int .i64 (K : Int)) ∧ u.cell? ⟨X, 2, none⟩ = some (.int .i64 (I : Int))) := fun u hu => ⟨(World.cell?_of_block hu (a := ⟨X, 0, none⟩)).trans x0, (World.cell?_of_block hu (a := ⟨X, 1, none⟩)).trans x1, (World.cell?_of_block hu (a := ⟨X, 2, none⟩)).trans x2⟩
  have h0 := h.below hb0
  have HXN : Hid (X < V.heap.size ∧ X ≠ WB ∧ v.ownBlock ≠ some X) := ⟨by omega, by have := h.b.lt; omega, fun e => by have := (h.o.lt _ e).2; omega⟩
  have KS := hidC (wsmall_any E WB l v V h0 (by omega) K (by omega))
  have KN := hidC (fun (m : List Nat) (v : Value) (u : World) (a : WrM E WB m v u) (n : Nat) (hn : n < 9223372036854775808) (b : m.length + (numB n).length ≤ 100000000) => wnumber_any E WB m v u a n hn b)
  have HBE : Hid (Below E w V) := hb0.mono h.le
  have HOV : Hid (∀ v' w', WrO WB v V v' w' → WrO WB v w v' w') := fun v' w' q => WrO.below h hb0 q
  have hl1 : (l ++ [K]).length + (numB nm.size).length ≤ 100000000 := by rw [List.length_append, List.length_singleton]; omega
  have hl2 : ((l ++ [K]) ++ numB nm.size).length + nm.size ≤ 100000000 := by rw [List.length_append, List.length_append, List.length_singleton]; omega
  have hl3 : (((l ++ [K]) ++ numB nm.size) ++ bytN nm).length + (numB I).length ≤ 100000000 := by rw [List.length_append, List.length_append, List.length_append, List.length_singleton]; omega
  have hm1 : nm.size < 9223372036854775808 := by omega
  have hm2 : I < 9223372036854775808 := by omega
  have HT : Hid (l ++ ePar ⟨nm, (K : Int), (I : Int)⟩ = ((((l ++ [K]) ++ numB nm.size) ++ bytN nm) ++ numB I)) := by
    show l ++ ePar _ = _
    rw [HET.out]
    simp
  clear h h0 hb0 hs0 s1 s2 s3 s4 s5 hi9 hn9 hbn HET hl
  go_enter Try.func21, Try.ntmps21
  go_upto_region 1 with fail
  try rw [hV]
  try rw [hX]
  clear hV hX
  go_upto_region 2 with (go_at_call 47; (with_reducible refine KS.out.mono ?_); rintro e9 w4 ⟨rfl, hb4, v4, hm4, ho4⟩; have HB4 := hidC hb4; have HM4 := hidC hm4; have HO4 := hidC ho4; clear hb4 hm4 ho4)
  obtain ⟨hX4, hv4⟩ := HO4.out.2 X HXN.out.1 HXN.out.2.1 HXN.out.2.2
  clear x0 x1 x2
  obtain ⟨x0, x1, x2⟩ := HXC.out w4 hX4
  have KN4 := hidC (KN.out _ _ _ HM4.out nm.size hm1 hl1)
  go_upto_region 3 with (go_at_call 46; (with_reducible refine KN4.out.mono ?_); rintro e9 w5 ⟨rfl, hb5, v5, hm5, ho5⟩; have HB5 := hidC hb5; have HM5 := hidC hm5; have HO5 := hidC ho5; clear hb5 hm5 ho5)
  obtain ⟨hX5, hv5⟩ := HO5.out.2 X (Nat.lt_of_lt_of_le HXN.out.1 HO4.out.1) HXN.out.2.1 hv4
  clear x0 x1 x2
  obtain ⟨x0, x1, x2⟩ := HXC.out w5 (hX5.trans hX4)
  have hbd : Below w5.heap.size w5 w5.drew := (Below.refl _ _).drew
  have HM5D := hidC (HM5.out.below hbd)
  obtain ⟨p, q, p', q', n', w6, hv6, hrun, c6, f6, hb6, hm6, ho6, hg6⟩ := HM5D.out.appS nm hl2
  subst hv6
  have b0 : w5.cell? ⟨WB, 0, none⟩ = some (.slice p ((l ++ [K]) ++ numB nm.size).length q) := HM5.out.b.cell (i := 0) (by decide)
  obtain ⟨L5, hL5⟩ : ∃ n, ((l ++ [K]) ++ numB nm.size).length = n := ⟨_, rfl⟩
  rw [hL5] at b0 c6 hrun
  have HRUN := hidC hrun
  have HXL : Hid (X < w5.heap.size) := Nat.lt_of_lt_of_le (Nat.lt_of_lt_of_le HXN.out.1 HO4.out.1) HO5.out.1
  have h6X : w6.heap[X]? = V.heap[X]? := (hg6.block X (by simpa using HXL.out) (Ne.symm hv5)).trans ((hbd.block X HXL.out).trans (hX5.trans hX4))
  have HB6 : Hid (Below E w5 (w6.setCell ⟨WB, 0, none⟩ (.slice p' n' q'))) := (hbd.mono HM5.out.le).trans hb6
  have HM6 := hidC hm6
  have HO6 := hidC (WrO.below HM5.out hbd ho6)
  obtain ⟨y0, y1, y2⟩ := HXC.out w6 h6X
  have nXW : ¬ X = WB := HXN.out.2.1
  have nWX : ¬ WB = X := fun r => nXW r.symm
  have hX6 : (w6.setCell ⟨WB, 0, none⟩ (.slice p' n' q')).heap[X]? = V.heap[X]? := (Below.heap_setCell _ _ _ _ nXW).trans h6X
  have KN6 := hidC (KN.out _ _ _ HM6.out I hm2 hl3)
  obtain ⟨W6, hW6⟩ : ∃ W, w6.setCell ⟨WB, 0, none⟩ (.slice p' n' q') = W := ⟨_, rfl⟩
  have HW6 := hidC hW6
  rw [hW6] at HB6 HM6 HO6 hX6 KN6
  have HX6 := hidC hX6
  clear hrun hbd hm6 ho6 hb6 hg6 h6X hX4 hX5 hv4 hv5 hX6 hW6 hL5 HM5D
  go_cut [] (fun wx => wx = W6)
  case first =>
    refine wp_region_held_drew (S := (fun v => v.cell? ⟨X, 0, none⟩ = some (.string nm))) (by kernel_rfl) ?_ (fun hHeld => ?_)
    · ((try dsimp only); go_keep)
    refine wpAnyH_take (i := 0) (v := ?_) (by simp only [List.getElem?_toArray, List.getElem?_cons_succ, List.getElem?_cons_zero]; rfl) (by kernel_rfl) (by kernel_rfl) (by kernel_rfl) (by exact fun _ _ _ h => h) (Or.inl ⟨by rfl, ?_⟩) (by assumption) ?_
    rotate_left 1
    · (intro wS hSw; (try dsimp only at hSw); go_simp; try (with_reducible rfl))
    try simp only [Act.put, List.setIfInBounds_toArray, List.set_cons_zero, List.set_cons_succ]
    refine wpAnyH_take (i := 1) (v := ?_) (by simp only [List.getElem?_toArray, List.getElem?_cons_succ, List.getElem?_cons_zero]; rfl) (by kernel_rfl) (by kernel_rfl) (by kernel_rfl) (by exact fun _ _ _ h => h) (Or.inl ⟨by rfl, ?_⟩) (by assumption) ?_
    rotate_left 1
    · (intro wS hSw; (try dsimp only at hSw); go_simp; try (with_reducible rfl))
    try simp only [Act.put, List.setIfInBounds_toArray, List.set_cons_zero, List.set_cons_succ]
    refine wpAnyH_take (i := 2) (v := ?_) (by simp only [List.getElem?_toArray, List.getElem?_cons_succ, List.getElem?_cons_zero]; rfl) (by kernel_rfl) (by kernel_rfl) (by kernel_rfl) (by exact fun _ _ _ h => h) (Or.inl ⟨by rfl, ?_⟩) (by assumption) ?_
    rotate_left 1
    · (intro wS hSw; (try dsimp only at hSw); go_simp; try (with_reducible rfl))
    try simp only [Act.put, List.setIfInBounds_toArray, List.set_cons_zero, List.set_cons_succ]
    refine wpAnyH_take (i := 3) (v := ?_) (by simp only [List.getElem?_toArray, List.getElem?_cons_succ, List.getElem?_cons_zero]; rfl) (by kernel_rfl) (by kernel_rfl) (by kernel_rfl) (by exact fun _ _ _ h => h) (Or.inl ⟨by rfl, ?_⟩) (by assumption) ?_
    rotate_left 1
    · (intro wS hSw; (try dsimp only at hSw); go_simp; try (with_reducible rfl))
    try simp only [Act.put, List.setIfInBounds_toArray, List.set_cons_zero, List.set_cons_succ]
    refine wpAnyH_take (i := 5) (v := ?_) (by simp only [List.getElem?_toArray, List.getElem?_cons_succ, List.getElem?_cons_zero]; rfl) (by kernel_rfl) (by kernel_rfl) (by kernel_rfl) (by exact fun _ _ _ h => h) (Or.inl ⟨by rfl, ?_⟩) (by assumption) ?_
    rotate_left 1
    · (intro wS hSw; (try dsimp only at hSw); go_simp; try (with_reducible rfl))
    try simp only [Act.put, List.setIfInBounds_toArray, List.set_cons_zero, List.set_cons_succ]
    clear hHeld
    refine wpAnyH_ready (rs := [4, 6]) (by kernel_rfl) (by simp) ?_
    refine AllReadyH.cons (i := 4) (by simp only [List.getElem?_toArray, List.getElem?_cons_succ, List.getElem?_cons_zero]; rfl) (fun K hK => ?_) ?_
    · go_simp
      refine hK.out _ _ ?_ (fun hHeld => ?_)
      · ((try dsimp only); go_keep)
      clear hK K
      try simp only [Act.put, List.setIfInBounds_toArray, List.set_cons_zero, List.set_cons_succ]
      clear hHeld
      refine wpAnyH_ready (rs := [6]) (by kernel_rfl) (by simp) ?_
      refine AllReadyH.cons (i := 6) (by simp only [List.getElem?_toArray, List.getElem?_cons_succ, List.getElem?_cons_zero]; rfl) (fun K hK => ?_) AllReadyH.nil
      go_simp
      refine hK.out _ _ ?_ (fun hHeld => ?_)
      · ((try dsimp only); go_keep)
      clear hK K
      try simp only [Act.put, List.setIfInBounds_toArray, List.set_cons_zero, List.set_cons_succ]
      clear hHeld
      refine wpAnyH_ready (rs := [7]) (by kernel_rfl) (by simp) ?_
      refine AllReadyH.cons (i := 7) (by simp only [List.getElem?_toArray, List.getElem?_cons_succ, List.getElem?_cons_zero]; rfl) (fun K hK => ?_) AllReadyH.nil
      refine ready_appS _ _ _ _ (by rfl) _ _ _ (by rfl) (by rfl) HRUN.out ?_ _ (by rfl)
      refine hK.out _ _ ?_ (fun hHeld => ?_)
      · ((try dsimp only); go_keep)
      clear hK K
      try simp only [Act.put, List.setIfInBounds_toArray, List.set_cons_zero, List.set_cons_succ]
      refine wpAnyH_take (i := 8) (v := ?_) (by simp only [List.getElem?_toArray, List.getElem?_cons_succ, List.getElem?_cons_zero]; rfl) (by kernel_rfl) (by kernel_rfl) (by kernel_rfl) (by exact fun _ _ _ h => h) (Or.inl ⟨by rfl, ?_⟩) (by assumption) ?_
      rotate_left 1
      · (intro wS hSw; (try dsimp only at hSw); go_simp; try (with_reducible rfl))
      try simp only [Act.put, List.setIfInBounds_toArray, List.set_cons_zero, List.set_cons_succ]
      refine wpAnyH_take (i := 9) (v := ?_) (by simp only [List.getElem?_toArray, List.getElem?_cons_succ, List.getElem?_cons_zero]; rfl) (by kernel_rfl) (by kernel_rfl) (by kernel_rfl) (by exact fun _ _ _ h => h) (Or.inl ⟨by rfl, ?_⟩) (by assumption) ?_
      rotate_left 1
      · (intro wS hSw; (try dsimp only at hSw); go_simp; try (with_reducible rfl))
      try simp only [Act.put, List.setIfInBounds_toArray, List.set_cons_zero, List.set_cons_succ]
      clear hHeld
      refine wpAnyH_ready (rs := [10]) (by kernel_rfl) (by simp) ?_
      refine AllReadyH.cons (i := 10) (by simp only [List.getElem?_toArray, List.getElem?_cons_succ, List.getElem?_cons_zero]; rfl) (fun K hK => ?_) AllReadyH.nil
      go_simp
      refine hK.out _ _ ?_ (fun hHeld => ?_)
      · ((try dsimp only); go_keep)
      clear hK K
      try simp only [Act.put, List.setIfInBounds_toArray, List.set_cons_zero, List.set_cons_succ]
      refine wpAnyH_done (by kernel_rfl) ?_ _
      go_wp2
      go_meet
      exact HW6.out
    refine AllReadyH.cons (i := 6) (by simp only [List.getElem?_toArray, List.getElem?_cons_succ, List.getElem?_cons_zero]; rfl) (fun K hK => ?_) AllReadyH.nil
    go_simp
    refine hK.out _ _ ?_ (fun hHeld => ?_)
    · ((try dsimp only); go_keep)
    clear hK K
    try simp only [Act.put, List.setIfInBounds_toArray, List.set_cons_zero, List.set_cons_succ]
    clear hHeld
    refine wpAnyH_ready (rs := [4]) (by kernel_rfl) (by simp) ?_
    refine AllReadyH.cons (i := 4) (by simp only [List.getElem?_toArray, List.getElem?_cons_succ, List.getElem?_cons_zero]; rfl) (fun K hK => ?_) AllReadyH.nil
    go_simp
    refine hK.out _ _ ?_ (fun hHeld => ?_)
    · ((try dsimp only); go_keep)
    clear hK K
    try simp only [Act.put, List.setIfInBounds_toArray, List.set_cons_zero, List.set_cons_succ]
    clear hHeld
    refine wpAnyH_ready (rs := [7]) (by kernel_rfl) (by simp) ?_
    refine AllReadyH.cons (i := 7) (by simp only [List.getElem?_toArray, List.getElem?_cons_succ, List.getElem?_cons_zero]; rfl) (fun K hK => ?_) AllReadyH.nil
    refine ready_appS _ _ _ _ (by rfl) _ _ _ (by rfl) (by rfl) HRUN.out ?_ _ (by rfl)
    refine hK.out _ _ ?_ (fun hHeld => ?_)
    · ((try dsimp only); go_keep)
    clear hK K
    try simp only [Act.put, List.setIfInBounds_toArray, List.set_cons_zero, List.set_cons_succ]
    refine wpAnyH_take (i := 8) (v := ?_) (by simp only [List.getElem?_toArray, List.getElem?_cons_succ, List.getElem?_cons_zero]; rfl) (by kernel_rfl) (by kernel_rfl) (by kernel_rfl) (by exact fun _ _ _ h => h) (Or.inl ⟨by rfl, ?_⟩) (by assumption) ?_
    rotate_left 1
    · (intro wS hSw; (try dsimp only at hSw); go_simp; try (with_reducible rfl))
    try simp only [Act.put, List.setIfInBounds_toArray, List.set_cons_zero, List.set_cons_succ]
    refine wpAnyH_take (i := 9) (v := ?_) (by simp only [List.getElem?_toArray, List.getElem?_cons_succ, List.getElem?_cons_zero]; rfl) (by kernel_rfl) (by kernel_rfl) (by kernel_rfl) (by exact fun _ _ _ h => h) (Or.inl ⟨by rfl, ?_⟩) (by assumption) ?_
    rotate_left 1
    · (intro wS hSw; (try dsimp only at hSw); go_simp; try (with_reducible rfl))
    try simp only [Act.put, List.setIfInBounds_toArray, List.set_cons_zero, List.set_cons_succ]
    clear hHeld
    refine wpAnyH_ready (rs := [10]) (by kernel_rfl) (by simp) ?_
    refine AllReadyH.cons (i := 10) (by simp only [List.getElem?_toArray, List.getElem?_cons_succ, List.getElem?_cons_zero]; rfl) (fun K hK => ?_) AllReadyH.nil
    go_simp
    refine hK.out _ _ ?_ (fun hHeld => ?_)
    · ((try dsimp only); go_keep)
    clear hK K
    try simp only [Act.put, List.setIfInBounds_toArray, List.set_cons_zero, List.set_cons_succ]
    refine wpAnyH_done (by kernel_rfl) ?_ _
    go_wp2
    go_meet
    exact HW6.out
  case rest =>
    subst hcut
    clear x0 x1 x2 y0 y1 y2 b0 c6 f6
    obtain ⟨x0, x1, x2⟩ := HXC.out _ HX6.out
    go_wp2_with (go_at_call 46; (with_reducible refine KN6.out.mono ?_); rintro e9 w7 ⟨rfl, hb7, v7, hm7, ho7⟩; have HB7 := hidC hb7; have HM7 := hidC hm7; have HO7 := hidC ho7; clear hb7 hm7 ho7)
    first | go_end0 | refine bodyPost_ret (results_none rfl _ _ _) rfl ?_
    refine ⟨rfl, (((HBE.out.trans HB4.out).trans HB5.out).trans HB6.out).trans HB7.out, v7, ?_, HOV.out _ _ (((HO4.out.trans HO5.out).trans HO6.out).trans HO7.out)⟩
    rw [HT.out]
    exact HM7.out

end Go.Proofs.Ytnlgkkbmbijndaa
/- Package code: the writer: lists of parameters. -/
namespace Go.Proofs.Ytnlgkkbmbijndaa
open Go.RowKit
set_option linter.unusedVariables false
set_option linter.unusedSimpArgs false

set_option maxRecDepth 100000 in
set_option maxHeartbeats 4000000 in
theorem wlistP_any (E WB : Nat) (l : List Nat) (v : Value) (w : World) (h : WrM E WB l v w) (rs : List Par) (hrs : ∀ x ∈ rs, okPar x) (hn : rs.length ≤ 64) (p : Option Addr) (q : Nat) (hr : ∀ u, Below E w u → RowG 3 parCells u (.slice p rs.length q) rs) (hl : l.length + 1000000 ≤ 100000000) :
    Calls Try.prog 20 #[.pointer (some ⟨WB, 0, none⟩), .slice p rs.length q, .func (.func 21) #[.pointer (some ⟨WB, 0, none⟩)] #[]] w fun e w' => e = .returned (.tuple #[]) ∧ Below E w w' ∧ ∃ v', WrM E WB (l ++ eLst ePar rs) v' w' ∧ WrO WB v w v' w' := by
  obtain ⟨N, hN⟩ : ∃ N, rs.length = N := ⟨_, rfl⟩
  have hnl := numB_nine (n := N) (by omega)
  have HLN : Hid (∀ k, ((l ++ numB N) ++ (rs.take k).flatMap ePar).length + 100 ≤ 100000000) := fun k => by
    have h1 := flat_len_le (e := ePar) (m := 90) (rs.take k) (fun x hx => ePar_len (hrs x (List.mem_of_mem_take hx)))
    rw [List.length_take] at h1
    rw [List.length_append, List.length_append]
    have h2 : min k rs.length ≤ 64 := by omega
    omega
  have HFM := hidC (fun (k : Nat) (hk : k < rs.length) => flat_more ePar hk)
  have HEL : Hid (eLst ePar rs = numB N ++ rs.flatMap ePar) := by show eLst ePar rs = _; unfold eLst; rw [hN]
  have KW := hidC (fun (m : List Nat) (v : Value) (u : World) (a : WrM E WB m v u) (x : Par) (hx : okPar x) (b : m.length + 100 ≤ 100000000) => wpar_any E WB m v u a x hx (by omega))
  have KN := hidC (wnumber_any E WB l v w h N (by omega) (by omega))
  have HRW : Hid (∀ u, Below E w u → RowG 3 parCells u (.slice p N q) rs) := fun u hu => by rw [← hN]; exact hr u hu
  have HOK := hidC hrs
  have HN := hidC hN
  rw [hN] at hn ⊢
  clear hr hrs h hN
  go_enter Try.func20, Try.ntmps20
  go_upto_block 0 with (go_at_call 46; (with_reducible refine KN.out.mono ?_); rintro e9 w4 ⟨rfl, hb4, v4, hm4, ho4⟩; have HJ0 : Hid (Below E w w4 ∧ ∃ v', WrM E WB ((l ++ numB N) ++ (rs.take 0).flatMap ePar) v' w4 ∧ WrO WB v w v' w4) := ⟨hb4, v4, (by rw [List.take_zero, List.flatMap_nil, List.append_nil]; exact hm4), ho4⟩; clear hb4 hm4 ho4)
  go_wp2_with fail
  go_loopw [14] (fun iv wx => ∃ k : Nat, k ≤ N ∧ iv = .int .i64 (k : Int) ∧ Hid (Below E w wx ∧ ∃ v', WrM E WB ((l ++ numB N) ++ (rs.take k).flatMap ePar) v' wx ∧ WrO WB v w v' wx)) (fun iv _ => N - (intOf iv).toNat)
  case atStart => exact ⟨0, Nat.zero_le _, rfl, HJ0.out⟩
  case round =>
    clear HJ0
    obtain ⟨k, hk, rfl, HJ⟩ := hrel
    by_cases hlt : k < N
    · have hkl : k < rs.length := by have := HN.out; omega
      obtain ⟨hb, v2, hm, ho⟩ := HJ.out
      obtain ⟨rb, ro, rfl, hcl⟩ := (HRW.out wr hb).at hkl
      have hx := HOK.out rs[k] (List.getElem_mem hkl)
      have hfm := HFM.out k hkl
      obtain ⟨x, hxe⟩ : ∃ x, rs[k] = x := ⟨_, rfl⟩
      rw [hxe] at hcl hx hfm
      obtain ⟨V, hV⟩ : ∃ V, wr.alloc (.cells #[.string (x.name), .int .i64 (x.kind), .int .i64 (x.len)] 58) = V := ⟨_, rfl⟩
      have hbV : Below wr.heap.size wr V := by rw [← hV]; exact bel_alloc _ _
      have y0 := hcl.at 0 (v := .string (x.name)) rfl
      rw [Nat.add_zero] at y0
      have y1 := hcl.at 1 (v := .int .i64 (x.kind)) rfl
      have y2 := hcl.at 2 (v := .int .i64 (x.len)) rfl
      have z0 : V.cell? ⟨wr.heap.size, 0, none⟩ = some (.string (x.name)) := by rw [← hV]; simp [go_sem]
      have z1 : V.cell? ⟨wr.heap.size, 1, none⟩ = some (.int .i64 (x.kind)) := by rw [← hV]; simp [go_sem]
      have z2 : V.cell? ⟨wr.heap.size, 2, none⟩ = some (.int .i64 (x.len)) := by rw [← hV]; simp [go_sem]
      have llb : rb < wr.heap.size := mcell_lt y0
      have n9 : ¬ rb = wr.heap.size := by omega
      have KX := hidC (KW.out _ v2 V (hm.below hbV) x hx (HLN.out k))
      have HFM' := hidC hfm
      have HBV : Hid (Below E w V) := hb.trans (hbV.mono hm.le)
      have HOV : Hid (∀ v' w', WrO WB v2 V v' w' → WrO WB v w v' w') := fun v' w' z => ho.trans (WrO.below hm hbV z)
      have i1 : (0 : Int) ≤ (k : Int) := by omega
      have i2 : (k : Int) < (N : Int) := by omega
      have wi : IntKind.i64.wrap ((k : Int) + 1) = ((k + 1 : Nat) : Int) := by rw [IntKind.wrap_i64]; omega
      clear hb hm ho hcl hx hfm hxe hbV llb HJ
      go_wp2_with (go_at_call 21; (with_reducible refine KX.out.mono ?_); rintro e9 w5 ⟨rfl, hb5, v5, hm5, ho5⟩; have HQ : Hid (Below E w w5 ∧ ∃ v', WrM E WB ((l ++ numB N) ++ (rs.take (k + 1)).flatMap ePar) v' w5 ∧ WrO WB v w v' w5) := ⟨HBV.out.trans hb5, v5, (by rw [HFM'.out, ← List.append_assoc]; exact hm5), HOV.out _ _ ho5⟩; clear hb5 hm5 ho5)
      go_roundw
      case rel => exact ⟨k + 1, by omega, by go_num, HQ.out⟩
      case measure => simp [intOf]; omega
    · have e1 : ¬ (k : Int) < (N : Int) := by omega
      have hall : rs.take k = rs := List.take_of_length_le (by have := HN.out; omega)
      have HQ : Hid (Below E w wr ∧ ∃ v', WrM E WB (l ++ eLst ePar rs) v' wr ∧ WrO WB v w v' wr) := by
        have h9 := HJ.out
        rw [hall, List.append_assoc, ← HEL.out] at h9
        exact h9
      clear hlt hall HJ
      go_wp2
      first | go_end0 | refine bodyPost_ret (results_none rfl _ _ _) rfl ?_ | (simp only [Exit.inBlock, Exit.then]; refine bodyPost_ret (results_none rfl _ _ _) rfl ?_)
      exact ⟨rfl, HQ.out.1, HQ.out.2⟩

end Go.Proofs.Ytnlgkkbmbijndaa
/- Package code: the fields of an instruction that stand in bytecode. -/
namespace Go.Proofs.Ytnlgkkbmbijndaa
open Go.RowKit
set_option linter.unusedVariables false
set_option linter.unusedSimpArgs false

theorem nmN_seven : ∀ op : Nat, op < 38 → 1 ≤ op → nmN op = decide (op = 2 ∨ op = 29 ∨ op = 30 ∨ op = 31 ∨ op = 32 ∨ op = 33 ∨ op = 36) := by decide +kernel
set_option maxRecDepth 100000 in
set_option maxHeartbeats 4000000 in
theorem hasN_any (op : Nat) (h1 : 1 ≤ op) (h2 : op ≤ 37) (w : World) :
    Calls Try.prog 71 #[.int .i64 (op : Int)] w fun e w' => e = .returned (.bool (nmN op)) ∧ w' = w := by
  have HN := hidC (nmN_seven op (by omega) h1)
  by_cases q : op = 2 ∨ op = 29 ∨ op = 30 ∨ op = 31 ∨ op = 32 ∨ op = 33 ∨ op = 36
  · have HT : Hid (nmN op = true) := by show nmN op = _; rw [HN.out]; simp [q]
    rw [HT.out]
    clear HN HT
    rcases q with rfl | rfl | rfl | rfl | rfl | rfl | rfl
    all_goals
      go_enter Try.func71, Try.ntmps71
      go_wp2
      refine bodyPost_ret (by simp [results, Try.results71, go_sem, *]; try rfl) rfl ?_
      exact ⟨rfl, rfl⟩
  · have HT : Hid (nmN op = false) := by show nmN op = _; rw [HN.out]; simp [q]
    rw [HT.out]
    have a1 : ((op : Int) == 2) = false := by simp; omega
    have a2 : ((op : Int) == 29) = false := by simp; omega
    have a3 : ((op : Int) == 30) = false := by simp; omega
    have a4 : ((op : Int) == 31) = false := by simp; omega
    have a5 : ((op : Int) == 32) = false := by simp; omega
    have a6 : ((op : Int) == 33) = false := by simp; omega
    have a7 : ((op : Int) == 36) = false := by simp; omega
    clear HN HT q
    go_enter Try.func71, Try.ntmps71
    go_wp2
    refine bodyPost_ret (by simp [results, Try.results71, go_sem, *]; try rfl) rfl ?_
    exact ⟨rfl, rfl⟩

/-- Pointers to cells of one block. -/
def ptrN (LB : Nat) (os : List Nat) : List Value := os.map fun o => .pointer (some ⟨LB, o, none⟩)
theorem ptrN_app (LB : Nat) (a b : List Nat) : ptrN LB (a ++ b) = ptrN LB a ++ ptrN LB b := by simp [ptrN]
theorem info_PtrN : (Try.prog.info? 109).map (fun i => (i.zero, i.size, i.bytes)) = some (some (.pointer none), 1, 8) := by kernel_rfl
/-- More pointers, wherever they lie. -/
theorem app_ptrN {E LB : Nat} {V : World} {p : Option Addr} {q : Nat} {os : List Nat} (h : V.ownsRow E 109 1 (.slice p os.length q) os.length (ptrN LB os)) (hE : E ≤ V.heap.size) {RB d : Nat} (ns : List Nat) (hn : ∀ j (hj : j < ns.length), V.cell? ⟨RB, j, none⟩ = some (.pointer (some ⟨LB, ns[j], none⟩))) (hl : os.length + ns.length ≤ 1000000) (ty : TypeId) :
    ∃ p' q' w', (Builtin.append_ #[107, 107] ty #[.slice p os.length q, .slice (some ⟨RB, 0, none⟩) ns.length d]).run Try.prog V = .ok (.slice p' (os.length + ns.length) q') w' ∧ w'.ownsRow E 109 1 (.slice p' (os ++ ns).length q') (os ++ ns).length (ptrN LB (os ++ ns)) ∧ Below E V w' := by
  obtain ⟨i0, hi0, hz0, hz1, hz2⟩ := info_parts info_PtrN
  obtain ⟨v', w', hr, h2, h3, -, -⟩ := run_append_own_at (P := Try.prog) V E 107 ty 109 i0 _ 1 8 Try.underlying107 hi0 hz0 hz1 hz2 rfl (by decide) (.slice p os.length q) os.length (ptrN LB os) h ⟨RB, 0, none⟩ ns.length d (ptrN LB ns) (by simp [ptrN]) (fun j u hu => by
    have hj : j < ns.length := by have := (List.getElem?_eq_some_iff.1 hu).1; simpa [ptrN] using this
    have hadd : (⟨RB, 0, none⟩ : Addr).add j = ⟨RB, j, none⟩ := by unfold Addr.add; split <;> simp_all
    rw [hadd, hn j hj]
    simpa [ptrN, hj] using hu) (by simp [ptrN, Value.oneCell']) (by unfold maxLen; omega) (by omega) hE
  obtain ⟨p', q', rfl⟩ := own_len h2
  refine ⟨p', q', w', hr, ?_, (Below.refl E V).grown h3 hE (fun b e => (h.lt b e).1)⟩
  rw [List.length_append, ptrN_app]
  exact h2
theorem app_ptrN1 {E LB : Nat} {V : World} {p : Option Addr} {q : Nat} {os : List Nat} (h : V.ownsRow E 109 1 (.slice p os.length q) os.length (ptrN LB os)) (hE : E ≤ V.heap.size) (o : Nat) (hl : os.length + 1 ≤ 1000000) (ty : TypeId) :
    ∃ p' q' w', (Builtin.append_ #[107, 107] ty #[.slice p os.length q, .slice (some ⟨V.heap.size, 0, none⟩) 1 1]).run Try.prog (V.alloc (.cells #[.pointer (some ⟨LB, o, none⟩)] 109)) = .ok (.slice p' (os.length + 1) q') w' ∧ w'.ownsRow E 109 1 (.slice p' (os ++ [o]).length q') (os ++ [o]).length (ptrN LB (os ++ [o])) ∧ Below E V w' := by
  have hb0 : Below V.heap.size V (V.alloc (.cells #[.pointer (some ⟨LB, o, none⟩)] 109)) := bel_alloc _ _
  obtain ⟨p', q', w', h1, h2, h3⟩ := app_ptrN (LB := LB) (own_below h hb0) (Nat.le_trans hE hb0.size) (RB := V.heap.size) (d := 1) [o] (fun j hj => by
    have : j = 0 := by simp only [List.length_cons, List.length_nil] at hj; omega
    subst this
    simp [go_sem]) hl ty
  exact ⟨p', q', w', h1, h2, (hb0.mono hE).trans h3⟩
theorem reads_leN (i : Ins) : (readsP i (rowP i.op)).length ≤ 3 := by
  rw [reads_eq]
  have h1 := rd1_le (rowP i.op).a i.a
  have h2 := rd1_le (rowP i.op).b i.b
  have h3 := rd1_le (rowP i.op).c i.c
  simp only [List.length_append]
  omega
/-- The places of the fields that stand in bytecode. -/
def fldO (i : Ins) : List Nat := ((if (rowP i.op).d != 0 then [1] else []) ++ [2, 3, 4].take (readsP i (rowP i.op)).length) ++ (if nmN i.op.toNat = true then [5] else [])

set_option maxRecDepth 100000 in
set_option maxHeartbeats 16000000 in
theorem fields_any (X : Nat) (i : Ins) (h1 : 1 ≤ i.op) (h2 : i.op ≤ 37) (w : World) (hc : CellsAt w X 0 (inC i)) :
    Calls Try.prog 48 #[.pointer (some ⟨X, 0, none⟩)] w fun e w' => ∃ q d, e = .returned (.slice q (fldO i).length d) ∧ w'.ownsRow w.heap.size 109 1 (.slice q (fldO i).length d) (fldO i).length (ptrN X (fldO i)) ∧ Below w.heap.size w w' := by
  obtain ⟨E, hE⟩ : ∃ E, w.heap.size = E := ⟨_, rfl⟩
  have HE := hidC hE
  simp only [hE]
  have HRL := hidC (reads_leN i)
  obtain ⟨F, hF⟩ : ∃ F, fldO i = F := ⟨_, rfl⟩
  rw [hF]
  have HF : Hid (((if (rowP i.op).d != 0 then [1] else []) ++ [2, 3, 4].take (readsP i (rowP i.op)).length) ++ (if nmN i.op.toNat = true then [5] else []) = F) := hF
  clear hF
  obtain ⟨op, d, a, b, e, n, z⟩ := i
  simp only at h1 h2 HRL HF
  obtain ⟨O, hO⟩ : ∃ O : Nat, op = (O : Int) := ⟨op.toNat, by omega⟩
  subst hO
  rw [Int.toNat_natCast] at HF
  have HYY : Hid (∀ v, Below E w v → v.cell? ⟨X, 0, none⟩ = some (.int .i64 (O : Int)) ∧ v.cell? ⟨X, 1, none⟩ = some (.int .i64 d) ∧ v.cell? ⟨X, 2, none⟩ = some (.int .i64 a) ∧ v.cell? ⟨X, 3, none⟩ = some (.int .i64 b) ∧ v.cell? ⟨X, 4, none⟩ = some (.int .i64 e) ∧ v.cell? ⟨X, 5, none⟩ = some (.int .i64 n) ∧ v.cell? ⟨X, 6, none⟩ = some (.int .u32 z)) := fun v hv => by
    rw [← hE] at hv
    have g : ∀ k x, (inC ⟨(O : Int), d, a, b, e, n, z⟩)[k]? = some x → v.cell? ⟨X, k, none⟩ = some x := fun k x hx => by
      have h9 := hc.at k hx
      rw [Nat.zero_add] at h9
      exact kc hv h9
    exact ⟨g 0 _ rfl, g 1 _ rfl, g 2 _ rfl, g 3 _ rfl, g 4 _ rfl, g 5 _ rfl, g 6 _ rfl⟩
  obtain ⟨y0, y1, y2, y3, y4, y5, y6⟩ := HYY.out w (Below.refl _ _)
  have KS := hidC (fun v => sets_any ⟨(O : Int), d, a, b, e, n, z⟩ v)
  have KR := hidC (fun v => reads_any ⟨(O : Int), d, a, b, e, n, z⟩ v)
  have KH := hidC (fun v => hasN_any O (by omega) (by omega) v)
  unfold insV at KS KR
  simp only at KS KR
  obtain ⟨rs, hrs⟩ : ∃ rs, readsP (⟨(O : Int), d, a, b, e, n, z⟩ : Ins) (rowP (O : Int)) = rs := ⟨_, rfl⟩
  simp only [hrs] at KR HRL HF
  obtain ⟨sb, hsb⟩ : ∃ sb, ((rowP (O : Int)).d != 0) = sb := ⟨_, rfl⟩
  simp only [hsb] at KS HF
  obtain ⟨nb, hnb⟩ : ∃ nb, nmN O = nb := ⟨_, rfl⟩
  simp only [hnb] at KH HF
  obtain ⟨P1, hP1⟩ : ∃ P, (if sb = true then [1] else [] : List Nat) = P := ⟨_, rfl⟩
  have HP1L : Hid (P1.length ≤ 1) := by rw [← hP1]; show _ ≤ _; split <;> simp
  have HP1 := hidC hP1
  rw [hP1] at HF
  obtain ⟨P2, hP2⟩ : ∃ P, P1 ++ [2, 3, 4].take rs.length = P := ⟨_, rfl⟩
  have HP2 := hidC hP2
  rw [hP2] at HF
  have HP2L : Hid (P2.length ≤ 4) := by
    rw [← hP2, List.length_append, List.length_take]
    have := HP1L.out
    show _ ≤ _
    simp only [List.length_cons, List.length_nil]
    omega
  have HEW : Hid (E ≤ w.heap.size) := by rw [hE]; exact Nat.le_refl _
  clear hc hE hrs hsb hnb hP1 hP2 h1 h2
  go_enter Try.func48, Try.ntmps48
  go_upto_if 8 with (go_at_call 69; (with_reducible refine (KS.out _).mono ?_); rintro e9 w4 ⟨rfl, hb4⟩; have HB4 : Hid (Below E w w4) := (by have h9 := hb4; rw [HE.out] at h9; exact h9); clear hb4)
  go_cut [3] (fun lv wx => ∃ (q : Option Addr) (d' : Nat), lv = .slice q P1.length d' ∧ Hid (Below E w wx ∧ E ≤ wx.heap.size ∧ wx.ownsRow E 109 1 (.slice q P1.length d') P1.length (ptrN X P1)))
  case first =>
    cases sb with
    | false =>
      obtain rfl : [] = P1 := HP1.out
      go_wp2
      go_meet
      exact ⟨none, 0, rfl, HB4.out, Nat.le_trans HEW.out HB4.out.size, World.ownsRow_nil _ _ _ 1⟩
    | true =>
      obtain rfl : [1] = P1 := HP1.out
      obtain ⟨p', q', w5, r1, r2, r3⟩ := app_ptrN1 (E := E) (LB := X) (V := w4) (p := none) (q := 0) (os := []) (World.ownsRow_nil _ _ _ 1) (Nat.le_trans HEW.out HB4.out.size) 1 (by decide) 107
      have HR1 := hidC r1
      have HR2 := hidC r2
      have HR3 := hidC r3
      clear r1 r2 r3
      go_wp2_with (at_builtin; refine wpList_app (by rfl) _ _ _ (by rfl) _ _ _ (by rfl) (by rfl) HR1.out ?_)
      go_meet
      exact ⟨p', q', rfl, HB4.out.trans HR3.out, Nat.le_trans (Nat.le_trans HEW.out HB4.out.size) HR3.out.size, HR2.out⟩
  case rest =>
    obtain ⟨q5, d5, rfl, HC5⟩ := hcut
    obtain ⟨hb5, hE5, ho5⟩ := HC5.out
    have HB5 := hidC hb5
    have HE5 := hidC hE5
    have HO5 := hidC ho5
    obtain ⟨u0, -⟩ := HYY.out wc hb5
    have lLB : X < wc.heap.size := mcell_lt u0
    have nLB : ¬ X = wc.heap.size := by omega
    have k0 : ∀ o, (wc.alloc o).cell? ⟨X, 0, none⟩ = some (.int .i64 (O : Int)) := fun o => kc (bel_alloc _ _) u0
    clear HC5 hb5 hE5 ho5 y0 y1 y2 y3 y4 y5 y6 KS HB4
    go_upto_region 4 with fail
    refine wp_region_held_drew (S := (fun v => v.cell? ⟨X, 0, none⟩ = some (.int .i64 (O : Int)))) (by kernel_rfl) ?_ (fun hHeld => ?_)
    · ((try dsimp only); go_keep)
    refine wpAnyH_take (i := 0) (v := ?_) (by simp only [List.getElem?_toArray, List.getElem?_cons_succ, List.getElem?_cons_zero]; rfl) (by kernel_rfl) (by kernel_rfl) (by kernel_rfl) (by exact fun _ _ _ h => h) (Or.inl ⟨by rfl, ?_⟩) (by assumption) ?_
    rotate_left 1
    · (intro wS hSw; (try dsimp only at hSw); go_simp; try (with_reducible rfl))
    try simp only [Act.put, List.setIfInBounds_toArray, List.set_cons_zero, List.set_cons_succ]
    refine wpAnyH_take (i := 1) (v := ?_) (by simp only [List.getElem?_toArray, List.getElem?_cons_succ, List.getElem?_cons_zero]; rfl) (by kernel_rfl) (by kernel_rfl) (by kernel_rfl) (by exact fun _ _ _ h => h) (Or.inl ⟨by rfl, ?_⟩) (by assumption) ?_
    rotate_left 1
    · (intro wS hSw; (try dsimp only at hSw); go_simp; try (with_reducible rfl))
    try simp only [Act.put, List.setIfInBounds_toArray, List.set_cons_zero, List.set_cons_succ]
    refine wpAnyH_take (i := 2) (v := ?_) (by simp only [List.getElem?_toArray, List.getElem?_cons_succ, List.getElem?_cons_zero]; rfl) (by kernel_rfl) (by kernel_rfl) (by kernel_rfl) (by exact fun _ _ _ h => h) (Or.inl ⟨by rfl, ?_⟩) (by assumption) ?_
    rotate_left 1
    · (intro wS hSw; (try dsimp only at hSw); go_simp; try (with_reducible rfl))
    try simp only [Act.put, List.setIfInBounds_toArray, List.set_cons_zero, List.set_cons_succ]
    refine wpAnyH_take (i := 3) (v := ?_) (by simp only [List.getElem?_toArray, List.getElem?_cons_succ, List.getElem?_cons_zero]; rfl) (by kernel_rfl) (by kernel_rfl) (by kernel_rfl) (by exact fun _ _ _ h => h) (Or.inl ⟨by rfl, ?_⟩) (by assumption) ?_
    rotate_left 1
    · (intro wS hSw; (try dsimp only at hSw); go_simp; try (with_reducible rfl))
    try simp only [Act.put, List.setIfInBounds_toArray, List.set_cons_zero, List.set_cons_succ]
    refine wpAnyH_take (i := 4) (v := ?_) (by simp only [List.getElem?_toArray, List.getElem?_cons_succ, List.getElem?_cons_zero]; rfl) (by kernel_rfl) (by kernel_rfl) (by kernel_rfl) (by exact fun _ _ _ h => h) (Or.inl ⟨by rfl, ?_⟩) (by assumption) ?_
    rotate_left 1
    · (intro wS hSw; (try dsimp only at hSw); go_simp; try (with_reducible rfl))
    try simp only [Act.put, List.setIfInBounds_toArray, List.set_cons_zero, List.set_cons_succ]
    refine wpAnyH_take (i := 5) (v := ?_) (by simp only [List.getElem?_toArray, List.getElem?_cons_succ, List.getElem?_cons_zero]; rfl) (by kernel_rfl) (by kernel_rfl) (by kernel_rfl) (by exact fun _ _ _ h => h) (Or.inl ⟨by rfl, ?_⟩) (by assumption) ?_
    rotate_left 1
    · (intro wS hSw; (try dsimp only at hSw); go_simp; try (with_reducible rfl))
    try simp only [Act.put, List.setIfInBounds_toArray, List.set_cons_zero, List.set_cons_succ]
    refine wpAnyH_take (i := 6) (v := ?_) (by simp only [List.getElem?_toArray, List.getElem?_cons_succ, List.getElem?_cons_zero]; rfl) (by kernel_rfl) (by kernel_rfl) (by kernel_rfl) (by exact fun _ _ _ h => h) (Or.inl ⟨by rfl, ?_⟩) (by assumption) ?_
    rotate_left 1
    · (intro wS hSw; (try dsimp only at hSw); go_simp; try (with_reducible rfl))
    try simp only [Act.put, List.setIfInBounds_toArray, List.set_cons_zero, List.set_cons_succ]
    refine wpAnyH_take (i := 7) (v := ?_) (by simp only [List.getElem?_toArray, List.getElem?_cons_succ, List.getElem?_cons_zero]; rfl) (by kernel_rfl) (by kernel_rfl) (by kernel_rfl) (by exact fun _ _ _ h => h) (Or.inl ⟨by rfl, ?_⟩) (by assumption) ?_
    rotate_left 1
    · (intro wS hSw; (try dsimp only at hSw); go_simp; try (with_reducible rfl))
    try simp only [Act.put, List.setIfInBounds_toArray, List.set_cons_zero, List.set_cons_succ]
    refine wpAnyH_take (i := 8) (v := ?_) (by simp only [List.getElem?_toArray, List.getElem?_cons_succ, List.getElem?_cons_zero]; rfl) (by kernel_rfl) (by kernel_rfl) (by kernel_rfl) (by exact fun _ _ _ h => h) (Or.inl ⟨by rfl, ?_⟩) (by assumption) ?_
    rotate_left 1
    · (intro wS hSw; (try dsimp only at hSw); go_simp; try (with_reducible rfl))
    try simp only [Act.put, List.setIfInBounds_toArray, List.set_cons_zero, List.set_cons_succ]
    refine wpAnyH_take (i := 9) (v := ?_) (by simp only [List.getElem?_toArray, List.getElem?_cons_succ, List.getElem?_cons_zero]; rfl) (by kernel_rfl) (by kernel_rfl) (by kernel_rfl) (by exact fun _ _ _ h => h) (Or.inl ⟨by rfl, ?_⟩) (by assumption) ?_
    rotate_left 1
    · (intro wS hSw; (try dsimp only at hSw); go_simp; try (with_reducible rfl))
    try simp only [Act.put, List.setIfInBounds_toArray, List.set_cons_zero, List.set_cons_succ]
    clear hHeld
    refine wpAnyH_ready (rs := [10]) (by kernel_rfl) (by simp) ?_
    refine AllReadyH.cons (i := 10) (by simp only [List.getElem?_toArray, List.getElem?_cons_succ, List.getElem?_cons_zero]; rfl) (fun K hK => ?_) AllReadyH.nil
    go_simp
    refine hK.out _ _ ?_ (fun hHeld => ?_)
    · ((try dsimp only); go_keep)
    clear hK K
    try simp only [Act.put, List.setIfInBounds_toArray, List.set_cons_zero, List.set_cons_succ]
    clear hHeld
    refine wpAnyH_ready (rs := [11]) (by kernel_rfl) (by simp) ?_
    refine AllReadyH.cons (i := 11) (by simp only [List.getElem?_toArray, List.getElem?_cons_succ, List.getElem?_cons_zero]; rfl) (fun K hK => ?_) AllReadyH.nil
    go_simp
    refine hK.out _ _ ?_ (fun hHeld => ?_)
    · ((try dsimp only); go_keep)
    clear hK K
    try simp only [Act.put, List.setIfInBounds_toArray, List.set_cons_zero, List.set_cons_succ]
    refine wpAnyH_done (by kernel_rfl) ?_ _
    obtain ⟨W6, hW6⟩ : ∃ W, (wc.alloc (.cells #[.pointer (some ⟨X, 2, none⟩), .pointer (some ⟨X, 3, none⟩), .pointer (some ⟨X, 4, none⟩)] 135)).drew = W := ⟨_, rfl⟩
    rw [hW6]
    have HB6 : Hid (Below wc.heap.size wc W6) := by rw [← hW6]; exact bel (bel_alloc _ _) (Below.refl _ _).drew
    have HX6 : Hid (∀ k (hk : k < 3), W6.cell? ⟨wc.heap.size, k, none⟩ = some (.pointer (some ⟨X, [2, 3, 4][k], none⟩))) := fun k hk => by
      rw [← hW6]
      rcases (show k = 0 ∨ k = 1 ∨ k = 2 by omega) with rfl | rfl | rfl <;> simp [go_sem]
    have HBW : Hid (Below E w W6) := HB5.out.trans (HB6.out.mono HE5.out)
    obtain ⟨y0, y1, y2, y3, y4, y5, y6⟩ := HYY.out W6 HBW.out
    obtain ⟨m, hm⟩ : ∃ m, rs.length = m := ⟨_, rfl⟩
    have HNS : Hid (([2, 3, 4].take rs.length).length = m) := by show _ = _; have := HRL.out; rw [List.length_take]; simp only [List.length_cons, List.length_nil]; omega
    have HMM : Hid (m ≤ 3) := by rw [← hm]; exact HRL.out
    have m3 : (m : Int) ≤ 3 := by have := HMM.out; omega
    have m4 : m ≤ 3 := HMM.out
    have m5 : (0 : Int) ≤ (m : Int) := by omega
    simp only [hm] at KR
    clear hW6 hm u0 k0
    go_upto_region 5 with fail
    go_upto_region 6 with (first
      | (go_at_call 70; (with_reducible refine (KR.out _).mono ?_); rintro e9 w7 ⟨v7, rfl, ho7, hb7⟩; obtain ⟨p7, q7, rfl⟩ := own_len ho7; have HB7 := hidC hb7; obtain ⟨p', q', w8, r1, r2, r3⟩ := app_ptrN (LB := X) (RB := wc.heap.size) (d := 3) (own_below HO5.out (bel HB6.out HB7.out)) (Nat.le_trans HE5.out (bel HB6.out HB7.out).size) ([2, 3, 4].take rs.length) (fun k hk => by
          have h9 : k < 3 := by have := HNS.out; have := HMM.out; omega
          rw [List.getElem_take]
          exact kc HB7.out (HX6.out k h9)) (by have := HNS.out; have := HMM.out; have := HP1L.out; omega) 107; rw [HP2.out] at r2; rw [HNS.out] at r1; have HR1 := hidC r1; have HR2 := hidC r2; have HR3 := hidC r3; clear r1 r2 r3 ho7 hb7)
      | (at_builtin; refine wpList_app (by rfl) _ _ _ (by rfl) _ _ _ (by rfl) (by rfl) HR1.out ?_))
    have HBX : Hid (Below E w w8) := (HBW.out.trans (HB7.out.mono (Nat.le_trans HE5.out HB6.out.size))).trans HR3.out
    have HEX : Hid (E ≤ w8.heap.size) := Nat.le_trans (Nat.le_trans HE5.out (bel HB6.out HB7.out).size) HR3.out.size
    have hpl : P1.length + m = P2.length := by rw [← HP2.out, List.length_append, HNS.out]
    rw [hpl]
    clear hpl y0 y1 y2 y3 y4 y5 y6 HR1 HR3 HB7 KR HX6 HB6 HB5 HO5 HBW HE5
    obtain ⟨y0, y1, y2, y3, y4, y5, y6⟩ := HYY.out w8 HBX.out
    go_upto_if 37 with (go_at_call 71; (with_reducible refine (KH.out _).mono ?_); rintro e9 w9 ⟨rfl, rfl⟩)
    cases nb with
    | false =>
      have HFF : Hid (F = P2) := by show _ = _; rw [← HF.out]; simp
      go_wp2
      refine bodyPost_ret (by simp [results, Try.results48, go_sem, *]; try rfl) rfl ?_
      rw [HFF.out]
      exact ⟨_, _, rfl, HR2.out, HBX.out⟩
    | true =>
      have HFF : Hid (F = P2 ++ [5]) := by show _ = _; rw [← HF.out]; simp
      obtain ⟨p3, q3, w5, r1, r2, r3⟩ := app_ptrN1 (LB := X) HR2.out HEX.out 5 (by have := HP2L.out; omega) 107
      rw [← HFF.out] at r2
      have HS1 := hidC r1
      have HS2 := hidC r2
      have HS3 := hidC r3
      have HLN : Hid (F.length = P2.length + 1) := by show _ = _; rw [HFF.out]; simp
      clear r1 r2 r3
      go_wp2_with (at_builtin; refine wpList_app (by rfl) _ _ _ (by rfl) _ _ _ (by rfl) (by rfl) HS1.out ?_)
      refine bodyPost_ret (by simp [results, Try.results48, go_sem, *]; try rfl) rfl ?_
      exact ⟨p3, q3, by rw [HLN.out], HS2.out, HBX.out.trans HS3.out⟩

end Go.Proofs.Ytnlgkkbmbijndaa
