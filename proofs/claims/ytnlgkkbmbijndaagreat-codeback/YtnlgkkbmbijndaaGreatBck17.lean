import Derived.Test.YtnlgkkbmbijndaaGreatBck16
import Derived.Deep.DeepCutAuto
import Derived.Test.YtnlgkkbmbijndaaGreatBck2
import Derived.Test.YtnlgkkbmbijndaaGreatBck15
/- Package code: the fields of an instruction that stand in bytecode. -/
namespace Go.Proofs.YtnlgkkbmbijndaaGreat
open Go.RowKit
set_option linter.unusedVariables false
set_option linter.unusedSimpArgs false

theorem nmN_seven : ∀ op : Nat, op < 38 → 1 ≤ op → nmN op = decide (op = 2 ∨ op = 29 ∨ op = 30 ∨ op = 31 ∨ op = 32 ∨ op = 33 ∨ op = 36) := by decide +kernel
set_option maxRecDepth 100000 in
set_option maxHeartbeats 4000000 in
theorem hasN_any (op : Nat) (h1 : 1 ≤ op) (h2 : op ≤ 37) (w : World) :
    Calls Tryz.prog 110 #[.int .i64 (op : Int)] w fun e w' => e = .returned (.bool (nmN op)) ∧ w' = w := by
  have HN := hidC (nmN_seven op (by omega) h1)
  by_cases q : op = 2 ∨ op = 29 ∨ op = 30 ∨ op = 31 ∨ op = 32 ∨ op = 33 ∨ op = 36
  · have HT : Hid (nmN op = true) := by show nmN op = _; rw [HN.out]; simp [q]
    rw [HT.out]
    clear HN HT
    rcases q with rfl | rfl | rfl | rfl | rfl | rfl | rfl
    all_goals
      go_enter Tryz.func110, Tryz.ntmps110
      go_wp2
      refine bodyPost_ret (by simp [results, Tryz.results110, go_sem, *]; try rfl) rfl ?_
      exact ⟨rfl, rfl⟩
  · have HT : Hid (nmN op = false) := by show nmN op = _; rw [HN.out]; simp [q]
    rw [HT.out]
    have a1 : ((op : Int) == 2) = false := by simp; omega
    have a2 : ((op : Int) == 29) = false := by simp; omega
    have a3 : ((op : Int) == 30) = false := by simp; omega
    have a4 : ((op : Int) == 31) = false := by simp; omega
    have a5 : ((op : Int) == 32) = false := by simp; omega
    have a6 : ((op : Int) == 33) = false := by simp; omega
    have a7 : ((op : Int) == 36) = false := by simp; omega
    clear HN HT q
    go_enter Tryz.func110, Tryz.ntmps110
    go_wp2
    refine bodyPost_ret (by simp [results, Tryz.results110, go_sem, *]; try rfl) rfl ?_
    exact ⟨rfl, rfl⟩

/-- Pointers to cells of one block. -/
def ptrN (LB : Nat) (os : List Nat) : List Value := os.map fun o => .pointer (some ⟨LB, o, none⟩)
theorem ptrN_app (LB : Nat) (a b : List Nat) : ptrN LB (a ++ b) = ptrN LB a ++ ptrN LB b := by simp [ptrN]
theorem info_PtrN : (Tryz.prog.info? 154).map (fun i => (i.zero, i.size, i.bytes)) = some (some (.pointer none), 1, 8) := by kernel_rfl
/-- More pointers, wherever they lie. -/
theorem app_ptrN {E LB : Nat} {V : World} {p : Option Addr} {q : Nat} {os : List Nat} (h : V.ownsRow E 154 1 (.slice p os.length q) os.length (ptrN LB os)) (hE : E ≤ V.heap.size) {RB d : Nat} (ns : List Nat) (hn : ∀ j (hj : j < ns.length), V.cell? ⟨RB, j, none⟩ = some (.pointer (some ⟨LB, ns[j], none⟩))) (hl : os.length + ns.length ≤ 1000000) (ty : TypeId) :
    ∃ p' q' w', (Builtin.append_ #[152, 152] ty #[.slice p os.length q, .slice (some ⟨RB, 0, none⟩) ns.length d]).run Tryz.prog V = .ok (.slice p' (os.length + ns.length) q') w' ∧ w'.ownsRow E 154 1 (.slice p' (os ++ ns).length q') (os ++ ns).length (ptrN LB (os ++ ns)) ∧ Below E V w' := by
  obtain ⟨i0, hi0, hz0, hz1, hz2⟩ := info_parts info_PtrN
  obtain ⟨v', w', hr, h2, h3, -, -⟩ := run_append_own_at (P := Tryz.prog) V E 152 ty 154 i0 _ 1 8 Tryz.underlying152 hi0 hz0 hz1 hz2 rfl (by decide) (.slice p os.length q) os.length (ptrN LB os) h ⟨RB, 0, none⟩ ns.length d (ptrN LB ns) (by simp [ptrN]) (fun j u hu => by
    have hj : j < ns.length := by have := (List.getElem?_eq_some_iff.1 hu).1; simpa [ptrN] using this
    have hadd : (⟨RB, 0, none⟩ : Addr).add j = ⟨RB, j, none⟩ := by unfold Addr.add; split <;> simp_all
    rw [hadd, hn j hj]
    simpa [ptrN, hj] using hu) (by simp [ptrN, Value.oneCell']) (by unfold maxLen; omega) (by omega) hE
  obtain ⟨p', q', rfl⟩ := own_len h2
  refine ⟨p', q', w', hr, ?_, (Below.refl E V).grown h3 hE (fun b e => (h.lt b e).1)⟩
  rw [List.length_append, ptrN_app]
  exact h2
theorem app_ptrN1 {E LB : Nat} {V : World} {p : Option Addr} {q : Nat} {os : List Nat} (h : V.ownsRow E 154 1 (.slice p os.length q) os.length (ptrN LB os)) (hE : E ≤ V.heap.size) (o : Nat) (hl : os.length + 1 ≤ 1000000) (ty : TypeId) :
    ∃ p' q' w', (Builtin.append_ #[152, 152] ty #[.slice p os.length q, .slice (some ⟨V.heap.size, 0, none⟩) 1 1]).run Tryz.prog (V.alloc (.cells #[.pointer (some ⟨LB, o, none⟩)] 154)) = .ok (.slice p' (os.length + 1) q') w' ∧ w'.ownsRow E 154 1 (.slice p' (os ++ [o]).length q') (os ++ [o]).length (ptrN LB (os ++ [o])) ∧ Below E V w' := by
  have hb0 : Below V.heap.size V (V.alloc (.cells #[.pointer (some ⟨LB, o, none⟩)] 154)) := bel_alloc _ _
  obtain ⟨p', q', w', h1, h2, h3⟩ := app_ptrN (LB := LB) (own_below h hb0) (Nat.le_trans hE hb0.size) (RB := V.heap.size) (d := 1) [o] (fun j hj => by
    have : j = 0 := by simp only [List.length_cons, List.length_nil] at hj; omega
    subst this
    simp [go_sem]) hl ty
  exact ⟨p', q', w', h1, h2, (hb0.mono hE).trans h3⟩
theorem reads_leN (i : Ins) : (readsP i (rowP i.op)).length ≤ 3 := by
  rw [reads_eq]
  have h1 := rd1_le (rowP i.op).a i.a
  have h2 := rd1_le (rowP i.op).b i.b
  have h3 := rd1_le (rowP i.op).c i.c
  simp only [List.length_append]
  omega
/-- The places of the fields that stand in bytecode. -/
def fldO (i : Ins) : List Nat := ((if (rowP i.op).d != 0 then [1] else []) ++ [2, 3, 4].take (readsP i (rowP i.op)).length) ++ (if nmN i.op.toNat = true then [5] else [])

set_option maxRecDepth 100000 in
set_option maxHeartbeats 16000000 in
theorem fields_any (X : Nat) (i : Ins) (h1 : 1 ≤ i.op) (h2 : i.op ≤ 37) (w : World) (hc : CellsAt w X 0 (inC i)) :
    Calls Tryz.prog 81 #[.pointer (some ⟨X, 0, none⟩)] w fun e w' => ∃ q d, e = .returned (.slice q (fldO i).length d) ∧ w'.ownsRow w.heap.size 154 1 (.slice q (fldO i).length d) (fldO i).length (ptrN X (fldO i)) ∧ Below w.heap.size w w' := by
  obtain ⟨E, hE⟩ : ∃ E, w.heap.size = E := ⟨_, rfl⟩
  have HE := hidC hE
  simp only [hE]
  have HRL := hidC (reads_leN i)
  obtain ⟨F, hF⟩ : ∃ F, fldO i = F := ⟨_, rfl⟩
  rw [hF]
  have HF : Hid (((if (rowP i.op).d != 0 then [1] else []) ++ [2, 3, 4].take (readsP i (rowP i.op)).length) ++ (if nmN i.op.toNat = true then [5] else []) = F) := hF
  clear hF
  obtain ⟨op, d, a, b, e, n, z⟩ := i
  simp only at h1 h2 HRL HF
  obtain ⟨O, hO⟩ : ∃ O : Nat, op = (O : Int) := ⟨op.toNat, by omega⟩
  subst hO
  rw [Int.toNat_natCast] at HF
  have HYY : Hid (∀ v, Below E w v → v.cell? ⟨X, 0, none⟩ = some (.int .i64 (O : Int)) ∧ v.cell? ⟨X, 1, none⟩ = some (.int .i64 d) ∧ v.cell? ⟨X, 2, none⟩ = some (.int .i64 a) ∧ v.cell? ⟨X, 3, none⟩ = some (.int .i64 b) ∧ v.cell? ⟨X, 4, none⟩ = some (.int .i64 e) ∧ v.cell? ⟨X, 5, none⟩ = some (.int .i64 n) ∧ v.cell? ⟨X, 6, none⟩ = some (.int .u32 z)) := fun v hv => by
    rw [← hE] at hv
    have g : ∀ k x, (inC ⟨(O : Int), d, a, b, e, n, z⟩)[k]? = some x → v.cell? ⟨X, k, none⟩ = some x := fun k x hx => by
      have h9 := hc.at k hx
      rw [Nat.zero_add] at h9
      exact kc hv h9
    exact ⟨g 0 _ rfl, g 1 _ rfl, g 2 _ rfl, g 3 _ rfl, g 4 _ rfl, g 5 _ rfl, g 6 _ rfl⟩
  obtain ⟨y0, y1, y2, y3, y4, y5, y6⟩ := HYY.out w (Below.refl _ _)
  have KS := hidC (fun v => sets_any ⟨(O : Int), d, a, b, e, n, z⟩ v)
  have KR := hidC (fun v => reads_any ⟨(O : Int), d, a, b, e, n, z⟩ v)
  have KH := hidC (fun v => hasN_any O (by omega) (by omega) v)
  unfold insV at KS KR
  simp only at KS KR
  obtain ⟨rs, hrs⟩ : ∃ rs, readsP (⟨(O : Int), d, a, b, e, n, z⟩ : Ins) (rowP (O : Int)) = rs := ⟨_, rfl⟩
  simp only [hrs] at KR HRL HF
  obtain ⟨sb, hsb⟩ : ∃ sb, ((rowP (O : Int)).d != 0) = sb := ⟨_, rfl⟩
  simp only [hsb] at KS HF
  obtain ⟨nb, hnb⟩ : ∃ nb, nmN O = nb := ⟨_, rfl⟩
  simp only [hnb] at KH HF
  obtain ⟨P1, hP1⟩ : ∃ P, (if sb = true then [1] else [] : List Nat) = P := ⟨_, rfl⟩
  have HP1L : Hid (P1.length ≤ 1) := by rw [← hP1]; show _ ≤ _; split <;> simp
  have HP1 := hidC hP1
  rw [hP1] at HF
  obtain ⟨P2, hP2⟩ : ∃ P, P1 ++ [2, 3, 4].take rs.length = P := ⟨_, rfl⟩
  have HP2 := hidC hP2
  rw [hP2] at HF
  have HP2L : Hid (P2.length ≤ 4) := by
    rw [← hP2, List.length_append, List.length_take]
    have := HP1L.out
    show _ ≤ _
    simp only [List.length_cons, List.length_nil]
    omega
  have HEW : Hid (E ≤ w.heap.size) := by rw [hE]; exact Nat.le_refl _
  clear hc hE hrs hsb hnb hP1 hP2 h1 h2
  go_enter Tryz.func81, Tryz.ntmps81
  go_upto_if 8 with (go_at_call 108; (with_reducible refine (KS.out _).mono ?_); rintro e9 w4 ⟨rfl, hb4⟩; have HB4 : Hid (Below E w w4) := (by have h9 := hb4; rw [HE.out] at h9; exact h9); clear hb4)
  go_cut [3] (fun lv wx => ∃ (q : Option Addr) (d' : Nat), lv = .slice q P1.length d' ∧ Hid (Below E w wx ∧ E ≤ wx.heap.size ∧ wx.ownsRow E 154 1 (.slice q P1.length d') P1.length (ptrN X P1)))
  case first =>
    cases sb with
    | false =>
      obtain rfl : [] = P1 := HP1.out
      go_wp2
      go_meet
      exact ⟨none, 0, rfl, HB4.out, Nat.le_trans HEW.out HB4.out.size, World.ownsRow_nil _ _ _ 1⟩
    | true =>
      obtain rfl : [1] = P1 := HP1.out
      obtain ⟨p', q', w5, r1, r2, r3⟩ := app_ptrN1 (E := E) (LB := X) (V := w4) (p := none) (q := 0) (os := []) (World.ownsRow_nil _ _ _ 1) (Nat.le_trans HEW.out HB4.out.size) 1 (by decide) 152
      have HR1 := hidC r1
      have HR2 := hidC r2
      have HR3 := hidC r3
      clear r1 r2 r3
      go_wp2_with (at_builtin; refine wpList_app (by rfl) _ _ _ (by rfl) _ _ _ (by rfl) (by rfl) HR1.out ?_)
      go_meet
      exact ⟨p', q', rfl, HB4.out.trans HR3.out, Nat.le_trans (Nat.le_trans HEW.out HB4.out.size) HR3.out.size, HR2.out⟩
  case rest =>
    obtain ⟨q5, d5, rfl, HC5⟩ := hcut
    obtain ⟨hb5, hE5, ho5⟩ := HC5.out
    have HB5 := hidC hb5
    have HE5 := hidC hE5
    have HO5 := hidC ho5
    obtain ⟨u0, -⟩ := HYY.out wc hb5
    have lLB : X < wc.heap.size := mcell_lt u0
    have nLB : ¬ X = wc.heap.size := by omega
    have k0 : ∀ o, (wc.alloc o).cell? ⟨X, 0, none⟩ = some (.int .i64 (O : Int)) := fun o => kc (bel_alloc _ _) u0
    clear HC5 hb5 hE5 ho5 y0 y1 y2 y3 y4 y5 y6 KS HB4
    go_upto_region 4 with fail
    refine wp_region_held_drew (S := (fun v => v.cell? ⟨X, 0, none⟩ = some (.int .i64 (O : Int)))) (by kernel_rfl) ?_ (fun hHeld => ?_)
    · ((try dsimp only); go_keep)
    refine wpAnyH_take (i := 0) (v := ?_) (by simp only [List.getElem?_toArray, List.getElem?_cons_succ, List.getElem?_cons_zero]; rfl) (by kernel_rfl) (by kernel_rfl) (by kernel_rfl) (by exact fun _ _ _ h => h) (Or.inl ⟨by rfl, ?_⟩) (by assumption) ?_
    rotate_left 1
    · (intro wS hSw; (try dsimp only at hSw); go_simp; try (with_reducible rfl))
    try simp only [Act.put, List.setIfInBounds_toArray, List.set_cons_zero, List.set_cons_succ]
    refine wpAnyH_take (i := 1) (v := ?_) (by simp only [List.getElem?_toArray, List.getElem?_cons_succ, List.getElem?_cons_zero]; rfl) (by kernel_rfl) (by kernel_rfl) (by kernel_rfl) (by exact fun _ _ _ h => h) (Or.inl ⟨by rfl, ?_⟩) (by assumption) ?_
    rotate_left 1
    · (intro wS hSw; (try dsimp only at hSw); go_simp; try (with_reducible rfl))
    try simp only [Act.put, List.setIfInBounds_toArray, List.set_cons_zero, List.set_cons_succ]
    refine wpAnyH_take (i := 2) (v := ?_) (by simp only [List.getElem?_toArray, List.getElem?_cons_succ, List.getElem?_cons_zero]; rfl) (by kernel_rfl) (by kernel_rfl) (by kernel_rfl) (by exact fun _ _ _ h => h) (Or.inl ⟨by rfl, ?_⟩) (by assumption) ?_
    rotate_left 1
    · (intro wS hSw; (try dsimp only at hSw); go_simp; try (with_reducible rfl))
    try simp only [Act.put, List.setIfInBounds_toArray, List.set_cons_zero, List.set_cons_succ]
    refine wpAnyH_take (i := 3) (v := ?_) (by simp only [List.getElem?_toArray, List.getElem?_cons_succ, List.getElem?_cons_zero]; rfl) (by kernel_rfl) (by kernel_rfl) (by kernel_rfl) (by exact fun _ _ _ h => h) (Or.inl ⟨by rfl, ?_⟩) (by assumption) ?_
    rotate_left 1
    · (intro wS hSw; (try dsimp only at hSw); go_simp; try (with_reducible rfl))
    try simp only [Act.put, List.setIfInBounds_toArray, List.set_cons_zero, List.set_cons_succ]
    refine wpAnyH_take (i := 4) (v := ?_) (by simp only [List.getElem?_toArray, List.getElem?_cons_succ, List.getElem?_cons_zero]; rfl) (by kernel_rfl) (by kernel_rfl) (by kernel_rfl) (by exact fun _ _ _ h => h) (Or.inl ⟨by rfl, ?_⟩) (by assumption) ?_
    rotate_left 1
    · (intro wS hSw; (try dsimp only at hSw); go_simp; try (with_reducible rfl))
    try simp only [Act.put, List.setIfInBounds_toArray, List.set_cons_zero, List.set_cons_succ]
    refine wpAnyH_take (i := 5) (v := ?_) (by simp only [List.getElem?_toArray, List.getElem?_cons_succ, List.getElem?_cons_zero]; rfl) (by kernel_rfl) (by kernel_rfl) (by kernel_rfl) (by exact fun _ _ _ h => h) (Or.inl ⟨by rfl, ?_⟩) (by assumption) ?_
    rotate_left 1
    · (intro wS hSw; (try dsimp only at hSw); go_simp; try (with_reducible rfl))
    try simp only [Act.put, List.setIfInBounds_toArray, List.set_cons_zero, List.set_cons_succ]
    refine wpAnyH_take (i := 6) (v := ?_) (by simp only [List.getElem?_toArray, List.getElem?_cons_succ, List.getElem?_cons_zero]; rfl) (by kernel_rfl) (by kernel_rfl) (by kernel_rfl) (by exact fun _ _ _ h => h) (Or.inl ⟨by rfl, ?_⟩) (by assumption) ?_
    rotate_left 1
    · (intro wS hSw; (try dsimp only at hSw); go_simp; try (with_reducible rfl))
    try simp only [Act.put, List.setIfInBounds_toArray, List.set_cons_zero, List.set_cons_succ]
    refine wpAnyH_take (i := 7) (v := ?_) (by simp only [List.getElem?_toArray, List.getElem?_cons_succ, List.getElem?_cons_zero]; rfl) (by kernel_rfl) (by kernel_rfl) (by kernel_rfl) (by exact fun _ _ _ h => h) (Or.inl ⟨by rfl, ?_⟩) (by assumption) ?_
    rotate_left 1
    · (intro wS hSw; (try dsimp only at hSw); go_simp; try (with_reducible rfl))
    try simp only [Act.put, List.setIfInBounds_toArray, List.set_cons_zero, List.set_cons_succ]
    refine wpAnyH_take (i := 8) (v := ?_) (by simp only [List.getElem?_toArray, List.getElem?_cons_succ, List.getElem?_cons_zero]; rfl) (by kernel_rfl) (by kernel_rfl) (by kernel_rfl) (by exact fun _ _ _ h => h) (Or.inl ⟨by rfl, ?_⟩) (by assumption) ?_
    rotate_left 1
    · (intro wS hSw; (try dsimp only at hSw); go_simp; try (with_reducible rfl))
    try simp only [Act.put, List.setIfInBounds_toArray, List.set_cons_zero, List.set_cons_succ]
    refine wpAnyH_take (i := 9) (v := ?_) (by simp only [List.getElem?_toArray, List.getElem?_cons_succ, List.getElem?_cons_zero]; rfl) (by kernel_rfl) (by kernel_rfl) (by kernel_rfl) (by exact fun _ _ _ h => h) (Or.inl ⟨by rfl, ?_⟩) (by assumption) ?_
    rotate_left 1
    · (intro wS hSw; (try dsimp only at hSw); go_simp; try (with_reducible rfl))
    try simp only [Act.put, List.setIfInBounds_toArray, List.set_cons_zero, List.set_cons_succ]
    clear hHeld
    refine wpAnyH_ready (rs := [10]) (by kernel_rfl) (by simp) ?_
    refine AllReadyH.cons (i := 10) (by simp only [List.getElem?_toArray, List.getElem?_cons_succ, List.getElem?_cons_zero]; rfl) (fun K hK => ?_) AllReadyH.nil
    go_simp
    refine hK.out _ _ ?_ (fun hHeld => ?_)
    · ((try dsimp only); go_keep)
    clear hK K
    try simp only [Act.put, List.setIfInBounds_toArray, List.set_cons_zero, List.set_cons_succ]
    clear hHeld
    refine wpAnyH_ready (rs := [11]) (by kernel_rfl) (by simp) ?_
    refine AllReadyH.cons (i := 11) (by simp only [List.getElem?_toArray, List.getElem?_cons_succ, List.getElem?_cons_zero]; rfl) (fun K hK => ?_) AllReadyH.nil
    go_simp
    refine hK.out _ _ ?_ (fun hHeld => ?_)
    · ((try dsimp only); go_keep)
    clear hK K
    try simp only [Act.put, List.setIfInBounds_toArray, List.set_cons_zero, List.set_cons_succ]
    refine wpAnyH_done (by kernel_rfl) ?_ _
    obtain ⟨W6, hW6⟩ : ∃ W, (wc.alloc (.cells #[.pointer (some ⟨X, 2, none⟩), .pointer (some ⟨X, 3, none⟩), .pointer (some ⟨X, 4, none⟩)] 176)).drew = W := ⟨_, rfl⟩
    rw [hW6]
    have HB6 : Hid (Below wc.heap.size wc W6) := by rw [← hW6]; exact bel (bel_alloc _ _) (Below.refl _ _).drew
    have HX6 : Hid (∀ k (hk : k < 3), W6.cell? ⟨wc.heap.size, k, none⟩ = some (.pointer (some ⟨X, [2, 3, 4][k], none⟩))) := fun k hk => by
      rw [← hW6]
      rcases (show k = 0 ∨ k = 1 ∨ k = 2 by omega) with rfl | rfl | rfl <;> simp [go_sem]
    have HBW : Hid (Below E w W6) := HB5.out.trans (HB6.out.mono HE5.out)
    obtain ⟨y0, y1, y2, y3, y4, y5, y6⟩ := HYY.out W6 HBW.out
    obtain ⟨m, hm⟩ : ∃ m, rs.length = m := ⟨_, rfl⟩
    have HNS : Hid (([2, 3, 4].take rs.length).length = m) := by show _ = _; have := HRL.out; rw [List.length_take]; simp only [List.length_cons, List.length_nil]; omega
    have HMM : Hid (m ≤ 3) := by rw [← hm]; exact HRL.out
    have m3 : (m : Int) ≤ 3 := by have := HMM.out; omega
    have m4 : m ≤ 3 := HMM.out
    have m5 : (0 : Int) ≤ (m : Int) := by omega
    simp only [hm] at KR
    clear hW6 hm u0 k0
    go_upto_region 5 with fail
    go_upto_region 6 with (first
      | (go_at_call 109; (with_reducible refine (KR.out _).mono ?_); rintro e9 w7 ⟨v7, rfl, ho7, hb7⟩; obtain ⟨p7, q7, rfl⟩ := own_len ho7; have HB7 := hidC hb7; obtain ⟨p', q', w8, r1, r2, r3⟩ := app_ptrN (LB := X) (RB := wc.heap.size) (d := 3) (own_below HO5.out (bel HB6.out HB7.out)) (Nat.le_trans HE5.out (bel HB6.out HB7.out).size) ([2, 3, 4].take rs.length) (fun k hk => by
          have h9 : k < 3 := by have := HNS.out; have := HMM.out; omega
          rw [List.getElem_take]
          exact kc HB7.out (HX6.out k h9)) (by have := HNS.out; have := HMM.out; have := HP1L.out; omega) 152; rw [HP2.out] at r2; rw [HNS.out] at r1; have HR1 := hidC r1; have HR2 := hidC r2; have HR3 := hidC r3; clear r1 r2 r3 ho7 hb7)
      | (at_builtin; refine wpList_app (by rfl) _ _ _ (by rfl) _ _ _ (by rfl) (by rfl) HR1.out ?_))
    have HBX : Hid (Below E w w8) := (HBW.out.trans (HB7.out.mono (Nat.le_trans HE5.out HB6.out.size))).trans HR3.out
    have HEX : Hid (E ≤ w8.heap.size) := Nat.le_trans (Nat.le_trans HE5.out (bel HB6.out HB7.out).size) HR3.out.size
    have hpl : P1.length + m = P2.length := by rw [← HP2.out, List.length_append, HNS.out]
    rw [hpl]
    clear hpl y0 y1 y2 y3 y4 y5 y6 HR1 HR3 HB7 KR HX6 HB6 HB5 HO5 HBW HE5
    obtain ⟨y0, y1, y2, y3, y4, y5, y6⟩ := HYY.out w8 HBX.out
    go_upto_if 37 with (go_at_call 110; (with_reducible refine (KH.out _).mono ?_); rintro e9 w9 ⟨rfl, rfl⟩)
    cases nb with
    | false =>
      have HFF : Hid (F = P2) := by show _ = _; rw [← HF.out]; simp
      go_wp2
      refine bodyPost_ret (by simp [results, Tryz.results81, go_sem, *]; try rfl) rfl ?_
      rw [HFF.out]
      exact ⟨_, _, rfl, HR2.out, HBX.out⟩
    | true =>
      have HFF : Hid (F = P2 ++ [5]) := by show _ = _; rw [← HF.out]; simp
      obtain ⟨p3, q3, w5, r1, r2, r3⟩ := app_ptrN1 (LB := X) HR2.out HEX.out 5 (by have := HP2L.out; omega) 152
      rw [← HFF.out] at r2
      have HS1 := hidC r1
      have HS2 := hidC r2
      have HS3 := hidC r3
      have HLN : Hid (F.length = P2.length + 1) := by show _ = _; rw [HFF.out]; simp
      clear r1 r2 r3
      go_wp2_with (at_builtin; refine wpList_app (by rfl) _ _ _ (by rfl) _ _ _ (by rfl) (by rfl) HS1.out ?_)
      refine bodyPost_ret (by simp [results, Tryz.results81, go_sem, *]; try rfl) rfl ?_
      exact ⟨p3, q3, by rw [HLN.out], HS2.out, HBX.out.trans HS3.out⟩

end Go.Proofs.YtnlgkkbmbijndaaGreat
/- Package code: the writer: instruction. -/
namespace Go.Proofs.YtnlgkkbmbijndaaGreat
open Go.RowKit
set_option linter.unusedVariables false
set_option linter.unusedSimpArgs false

theorem nm_rows : ∀ op : Nat, op < 38 → 1 ≤ op → (nmC op = true → nmB op = true) ∧ (nmB op = true → nmA op = true) := by decide +kernel
def fAt (i : Ins) (o : Nat) : Int := if o = 1 then i.d else if o = 2 then i.a else if o = 3 then i.b else if o = 4 then i.c else i.n
theorem fld_O {i : Ins} (O : Nat) (hO : i.op = (O : Int)) : fldO i = ((if nmD O = true then [1] else []) ++ [2, 3, 4].take ((if nmA O = true then 1 else 0) + (if nmB O = true then 1 else 0) + (if nmC O = true then 1 else 0))) ++ (if nmN O = true then [5] else []) := by
  have hd : ((rowP i.op).d != 0) = nmD O := by rw [hO]; unfold nmD; by_cases h : (rowP (O : Int)).d = 0 <;> simp [h]
  have hr : (readsP i (rowP i.op)).length = (if nmA O = true then 1 else 0) + (if nmB O = true then 1 else 0) + (if nmC O = true then 1 else 0) := by
    rw [hO]
    unfold readsP nmA nmB nmC
    by_cases h1 : (rowP (O : Int)).a = 0 <;> by_cases h2 : (rowP (O : Int)).b = 0 <;> by_cases h3 : (rowP (O : Int)).c = 0 <;> simp [h1, h2, h3]
  unfold fldO
  rw [hd, hr, hO, Int.toNat_natCast]
theorem eIns_fld {i : Ins} (h1 : 1 ≤ i.op) (h2 : i.op ≤ 37) : eIns i = ([i.op.toNat] ++ (fldO i).flatMap (fun o => numB (fAt i o).toNat)) ++ eBit i.op.toNat i.bits := by
  obtain ⟨O, hO⟩ : ∃ O : Nat, i.op = (O : Int) := ⟨i.op.toNat, by omega⟩
  obtain ⟨a1, a2⟩ := nm_rows O (by omega) (by omega)
  rw [fld_O O hO]
  unfold eIns eFld
  rw [hO, Int.toNat_natCast]
  generalize nmD O = D at *
  generalize nmA O = A at *
  generalize nmB O = B at *
  generalize nmC O = C at *
  generalize nmN O = N at *
  cases A <;> cases B <;> cases C <;> simp at a1 a2 <;> cases D <;> cases N <;> simp [fAt]
theorem fld_ok {i : Ins} (h : okIns i) : ∀ o ∈ fldO i, 1 ≤ o ∧ o ≤ 5 ∧ 0 ≤ fAt i o ∧ fAt i o < 9223372036854775808 := by
  obtain ⟨h1, h2, ⟨d1, d2, -⟩, ⟨b1, b2, -⟩, ⟨c1, c2, -⟩, ⟨e1, e2, -⟩, ⟨n1, n2, -⟩, -⟩ := h
  obtain ⟨O, hO⟩ : ∃ O : Nat, i.op = (O : Int) := ⟨i.op.toNat, by omega⟩
  intro o ho
  rw [fld_O O hO] at ho
  have hm : o = 1 ∨ o = 2 ∨ o = 3 ∨ o = 4 ∨ o = 5 := by
    rcases List.mem_append.1 ho with ho | ho
    · rcases List.mem_append.1 ho with ho | ho
      · split at ho <;> simp at ho; omega
      · have := List.mem_of_mem_take ho
        simp at this
        omega
    · split at ho <;> simp at ho; omega
  rcases hm with rfl | rfl | rfl | rfl | rfl <;> simp [fAt] <;> omega
theorem fld_len (i : Ins) : (fldO i).length ≤ 5 := by
  unfold fldO
  rw [List.length_append, List.length_append, List.length_take]
  have h1 : (if (rowP i.op).d != 0 then [1] else [] : List Nat).length ≤ 1 := by split <;> simp
  have h2 : (if nmN i.op.toNat = true then [5] else [] : List Nat).length ≤ 1 := by split <;> simp
  have h3 : min (readsP i (rowP i.op)).length ([2, 3, 4] : List Nat).length ≤ 3 := Nat.min_le_right _ _
  omega

set_option maxRecDepth 100000 in
set_option maxHeartbeats 16000000 in
theorem wins_any (E WB : Nat) (l : List Nat) (v : Value) (w : World) (h : WrM E WB l v w) (i : Ins) (hi : okIns i) (hl : l.length + 100 ≤ 100000000) :
    Calls Tryz.prog 47 #[.pointer (some ⟨WB, 0, none⟩), .agg #[.int .i64 i.op, .int .i64 i.d, .int .i64 i.a, .int .i64 i.b, .int .i64 i.c, .int .i64 i.n, .int .u32 i.bits]] w fun e w' => e = .returned (.tuple #[]) ∧ Below E w w' ∧ ∃ v', WrM E WB (l ++ eIns i) v' w' ∧ WrO WB v w v' w' := by
  have hEI := eIns_fld hi.1 hi.2.1
  have hFO := fld_ok hi
  have hFL := fld_len i
  have KF : Hid (∀ (X : Nat) (u : World), CellsAt u X 0 (inC i) → Calls Tryz.prog 81 #[.pointer (some ⟨X, 0, none⟩)] u fun e w' => ∃ q d, e = .returned (.slice q (fldO i).length d) ∧ w'.ownsRow u.heap.size 154 1 (.slice q (fldO i).length d) (fldO i).length (ptrN X (fldO i)) ∧ Below u.heap.size u w') := fun X u a => fields_any X i hi.1 hi.2.1 u a
  obtain ⟨F, hF⟩ : ∃ F, fldO i = F := ⟨_, rfl⟩
  obtain ⟨EI, hEN⟩ : ∃ z, eIns i = z := ⟨_, rfl⟩
  obtain ⟨f, hf⟩ : ∃ f, fAt i = f := ⟨_, rfl⟩
  simp only [hF, hEN, hf] at KF hEI hFO hFL ⊢
  have hC : ∀ (u : World) (X : Nat), CellsAt u X 0 (inC i) → ∀ o, 1 ≤ o → o ≤ 5 → u.cell? ⟨X, o, none⟩ = some (.int .i64 (f o)) := fun u X hc o h1 h2 => by
    rw [← hf]
    rcases (show o = 1 ∨ o = 2 ∨ o = 3 ∨ o = 4 ∨ o = 5 by omega) with rfl | rfl | rfl | rfl | rfl
    · have := hc.at 1 (v := .int .i64 i.d) rfl; simpa [fAt] using this
    · have := hc.at 2 (v := .int .i64 i.a) rfl; simpa [fAt] using this
    · have := hc.at 3 (v := .int .i64 i.b) rfl; simpa [fAt] using this
    · have := hc.at 4 (v := .int .i64 i.c) rfl; simpa [fAt] using this
    · have := hc.at 5 (v := .int .i64 i.n) rfl; simpa [fAt] using this
  obtain ⟨op, d, a, b, c, n, z⟩ := i
  obtain ⟨h1, h2, -, -, -, -, -, z1, z2, z3⟩ := hi
  simp only at h1 h2 z1 z2 z3 hEI ⊢
  obtain ⟨O, hO⟩ : ∃ O : Nat, op = (O : Int) := ⟨op.toNat, by omega⟩
  obtain ⟨Z, hZ⟩ : ∃ O : Nat, z = (O : Int) := ⟨z.toNat, by omega⟩
  subst hO hZ
  simp only [Int.toNat_natCast] at hEI z3
  have HC := hidC hC
  obtain ⟨V, hV⟩ : ∃ V, w.alloc (.cells #[.int .i64 (O : Int), .int .i64 d, .int .i64 a, .int .i64 b, .int .i64 c, .int .i64 n, .int .u32 (Z : Int)] 70) = V := ⟨_, rfl⟩
  have hb0 : Below w.heap.size w V := by rw [← hV]; exact bel_alloc _ _
  have hs0 : V.heap.size = w.heap.size + 1 := by rw [← hV]; simp
  obtain ⟨X, hX⟩ : ∃ X, w.heap.size = X := ⟨_, rfl⟩
  have hcV : ∀ k x, (inC ⟨(O : Int), d, a, b, c, n, (Z : Int)⟩)[k]? = some x → V.cell? ⟨X, k, none⟩ = some x := fun k x hx => by
    rw [← hV, ← hX]
    have hk : k < 7 := (List.getElem?_eq_some_iff.1 hx).1
    rcases (show k = 0 ∨ k = 1 ∨ k = 2 ∨ k = 3 ∨ k = 4 ∨ k = 5 ∨ k = 6 by omega) with rfl | rfl | rfl | rfl | rfl | rfl | rfl <;> simp [inC] at hx <;> subst hx <;> simp [go_sem]
  have HXC : Hid (∀ u : World, u.heap[X]? = V.heap[X]? → CellsAt u X 0 (inC ⟨(O : Int), d, a, b, c, n, (Z : Int)⟩)) := fun u hu => by
    intro k hk
    rw [Nat.zero_add]
    exact (World.cell?_of_block hu (a := ⟨X, k, none⟩)).trans (hcV k _ (List.getElem?_eq_getElem hk))
  have x0 : V.cell? ⟨X, 0, none⟩ = some (.int .i64 (O : Int)) := hcV 0 _ rfl
  have HX0 : Hid (∀ u : World, u.heap[X]? = V.heap[X]? → u.cell? ⟨X, 0, none⟩ = some (.int .i64 (O : Int)) ∧ u.cell? ⟨X, 6, none⟩ = some (.int .u32 (Z : Int))) := fun u hu => ⟨(World.cell?_of_block hu (a := ⟨X, 0, none⟩)).trans (hcV 0 _ rfl), (World.cell?_of_block hu (a := ⟨X, 6, none⟩)).trans (hcV 6 _ rfl)⟩
  have h0 := h.below hb0
  have HXN : Hid (X < V.heap.size ∧ X ≠ WB ∧ v.ownBlock ≠ some X) := ⟨by omega, by have := h.b.lt; omega, fun e => by have := (h.o.lt _ e).2; omega⟩
  have KS := hidC (wsmall_any E WB l v V h0 (by omega) O (by omega))
  have KN := hidC (fun (m : List Nat) (v : Value) (u : World) (a : WrM E WB m v u) (n : Nat) (hn : n < 9223372036854775808) (b : m.length + 9 ≤ 100000000) => wnumber_any E WB m v u a n hn (by have := numB_nine hn; omega))
  have KX : Hid (∀ (m : List Nat) (v : Value) (u : World), WrM E WB m v u → m.length + 4 ≤ 100000000 → Calls Tryz.prog 18 #[.pointer (some ⟨WB, 0, none⟩), .int .u64 (Z : Int), .int .i64 4] u fun e w' => e = .returned (.tuple #[]) ∧ Below E u w' ∧ ∃ v', WrM E WB (m ++ lowB 4 Z) v' w' ∧ WrO WB v u v' w') := fun m v u a b => wfixed_any E WB m v u a Z (by omega) 4 (by omega) b
  have HBE : Hid (Below E w V) := hb0.mono h.le
  have HOV : Hid (∀ v' w', WrO WB v V v' w' → WrO WB v w v' w') := fun v' w' q => WrO.below h hb0 q
  have wZ : IntKind.u64.wrap (Z : Int) = (Z : Int) := by unfold IntKind.wrap; simp [IntKind.signed, IntKind.bits]; omega
  have HFO := hidC hFO
  obtain ⟨N, hN⟩ : ∃ N, F.length = N := ⟨_, rfl⟩
  have HFN := hidC hN
  have HN5 : Hid (N ≤ 5) := by show N ≤ 5; omega
  obtain ⟨g, hg⟩ : ∃ g, (fun o => numB (f o).toNat) = g := ⟨_, rfl⟩
  have HG : Hid (∀ o, g o = numB (f o).toNat) := fun o => by rw [← hg]
  have HLN : Hid (∀ k, ((l ++ [O]) ++ (F.take k).flatMap g).length + 20 ≤ 100000000) := fun k => by
    have h1 := flat_len_le (e := g) (m := 9) (F.take k) (fun x hx => by rw [HG.out]; exact numB_nine (by have := HFO.out x (List.mem_of_mem_take hx); omega))
    rw [List.length_take] at h1
    rw [List.length_append, List.length_append, List.length_singleton]
    have h2 : min k F.length ≤ 5 := by omega
    omega
  have HFM := hidC (fun (k : Nat) (hk : k < F.length) => flat_more g hk)
  rw [hg] at hEI
  have HEI := hidC hEI
  have HO37 : Hid (O ≤ 37) := by show O ≤ 37; omega
  simp only [hN] at KF
  clear h h0 hb0 hs0 z1 z2 z3 hl hC hcV hEI hFO hg hF hEN hf hN hFL h1 h2
  go_enter Tryz.func47, Tryz.ntmps47
  go_upto_region 1 with fail
  try rw [hV]
  try rw [hX]
  clear hV hX
  go_upto_region 2 with (go_at_call 80; (with_reducible refine KS.out.mono ?_); rintro e9 w4 ⟨rfl, hb4, v4, hm4, ho4⟩; have HB4 := hidC hb4; have HM4 := hidC hm4; have HO4 := hidC ho4; clear hb4 hm4 ho4)
  obtain ⟨hX4, hv4⟩ := HO4.out.2 X HXN.out.1 HXN.out.2.1 HXN.out.2.2
  have KF4 := hidC (KF.out X w4 (HXC.out w4 hX4))
  have HX4 := hidC (And.intro hX4 hv4)
  have HXL : Hid (X < w4.heap.size) := Nat.lt_of_lt_of_le HXN.out.1 HO4.out.1
  clear x0 hX4 hv4 KS KF
  go_upto_block 0 with (go_at_call 81; (with_reducible refine KF4.out.mono ?_); rintro e9 w5 ⟨q, dd, rfl, ho5, hb5⟩; have HB5 := hidC hb5; have HF5 := hidC ho5; clear hb5 ho5)
  have HM5 := hidC (HM4.out.below HB5.out)
  have HX5 : Hid (w5.heap[X]? = V.heap[X]?) := (HB5.out.block X HXL.out).trans HX4.out.1
  have HXL5 : Hid (X < w5.heap.size) := Nat.lt_of_lt_of_le HXL.out HB5.out.size
  have HPC : Hid (∀ (u : World) (v' : Value), WrO WB v4 w5 v' u → ∀ k (hk : k < F.length), ∃ gb, q = some ⟨gb, 0, none⟩ ∧ u.cell? ⟨gb, k, none⟩ = some (.pointer (some ⟨X, F[k], none⟩))) := fun u v' ho k hk => by
    have hF5 := HF5.out
    rcases hF5.2 with ⟨e1, e2⟩ | ⟨gb, cap, cur, e1, -, -⟩
    · exact absurd e2 (by have := HFN.out; omega)
    · simp only [Value.slice.injEq] at e1
      have hq : q = some ⟨gb, 0, none⟩ := e1.1
      have hob : (Value.slice q N dd).ownBlock = some gb := by rw [hq]; rfl
      have hlt := hF5.lt gb hob
      have hc := hF5.cells hob k (.pointer (some ⟨X, F[k], none⟩)) (by simp [ptrN, hk])
      have hadd : (⟨gb, 0, none⟩ : Addr).add k = ⟨gb, k, none⟩ := by unfold Addr.add; split <;> simp_all
      rw [hadd] at hc
      have hfr := (ho.2 gb hlt.2 (fun e => by have := HM4.out.b.lt; omega) (fun e => by have := (HM4.out.o.lt gb e).2; omega)).1
      exact ⟨gb, hq, (World.cell?_of_block hfr (a := ⟨gb, k, none⟩)).trans hc⟩
  have HXF : Hid (∀ (u : World) (v' : Value), WrO WB v4 w5 v' u → u.heap[X]? = V.heap[X]?) := fun u v' ho => (ho.2 X HXL5.out HXN.out.2.1 HX4.out.2).1.trans HX5.out
  have HJ0 : Hid (Below E w5 w5 ∧ ∃ v', WrM E WB ((l ++ [O]) ++ (F.take 0).flatMap g) v' w5 ∧ WrO WB v4 w5 v' w5) := ⟨Below.refl _ _, v4, (by rw [List.take_zero, List.flatMap_nil, List.append_nil]; exact HM5.out), WrO.refl _ _ _⟩
  have HB05 : Hid (Below E w w5) := (HBE.out.trans HB4.out).trans (HB5.out.mono HM4.out.le)
  have HO05 : Hid (∀ v' w', WrO WB v4 w5 v' w' → WrO WB v w v' w') := fun v' w' z => HOV.out _ _ (HO4.out.trans (WrO.below HM4.out HB5.out z))
  clear HF5 HM5 HX5 HXL5 HBE HB4 HB5 HOV HO4 HM4 HX4 HXL HXN KF4
  go_wp2_with fail
  go_loopw [12] (fun iv wx => ∃ k : Nat, k ≤ N ∧ iv = .int .i64 (k : Int) ∧ Hid (Below E w5 wx ∧ ∃ v', WrM E WB ((l ++ [O]) ++ (F.take k).flatMap g) v' wx ∧ WrO WB v4 w5 v' wx)) (fun iv _ => N - (intOf iv).toNat)
  case atStart => exact ⟨0, Nat.zero_le _, rfl, HJ0.out⟩
  case round =>
    clear HJ0
    obtain ⟨k, hk, rfl, HJ⟩ := hrel
    by_cases hlt : k < N
    · have hkl : k < F.length := by have := HFN.out; omega
      obtain ⟨hb, v2, hm, ho⟩ := HJ.out
      obtain ⟨gb, rfl, pc⟩ := HPC.out wr v2 ho k hkl
      have hok := HFO.out F[k] (List.getElem_mem hkl)
      have hfm := HFM.out k hkl
      have pv := HC.out wr X (HXC.out wr (HXF.out wr v2 ho)) F[k] hok.1 hok.2.1
      obtain ⟨o, hoe⟩ : ∃ o, F[k] = o := ⟨_, rfl⟩
      rw [hoe] at pc hok hfm pv
      obtain ⟨m, hmm⟩ : ∃ m : Nat, f o = (m : Int) := ⟨(f o).toNat, by omega⟩
      rw [HG.out] at hfm
      rw [hmm] at pv hok hfm
      rw [Int.toNat_natCast] at hfm
      have KN4 := hidC (KN.out _ v2 wr hm m (by omega) (by have := HLN.out k; omega))
      have HFM' := hidC hfm
      have HBV := hidC hb
      have HOV := hidC ho
      have i1 : (0 : Int) ≤ (k : Int) := by omega
      have i2 : (k : Int) < (N : Int) := by omega
      have wi : IntKind.i64.wrap ((k : Int) + 1) = ((k + 1 : Nat) : Int) := by have := HN5.out; rw [IntKind.wrap_i64]; omega
      clear hb hm ho hok hfm hoe hmm HJ
      go_wp2_with (go_at_call 79; (with_reducible refine KN4.out.mono ?_); rintro e9 w6 ⟨rfl, hb6, v6, hm6, ho6⟩; have HQ : Hid (Below E w5 w6 ∧ ∃ v', WrM E WB ((l ++ [O]) ++ (F.take (k + 1)).flatMap g) v' w6 ∧ WrO WB v4 w5 v' w6) := ⟨HBV.out.trans hb6, v6, (by rw [HFM'.out, ← List.append_assoc]; exact hm6), HOV.out.trans ho6⟩; clear hb6 hm6 ho6)
      go_roundw
      case rel => exact ⟨k + 1, by omega, by go_num, HQ.out⟩
      case measure => simp [intOf]; omega
    · have e1 : ¬ (k : Int) < (N : Int) := by omega
      have hall : F.take k = F := List.take_of_length_le (by have := HFN.out; omega)
      obtain ⟨hb, v2, hm, ho⟩ := HJ.out
      have hln := HLN.out k
      rw [hall] at hm hln
      obtain ⟨y0, y6⟩ := HX0.out wr (HXF.out wr v2 ho)
      have HBV := hidC hb
      have HMV := hidC hm
      have HOV := hidC ho
      have HLL := hidC hln
      clear hlt hall HJ hb hm ho hln
      by_cases q1 : O = 1
      · have q3 : ((O : Int) == 1) = true := by simp; omega
        have HT : Hid (l ++ EI = ((l ++ [O]) ++ F.flatMap g) ++ lowB 4 Z) := by
          show _ = _
          rw [HEI.out]
          unfold eBit
          rw [if_pos q1, Int.toNat_natCast]
          simp
        have KX4 := hidC (KX.out _ _ _ HMV.out (by have := HLL.out; omega))
        clear q1
        go_wp2_with (go_at_call 18; (with_reducible refine KX4.out.mono ?_); rintro e9 w6 ⟨rfl, hb6, v6, hm6, ho6⟩; have HB6 := hidC hb6; have HM6 := hidC hm6; have HO6 := hidC ho6; clear hb6 hm6 ho6)
        first | go_end0 | refine bodyPost_ret (results_none rfl _ _ _) rfl ?_ | (simp only [Exit.inBlock, Exit.then]; refine bodyPost_ret (results_none rfl _ _ _) rfl ?_)
        refine ⟨rfl, (HB05.out.trans HBV.out).trans HB6.out, v6, ?_, HO05.out _ _ (HOV.out.trans HO6.out)⟩
        rw [HT.out]
        exact HM6.out
      · have q3 : ((O : Int) == 1) = false := by simp; omega
        have HT : Hid (l ++ EI = (l ++ [O]) ++ F.flatMap g) := by
          show _ = _
          rw [HEI.out]
          unfold eBit
          rw [if_neg q1]
          simp
        clear q1
        go_wp2
        first | go_end0 | refine bodyPost_ret (results_none rfl _ _ _) rfl ?_ | (simp only [Exit.inBlock, Exit.then]; refine bodyPost_ret (results_none rfl _ _ _) rfl ?_)
        refine ⟨rfl, HB05.out.trans HBV.out, v2, ?_, HO05.out _ _ HOV.out⟩
        rw [HT.out]
        exact HMV.out

end Go.Proofs.YtnlgkkbmbijndaaGreat
/- Layer 24, plainly: what is read, field by field, element by element, as the program reads it. No program in it. -/
namespace Go.Proofs.YtnlgkkbmbijndaaGreat
set_option linter.unusedVariables false
set_option linter.unusedSimpArgs false

theorem pBind_assoc {α β γ : Type} (q : Pz α) (f : α → Pz β) (g : β → Pz γ) : pBind (pBind q f) g = pBind q fun x => pBind (f x) g := by
  funext l p
  unfold pBind
  cases q l p with
  | error e => rfl
  | ok r => obtain ⟨x, l', p'⟩ := r; rfl
theorem pBind_pure {α β : Type} (x : α) (f : α → Pz β) : pBind (pPure x) f = f x := rfl
theorem pBind_pureR {α : Type} (q : Pz α) : (pBind q fun x => pPure x) = q := by
  funext l p
  unfold pBind pPure
  cases q l p with
  | error e => rfl
  | ok r => obtain ⟨x, l', p'⟩ := r; rfl
theorem pBind_err {α β : Type} {q : Pz α} {f : α → Pz β} {l : List Nat} {p : Nat} {e : Int × Nat} (h : q l p = .error e) : pBind q f l p = .error e := by unfold pBind; rw [h]
theorem pBind_at {α β : Type} {q : Pz α} {f : α → Pz β} {l l' : List Nat} {p p' : Nat} {x : α} (h : q l p = .ok (x, l', p')) : pBind q f l p = f x l' p' := by unfold pBind; rw [h]
/-- An instruction with a field set. -/
def setF (i : Ins) (o : Nat) (v : Int) : Ins := if o = 1 then { i with d := v } else if o = 2 then { i with a := v } else if o = 3 then { i with b := v } else if o = 4 then { i with c := v } else { i with n := v }
def pFs : List Nat → Ins → Pz Ins
  | [], i => pPure i
  | o :: os, i => pBind pNum fun n => pFs os (setF i o (n : Int))
def ins0 (op : Nat) : Ins := ⟨(op : Int), 0, 0, 0, 0, 0, 0⟩
theorem pIns_fs : ∀ op : Nat, 1 ≤ op → op ≤ 37 → (pBind (pFld (nmD op)) fun d => pBind (pFld (nmA op)) fun a => pBind (pFld (nmB op)) fun b => pBind (pFld (nmC op)) fun c => pBind (pFld (nmN op)) fun n => pBind (pBit op) fun z => pPure (⟨(op : Int), d, a, b, c, n, z⟩ : Ins)) = pBind (pFs (fldO (ins0 op)) (ins0 op)) fun i => pBind (pBit op) fun z => pPure { i with bits := z } := fun op h1 h2 => by
  obtain ⟨a1, a2⟩ := nm_rows op (by omega) (by omega)
  rw [fld_O (i := ins0 op) op rfl]
  generalize nmD op = D at *
  generalize nmA op = A at *
  generalize nmB op = B at *
  generalize nmC op = C at *
  generalize nmN op = N at *
  cases A <;> cases B <;> cases C <;> simp at a1 a2 <;> cases D <;> cases N <;> simp [pFld, pFs, pBind_assoc, pBind_pure, setF, ins0]
theorem pIns_eq (l : List Nat) (p : Nat) : pIns l p = pBind (pByte 1 37) (fun op => pBind (pFs (fldO (ins0 op)) (ins0 op)) fun i => pBind (pBit op) fun z => pPure { i with bits := z }) l p := by
  unfold pIns
  cases hq : pByte 1 37 l p with
  | error e => rw [pBind_err hq, pBind_err hq]
  | ok r =>
    obtain ⟨op, l', p'⟩ := r
    have hk : 1 ≤ op ∧ op ≤ 37 := by
      cases l with
      | nil => cases hq
      | cons a l =>
        unfold pByte at hq
        simp only at hq
        split at hq
        · cases hq
        · simp only [Except.ok.injEq, Prod.mk.injEq] at hq
          omega
    rw [pBind_at hq, pBind_at hq, pIns_fs op hk.1 hk.2]
theorem setF_op (i : Ins) (o : Nat) (v : Int) : (setF i o v).op = i.op := by
  unfold setF
  repeat' split
  all_goals rfl
theorem setF_bits (i : Ins) (o : Nat) (v : Int) : (setF i o v).bits = i.bits := by
  unfold setF
  repeat' split
  all_goals rfl
/-- So many, behind those that were read. -/
def pMore {α : Type} (q : Pz α) (n : Nat) (ys : List α) : Pz (List α) := pBind (pRep q n) fun xs => pPure (ys ++ xs)
theorem pMore_start {α : Type} (q : Pz α) (n : Nat) : pMore q n [] = pRep q n := by
  unfold pMore
  simp only [List.nil_append]
  exact pBind_pureR _
theorem pMore_end {α : Type} (q : Pz α) (ys : List α) : pMore q 0 ys = pPure ys := by
  unfold pMore pRep
  rw [pBind_pure, List.append_nil]
theorem pMore_step {α : Type} (q : Pz α) (n : Nat) (ys : List α) : pMore q (n + 1) ys = pBind q fun x => pMore q n (ys ++ [x]) := by
  unfold pMore
  rw [pRep, pBind_assoc]
  congr 1
  funext x
  rw [pBind_assoc]
  congr 1
  funext xs
  rw [pBind_pure, List.append_assoc]
  rfl
/-- The mark. -/
def pMark : Pz Unit := fun l p => if l.take (min l.length 4) ≠ mkN.take (min l.length 4) then .error (240, 0) else if l.length < 4 then .error (242, 0) else .ok ((), l.drop 4, 4)
/-- The fingerprint, and nothing behind it. -/
def pEnd (s : List Nat) : Pz Unit := fun l p => if l.length < 8 then .error (242, p) else if lowN (l.take 8) ≠ crP (s.take p) then .error (241, p) else if 8 < l.length then .error (244, p + 8) else .ok ((), l.drop 8, p + 8)
def pAll : Pz Cd := pBind pMark fun _ => pCode
theorem decN_eq (s : List Nat) : decN s = match pBind pAll (fun c => pBind (pEnd s) fun _ => pPure c) s 0 with
    | .error e => .error e
    | .ok (c, _, _) => if (checkC c).1 ≠ 0 then .error ((checkC c).1, 0) else .ok c := by
  unfold decN pAll pMark
  by_cases h1 : s.take (min s.length 4) ≠ mkN.take (min s.length 4)
  · rw [if_pos h1, pBind_err (e := (240, 0)) (pBind_err (by rw [if_pos h1]))]
  · rw [if_neg h1]
    by_cases h2 : s.length < 4
    · rw [if_pos h2, pBind_err (e := (242, 0)) (pBind_err (by rw [if_neg h1, if_pos h2]))]
    · rw [if_neg h2, pBind_assoc, pBind_at (x := ()) (l' := s.drop 4) (p' := 4) (by rw [if_neg h1, if_neg h2])]
      cases hq : pCode (s.drop 4) 4 with
      | error e => rw [pBind_err hq]
      | ok r =>
        obtain ⟨c, l, p⟩ := r
        rw [pBind_at hq]
        simp only
        unfold pEnd
        by_cases h3 : l.length < 8
        · rw [if_pos h3, pBind_err (e := (242, p)) (by rw [if_pos h3])]
        · rw [if_neg h3]
          by_cases h4 : lowN (l.take 8) ≠ crP (s.take p)
          · rw [if_pos h4, pBind_err (e := (241, p)) (by rw [if_neg h3, if_pos h4])]
          · rw [if_neg h4]
            by_cases h5 : 8 < l.length
            · rw [if_pos h5, pBind_err (e := (244, p + 8)) (by rw [if_neg h3, if_neg h4, if_pos h5])]
            · rw [if_neg h5, pBind_at (x := ()) (l' := l.drop 8) (p' := p + 8) (by rw [if_neg h3, if_neg h4, if_neg h5])]
              rfl

end Go.Proofs.YtnlgkkbmbijndaaGreat
/- Package code: the reader: typed. -/
namespace Go.Proofs.YtnlgkkbmbijndaaGreat
open Go.RowKit
set_option linter.unusedVariables false
set_option linter.unusedSimpArgs false

theorem pByte_in {lo hi : Nat} {l : List Nat} {p b p' : Nat} {l' : List Nat} (h : pByte lo hi l p = .ok (b, l', p')) : lo ≤ b ∧ b ≤ hi := by
  cases l with
  | nil => cases h
  | cons a l =>
    unfold pByte at h
    simp only at h
    split at h
    · cases h
    · simp only [Except.ok.injEq, Prod.mk.injEq] at h
      omega
/-- What has become of a world in which a reader goes on: what was there stays, and the reader is at A. -/
def Rds (E RB : Nat) (s : ByteArray) (A : Nat) (w v : World) : Prop := Below E w v ∧ RdO RB w v ∧ RdM E RB s A v
theorem Rds.start {E RB : Nat} {s : ByteArray} {A : Nat} {w : World} (h : RdM E RB s A w) : Rds E RB s A w w := ⟨Below.refl _ _, RdO.refl _ _, h⟩
theorem Rds.next {E RB : Nat} {s : ByteArray} {A A' : Nat} {w v v' : World} (h : Rds E RB s A w v) (a : Below E v v') (b : RdO RB v v') (c : RdM E RB s A' v') : Rds E RB s A' w v' := ⟨h.1.trans a, h.2.1.trans b, c⟩
theorem Rds.below {E RB : Nat} {s : ByteArray} {A : Nat} {w v v' : World} (h : Rds E RB s A w v) (hE : E ≤ w.heap.size) (k : Below v.heap.size v v') : Rds E RB s A w v' := ⟨h.1.trans (k.mono (Nat.le_trans hE h.2.1.1)), h.2.1.trans (RdO.of k), h.2.2.below k⟩
theorem Rds.set {E RB : Nat} {s : ByteArray} {A : Nat} {w v : World} (h : Rds E RB s A w v) (hE : E ≤ w.heap.size) (hR : RB < w.heap.size) {Y : Nat} (hY : w.heap.size ≤ Y) (o : Nat) (x : Value) : Rds E RB s A w (v.setCell ⟨Y, o, none⟩ x) :=
  ⟨h.1.setCell (Nat.le_trans hE hY) _, ⟨by simpa using h.2.1.1, fun b hb hne => (Below.heap_setCell _ _ _ _ (by show b ≠ Y; omega)).trans (h.2.1.2 b hb hne)⟩, ⟨h.2.2.b.of_block (Below.heap_setCell _ _ _ _ (by show RB ≠ Y; omega)), h.2.2.ge⟩⟩
theorem Rds.fin {α : Type} {E RB : Nat} {s : ByteArray} {A : Nat} {w v : World} (h : Rds E RB s A w v) {val : α → Value} {x : α} {l : List Nat} (hA : A ≤ s.size) (hl : l = (bytN s).drop A) : RdT E RB s w val (.ok (x, l, A)) (.returned (val x)) v := ⟨rfl, h.1, h.2.1, h.2.2, hA, hl⟩
theorem Rds.bad {α : Type} {E RB : Nat} {s : ByteArray} {A : Nat} {w v v' : World} (h : Rds E RB s A w v) (val : α → Value) (er : Int) (at_ : Nat) (a : Below E v v') (b : RdO RB v v') : RdT E RB s w val (.error (er, at_)) (flt er at_) v' := ⟨rfl, h.1.trans a, h.2.1.trans b⟩
/-- A box that the reader makes: its cells, in whatever world that leaves its block. -/
theorem rdo_row {RB X : Nat} {w w' : World} {t : TypeId} {n : Nat} {f : Nat → Value} (h : RdO RB w w') (hr : w.rowIs X t n f) (hX : X ≠ RB) : w'.rowIs X t n f := hr.of_block (h.2 X hr.lt hX)

set_option maxRecDepth 100000 in
set_option maxHeartbeats 8000000 in
theorem typed_any (E RB : Nat) (s : ByteArray) (A : Nat) (w : World) (h : RdM E RB s A w) (hA : A ≤ s.size) (hs : s.size ≤ 140737488355328) (hE : E ≤ w.heap.size) :
    Calls Tryz.prog 53 #[.pointer (some ⟨RB, 0, none⟩)] w (RdT E RB s w tyV (pTy ((bytN s).drop A) A)) := by
  obtain ⟨W0, hW0⟩ : ∃ W, w.alloc (.cells #[.int .i64 0, .int .i64 0] 62) = W := ⟨_, rfl⟩
  have hb0 : Below w.heap.size w W0 := by rw [← hW0]; exact bel_alloc _ _
  have h0 := h.below hb0
  have hE0 : E ≤ W0.heap.size := Nat.le_trans hE hb0.size
  obtain ⟨X, hX⟩ : ∃ X, w.heap.size = X := ⟨_, rfl⟩
  have hXR : X ≠ RB := by have := h.b.lt; omega
  have hr0 : W0.rowIs X 62 2 (fun _ => .int .i64 0) := by
    rw [← hW0, ← hX]
    exact World.rowIs_alloc w #[.int .i64 0, .int .i64 0] 62 _ (fun i hi => by
      rcases (show i = 0 ∨ i = 1 by have : i < 2 := hi; omega) with rfl | rfl <;> rfl)
  have KS : Calls Tryz.prog 85 #[.pointer (some ⟨RB, 0, none⟩), .int .i64 1, .int .i64 3] W0 (RdT E RB s W0 (fun (b : Nat) => .int .i64 (b : Int)) (pByte 1 3 ((bytN s).drop A) A)) := small_any E RB s A 1 3 W0 h0 hA hs hE0
  obtain ⟨R, hR⟩ : ∃ R, pTy ((bytN s).drop A) A = R := ⟨_, rfl⟩
  rw [hR]
  cases hq : pByte 1 3 ((bytN s).drop A) A with
  | error er =>
    obtain ⟨er, at_⟩ := er
    have HP : R = .error (er, at_) := by rw [← hR]; unfold pTy; simp only [pBind, hq]
    rw [HP]
    rw [hq] at KS
    have KS' := hidC KS
    have HB0 := hidC (hb0.mono hE)
    have HO0 := hidC (RdO.of (RB := RB) hb0)
    unfold RdT flt at KS' ⊢
    simp only at KS' ⊢
    clear h h0 hb0 hr0 KS hq HP hR hX hXR hE0
    go_enter Tryz.func53, Tryz.ntmps53
    go_upto_region 1 with fail
    try rw [hW0]
    clear hW0
    go_wp2_with (go_at_call 85; (with_reducible refine KS'.out.mono ?_); rintro e9 w4 ⟨rfl, hb4, ho4⟩; have HB4 := hidC hb4; have HO4 := hidC ho4; clear hb4 ho4)
    exact ⟨rfl, rfl, HB0.out.trans HB4.out, HO0.out.trans HO4.out⟩
  | ok r =>
    obtain ⟨k, l', A1⟩ := r
    have hk := pByte_in hq
    rw [hq] at KS
    have KS' := hidC KS
    unfold RdT at KS'
    simp only at KS'
    have HB0 := hidC (hb0.mono hE)
    have HO0 := hidC (RdO.of (RB := RB) hb0)
    have HR0 := hidC hr0
    have HRB := hidC h.b.lt
    have HRS := hidC ((Rds.start h).below hE hb0)
    have HX : Hid (w.heap.size ≤ X) := Nat.le_of_eq hX
    clear h h0 hb0 hr0 KS hE0
    go_enter Tryz.func53, Tryz.ntmps53
    go_upto_region 1 with fail
    try rw [hW0]
    try rw [hX]
    clear hW0 hX
    go_upto_region 2 with (go_at_call 85; (with_reducible refine KS'.out.mono ?_); rintro e9 w4 ⟨rfl, hb4, ho4, hm4, hl4, hd4⟩; have HB4 := hidC hb4; have HO4 := hidC ho4; have HM4 := hidC hm4; have HD4 := hidC hd4; have HL4 := hidC hl4; clear hb4 ho4 hm4 hl4 hd4)
    obtain ⟨Y, hY⟩ : ∃ Y, w4.heap.size = Y := ⟨_, rfl⟩
    obtain ⟨V, hV⟩ : ∃ V, w4.alloc (.cells #[.int .i64 (k : Int), .int .i64 0] 62) = V := ⟨_, rfl⟩
    have hbV : Below w4.heap.size w4 V := by rw [← hV]; exact bel_alloc _ _
    have r4 : w4.rowIs X 62 2 (fun _ => .int .i64 0) := rdo_row HO4.out HR0.out hXR
    have rx : V.rowIs X 62 2 (fun _ => .int .i64 0) := r4.of_block (hbV.block _ r4.lt)
    have ry : V.rowIs Y 62 2 (fun j => if j = 0 then .int .i64 (k : Int) else .int .i64 0) := by
      rw [← hV, ← hY]
      exact World.rowIs_alloc w4 #[.int .i64 (k : Int), .int .i64 0] 62 _ (fun i hi => by
        rcases (show i = 0 ∨ i = 1 by have : i < 2 := hi; omega) with rfl | rfl <;> rfl)
    have hXY : X ≠ Y := by have := r4.lt; omega
    have hYR : Y ≠ RB := by have := HM4.out.b.lt; omega
    have hXw := HX.out
    have hwY : w.heap.size ≤ Y := by have := r4.lt; omega
    have hRB := HRB.out
    have D1 : Rds E RB s A1 w V := ((HRS.out.next HB4.out HO4.out HM4.out).below hE hbV)
    have y0 : V.cell? ⟨Y, 0, none⟩ = some (.int .i64 (k : Int)) := ry.cell (i := 0) (by decide)
    have y1 : V.cell? ⟨Y, 1, none⟩ = some (.int .i64 0) := ry.cell (i := 1) (by decide)
    try rw [hV]
    try rw [hY]
    clear hV hY hbV
    by_cases q : k = 3
    · subst q
      have KM := number_any E RB s A1 V D1.2.2 HL4.out hs (Nat.le_trans hE D1.2.1.1)
      have HPB : ∀ r, (pBind pNum fun n => pPure (⟨3, (n : Int)⟩ : Ty)) ((bytN s).drop A1) A1 = r → R = r := fun r e => by
        unfold pTy at hR
        rw [← hR, pBind_assoc, pBind_at hq, HD4.out, decide_eq_true rfl, ← e]
        show pBind (pBind (pBind pNum fun n => pPure (n : Int)) fun v => pPure (3, v)) (fun (z : Nat × Int) => pPure (⟨(z.1 : Int), z.2⟩ : Ty)) _ _ = _
        simp only [pBind_assoc, pBind_pure]
        rfl
      cases hq2 : pNum ((bytN s).drop A1) A1 with
      | error er =>
        obtain ⟨er, at_⟩ := er
        have HP := hidC (HPB _ (pBind_err hq2))
        rw [hq2] at KM
        have KM' := hidC KM
        unfold RdT flt at KM'
        simp only at KM'
        have HG : Hid (∀ w', Below E V w' → RdO RB V w' → RdT E RB s w tyV R (flt er at_) w') := fun w' a b => by rw [HP.out]; exact D1.bad tyV er at_ a b
        unfold flt at HG
        clear D1 HB0 HO0 HR0 HB4 HO4 HM4 KM hq2 HPB HP
        go_wp2_with (go_at_call 87; (with_reducible refine KM'.out.mono ?_); rintro e9 w5 ⟨rfl, hb5, ho5⟩; have HR5 := hidC (HG.out _ hb5 ho5); clear hb5 ho5)
        exact ⟨rfl, HR5.out⟩
      | ok r =>
        obtain ⟨n, l2, A2⟩ := r
        have HP := hidC (HPB _ (pBind_at hq2))
        rw [hq2] at KM
        have KM' := hidC KM
        unfold RdT at KM'
        simp only at KM'
        have HG : Hid (∀ w', Below E V w' → RdO RB V w' → RdM E RB s A2 w' → Rds E RB s A2 w w' ∧ w'.rowIs X 62 2 (fun _ => .int .i64 0) ∧ w'.rowIs Y 62 2 (fun j => if j = 0 then .int .i64 ((3 : Nat) : Int) else .int .i64 0)) := fun w' a b c => ⟨D1.next a b c, rdo_row b rx hXR, rdo_row b ry hYR⟩
        have HWY := hidC hwY
        clear D1 HB0 HO0 HR0 HB4 HO4 HM4 KM hq2 HPB
        go_upto_region 4 with (go_at_call 87; (with_reducible refine KM'.out.mono ?_); rintro e9 w5 ⟨rfl, hb5, ho5, hm5, hl5, hd5⟩; obtain ⟨D5, x5, z5⟩ := HG.out _ hb5 ho5 hm5; have HL5 := hidC hl5; have HD5 := hidC hd5; have y5 : w5.cell? ⟨Y, 1, none⟩ = some (.int .i64 0) := z5.cell (i := 1) (by decide); have f5 := z5.frozen 1; clear hb5 ho5 hm5 hl5 hd5)
        obtain ⟨V2, hV2⟩ : ∃ V2, w5.setCell ⟨Y, 1, none⟩ (.int .i64 (n : Int)) = V2 := ⟨_, rfl⟩
        have x6 : V2.rowIs X 62 2 (fun _ => .int .i64 0) := by rw [← hV2]; exact x5.of_block (Below.heap_setCell _ _ _ _ hXY)
        have z6 := z5.set 1 (.int .i64 (n : Int))
        rw [hV2] at z6
        have a0 : V2.cell? ⟨Y, 0, none⟩ = some (.int .i64 3) := z6.cell (i := 0) (by decide)
        have a1 : V2.cell? ⟨Y, 1, none⟩ = some (.int .i64 (n : Int)) := z6.cell (i := 1) (by decide)
        have D6 : Rds E RB s A2 w V2 := by rw [← hV2]; exact D5.set hE hRB HWY.out 1 _
        have x0 : V2.cell? ⟨X, 0, none⟩ = some (.int .i64 0) := x6.cell (i := 0) (by decide)
        have x1 : V2.cell? ⟨X, 1, none⟩ = some (.int .i64 0) := x6.cell (i := 1) (by decide)
        have f0 := x6.frozen 0
        have f1 := x6.frozen 1
        have HD := hidC ((D6.set hE hRB hXw 0 (.int .i64 3)).set hE hRB hXw 1 (.int .i64 (n : Int)))
        try rw [hV2]
        clear hV2 D5 D6 x5 z5 x6 z6 y5 f5
        go_wp2
        refine bodyPost_ret (by simp [results, Tryz.results53, go_sem, *]; try rfl) rfl ?_
        rw [HP.out]
        exact HD.out.fin HL5.out HD5.out
    · have q2 : ((k : Int) == 3) = false := by simp; omega
      have x0 : V.cell? ⟨X, 0, none⟩ = some (.int .i64 0) := rx.cell (i := 0) (by decide)
      have x1 : V.cell? ⟨X, 1, none⟩ = some (.int .i64 0) := rx.cell (i := 1) (by decide)
      have f0 := rx.frozen 0
      have f1 := rx.frozen 1
      have D2 := (D1.set hE hRB hXw 0 (.int .i64 (k : Int))).set hE hRB hXw 1 (.int .i64 0)
      have HD := hidC D2
      clear D1 D2 HB0 HO0 HR0 HB4 HO4 HM4
      have HP : Hid (R = .ok (⟨(k : Int), 0⟩, l', A1)) := by
        show _ = _
        unfold pTy at hR
        rw [← hR, pBind_assoc, pBind_at hq, decide_eq_false q]
        rfl
      go_wp2
      refine bodyPost_ret (by simp [results, Tryz.results53, go_sem, *]; try rfl) rfl ?_
      rw [HP.out]
      exact HD.out.fin HL4.out HD4.out

end Go.Proofs.YtnlgkkbmbijndaaGreat
/- latheref16.Row, by program (tool/layer16). -/
namespace Go.Proofs.YtnlgkkbmbijndaaGreat
open Go.RowKit
set_option linter.unusedVariables false
set_option linter.unusedSimpArgs false

set_option maxRecDepth 100000 in
set_option maxHeartbeats 2000000 in
theorem rrow_1 (w : World) : Calls Tryz.prog 48 #[.int .i64 1] w fun e w' => e = .returned (.tuple #[.string ⟨#[110, 45, 45, 45, 45]⟩, .bool true]) ∧ w' = w := by
  go_enter Tryz.func48, Tryz.ntmps48
  go_wp2
  go_ret2
  exact ⟨rfl, rfl⟩

set_option maxRecDepth 100000 in
set_option maxHeartbeats 2000000 in
theorem rrow_2 (w : World) : Calls Tryz.prog 48 #[.int .i64 2] w fun e w' => e = .returned (.tuple #[.string ⟨#[119, 45, 45, 45, 105]⟩, .bool true]) ∧ w' = w := by
  go_enter Tryz.func48, Tryz.ntmps48
  go_wp2
  go_ret2
  exact ⟨rfl, rfl⟩

set_option maxRecDepth 100000 in
set_option maxHeartbeats 2000000 in
theorem rrow_3 (w : World) : Calls Tryz.prog 48 #[.int .i64 3] w fun e w' => e = .returned (.tuple #[.string ⟨#[97, 99, 45, 45, 45]⟩, .bool true]) ∧ w' = w := by
  go_enter Tryz.func48, Tryz.ntmps48
  go_wp2
  go_ret2
  exact ⟨rfl, rfl⟩

set_option maxRecDepth 100000 in
set_option maxHeartbeats 2000000 in
theorem rrow_4 (w : World) : Calls Tryz.prog 48 #[.int .i64 4] w fun e w' => e = .returned (.tuple #[.string ⟨#[100, 120, 120, 45, 45]⟩, .bool true]) ∧ w' = w := by
  go_enter Tryz.func48, Tryz.ntmps48
  go_wp2
  go_ret2
  exact ⟨rfl, rfl⟩

set_option maxRecDepth 100000 in
set_option maxHeartbeats 2000000 in
theorem rrow_5 (w : World) : Calls Tryz.prog 48 #[.int .i64 5] w fun e w' => e = .returned (.tuple #[.string ⟨#[100, 120, 120, 45, 45]⟩, .bool true]) ∧ w' = w := by
  go_enter Tryz.func48, Tryz.ntmps48
  go_wp2
  go_ret2
  exact ⟨rfl, rfl⟩

set_option maxRecDepth 100000 in
set_option maxHeartbeats 2000000 in
theorem rrow_6 (w : World) : Calls Tryz.prog 48 #[.int .i64 6] w fun e w' => e = .returned (.tuple #[.string ⟨#[100, 120, 120, 45, 45]⟩, .bool true]) ∧ w' = w := by
  go_enter Tryz.func48, Tryz.ntmps48
  go_wp2
  go_ret2
  exact ⟨rfl, rfl⟩

set_option maxRecDepth 100000 in
set_option maxHeartbeats 2000000 in
theorem rrow_7 (w : World) : Calls Tryz.prog 48 #[.int .i64 7] w fun e w' => e = .returned (.tuple #[.string ⟨#[100, 120, 120, 45, 45]⟩, .bool true]) ∧ w' = w := by
  go_enter Tryz.func48, Tryz.ntmps48
  go_wp2
  go_ret2
  exact ⟨rfl, rfl⟩

set_option maxRecDepth 100000 in
set_option maxHeartbeats 2000000 in
theorem rrow_8 (w : World) : Calls Tryz.prog 48 #[.int .i64 8] w fun e w' => e = .returned (.tuple #[.string ⟨#[100, 120, 120, 45, 45]⟩, .bool true]) ∧ w' = w := by
  go_enter Tryz.func48, Tryz.ntmps48
  go_wp2
  go_ret2
  exact ⟨rfl, rfl⟩

set_option maxRecDepth 100000 in
set_option maxHeartbeats 2000000 in
theorem rrow_9 (w : World) : Calls Tryz.prog 48 #[.int .i64 9] w fun e w' => e = .returned (.tuple #[.string ⟨#[100, 120, 120, 45, 45]⟩, .bool true]) ∧ w' = w := by
  go_enter Tryz.func48, Tryz.ntmps48
  go_wp2
  go_ret2
  exact ⟨rfl, rfl⟩

set_option maxRecDepth 100000 in
set_option maxHeartbeats 2000000 in
theorem rrow_10 (w : World) : Calls Tryz.prog 48 #[.int .i64 10] w fun e w' => e = .returned (.tuple #[.string ⟨#[100, 120, 120, 45, 45]⟩, .bool true]) ∧ w' = w := by
  go_enter Tryz.func48, Tryz.ntmps48
  go_wp2
  go_ret2
  exact ⟨rfl, rfl⟩

set_option maxRecDepth 100000 in
set_option maxHeartbeats 2000000 in
theorem rrow_11 (w : World) : Calls Tryz.prog 48 #[.int .i64 11] w fun e w' => e = .returned (.tuple #[.string ⟨#[100, 120, 45, 45, 45]⟩, .bool true]) ∧ w' = w := by
  go_enter Tryz.func48, Tryz.ntmps48
  go_wp2
  go_ret2
  exact ⟨rfl, rfl⟩

set_option maxRecDepth 100000 in
set_option maxHeartbeats 2000000 in
theorem rrow_12 (w : World) : Calls Tryz.prog 48 #[.int .i64 12] w fun e w' => e = .returned (.tuple #[.string ⟨#[100, 120, 45, 45, 45]⟩, .bool true]) ∧ w' = w := by
  go_enter Tryz.func48, Tryz.ntmps48
  go_wp2
  go_ret2
  exact ⟨rfl, rfl⟩

end Go.Proofs.YtnlgkkbmbijndaaGreat
/- latheref16.Row, by program (tool/layer16). -/
namespace Go.Proofs.YtnlgkkbmbijndaaGreat
open Go.RowKit
set_option linter.unusedVariables false
set_option linter.unusedSimpArgs false

set_option maxRecDepth 100000 in
set_option maxHeartbeats 2000000 in
theorem rrow_13 (w : World) : Calls Tryz.prog 48 #[.int .i64 13] w fun e w' => e = .returned (.tuple #[.string ⟨#[100, 120, 45, 45, 45]⟩, .bool true]) ∧ w' = w := by
  go_enter Tryz.func48, Tryz.ntmps48
  go_wp2
  go_ret2
  exact ⟨rfl, rfl⟩

set_option maxRecDepth 100000 in
set_option maxHeartbeats 2000000 in
theorem rrow_14 (w : World) : Calls Tryz.prog 48 #[.int .i64 14] w fun e w' => e = .returned (.tuple #[.string ⟨#[100, 120, 45, 45, 45]⟩, .bool true]) ∧ w' = w := by
  go_enter Tryz.func48, Tryz.ntmps48
  go_wp2
  go_ret2
  exact ⟨rfl, rfl⟩

set_option maxRecDepth 100000 in
set_option maxHeartbeats 2000000 in
theorem rrow_15 (w : World) : Calls Tryz.prog 48 #[.int .i64 15] w fun e w' => e = .returned (.tuple #[.string ⟨#[100, 120, 120, 120, 45]⟩, .bool true]) ∧ w' = w := by
  go_enter Tryz.func48, Tryz.ntmps48
  go_wp2
  go_ret2
  exact ⟨rfl, rfl⟩

set_option maxRecDepth 100000 in
set_option maxHeartbeats 2000000 in
theorem rrow_16 (w : World) : Calls Tryz.prog 48 #[.int .i64 16] w fun e w' => e = .returned (.tuple #[.string ⟨#[110, 110, 119, 45, 45]⟩, .bool true]) ∧ w' = w := by
  go_enter Tryz.func48, Tryz.ntmps48
  go_wp2
  go_ret2
  exact ⟨rfl, rfl⟩

set_option maxRecDepth 100000 in
set_option maxHeartbeats 2000000 in
theorem rrow_17 (w : World) : Calls Tryz.prog 48 #[.int .i64 17] w fun e w' => e = .returned (.tuple #[.string ⟨#[110, 119, 45, 45, 45]⟩, .bool true]) ∧ w' = w := by
  go_enter Tryz.func48, Tryz.ntmps48
  go_wp2
  go_ret2
  exact ⟨rfl, rfl⟩

set_option maxRecDepth 100000 in
set_option maxHeartbeats 2000000 in
theorem rrow_18 (w : World) : Calls Tryz.prog 48 #[.int .i64 18] w fun e w' => e = .returned (.tuple #[.string ⟨#[119, 110, 45, 45, 45]⟩, .bool true]) ∧ w' = w := by
  go_enter Tryz.func48, Tryz.ntmps48
  go_wp2
  go_ret2
  exact ⟨rfl, rfl⟩

set_option maxRecDepth 100000 in
set_option maxHeartbeats 2000000 in
theorem rrow_19 (w : World) : Calls Tryz.prog 48 #[.int .i64 19] w fun e w' => e = .returned (.tuple #[.string ⟨#[110, 118, 45, 45, 45]⟩, .bool true]) ∧ w' = w := by
  go_enter Tryz.func48, Tryz.ntmps48
  go_wp2
  go_ret2
  exact ⟨rfl, rfl⟩

set_option maxRecDepth 100000 in
set_option maxHeartbeats 2000000 in
theorem rrow_20 (w : World) : Calls Tryz.prog 48 #[.int .i64 20] w fun e w' => e = .returned (.tuple #[.string ⟨#[110, 118, 45, 45, 45]⟩, .bool true]) ∧ w' = w := by
  go_enter Tryz.func48, Tryz.ntmps48
  go_wp2
  go_ret2
  exact ⟨rfl, rfl⟩

set_option maxRecDepth 100000 in
set_option maxHeartbeats 2000000 in
theorem rrow_21 (w : World) : Calls Tryz.prog 48 #[.int .i64 21] w fun e w' => e = .returned (.tuple #[.string ⟨#[119, 119, 45, 45, 45]⟩, .bool true]) ∧ w' = w := by
  go_enter Tryz.func48, Tryz.ntmps48
  go_wp2
  go_ret2
  exact ⟨rfl, rfl⟩

end Go.Proofs.YtnlgkkbmbijndaaGreat
