import Derived.Test.YtnlgkkbmbijndaaGreatBck9
import Derived.Test.YtnlgkkbmbijndaaGreatBck10
/- Package ir: an instruction taken. -/
namespace Go.Proofs.YtnlgkkbmbijndaaGreat
open Go.RowKit
set_option linter.unusedVariables false
set_option linter.unusedSimpArgs false

theorem row_nine {op : Int} (h : (rowP op).n = 9) : ((op = 29 ∨ op = 30) ∧ (rowP op).d = 3) ∨ (op = 31 ∧ (rowP op).d = 0 ∧ (rowP op).a = 3) := by
  have key : ∀ k : Fin 38, (rowP (k.val : Int)).n = 9 → k.val = 29 ∨ k.val = 30 ∨ k.val = 31 := by decide +kernel
  by_cases hk : knownP op = true
  · have hh : 1 ≤ op ∧ op ≤ 37 := by unfold knownP at hk; simp at hk; exact hk
    have e : ((⟨op.toNat, by omega⟩ : Fin 38).val : Int) = op := by show ((op.toNat : Nat) : Int) = op; omega
    have := key ⟨op.toNat, by omega⟩ (by rw [e]; exact h)
    simp only at this
    rcases this with h1 | h1 | h1
    · have : op = 29 := by omega
      subst this; exact .inl ⟨.inl rfl, rfl⟩
    · have : op = 30 := by omega
      subst this; exact .inl ⟨.inr rfl, rfl⟩
    · have : op = 31 := by omega
      subst this; exact .inr ⟨rfl, rfl, rfl⟩
  · rw [row_none op (by simpa using hk)] at h
    exact absurd h (by decide)
theorem reg_vector {c : Cd} {n : Int} {m : Ty} (ht : typesMay c = true) (h : fitsReg c.regs 3 n m = true) : isPl (regT c.regs n).par c.sign.length = true := by
  unfold fitsReg at h
  rw [if_neg (by decide)] at h
  simp only [Bool.and_eq_true] at h
  obtain ⟨h1, h2⟩ := h
  obtain ⟨k, hk, hl⟩ := pl_nat h1
  rw [regT_at hk hl] at h2 ⊢
  have hm : c.regs[k].kind = 3 := by
    unfold meansP at h2
    rw [if_neg (by decide), if_neg (by decide), if_pos rfl] at h2
    simpa using h2
  have := List.all_eq_true.1 ht c.regs[k] (List.getElem_mem hl)
  unfold typeMay at this
  rw [if_neg (by omega), if_pos hm] at this
  exact this
theorem main_part {c : Cd} {i : Ins} (ht : typesMay c = true) (hd : fitsReg c.regs (rowP i.op).d i.d (mainT c.regs i (rowP i.op)) = true) (ha : fitsReg c.regs (rowP i.op).a i.a (mainT c.regs i (rowP i.op)) = true) (h9 : (rowP i.op).n = 9) : isPl (mainT c.regs i (rowP i.op)).par c.sign.length = true := by
  rcases row_nine h9 with ⟨_, e⟩ | ⟨_, e, e2⟩
  · rw [e] at hd
    have := reg_vector ht hd
    unfold mainT mainR
    rw [e, if_neg (by decide)]
    exact this
  · rw [e2] at ha
    have := reg_vector ht ha
    unfold mainT mainR
    rw [e, if_pos rfl]
    exact this
theorem reads_lt {c : Cd} {i : Ins} {r : Rw} (h : fitsC c i r = true) : ∀ x ∈ readsP i r, 0 ≤ x ∧ x < (c.regs.length : Int) := by
  intro x hx
  unfold readsP at hx
  rcases List.mem_append.1 hx with hx | hx
  · by_cases e : r.a = 0
    · rw [if_pos e] at hx; cases hx
    · rw [if_neg e] at hx; simp at hx; subst hx; exact fitsReg_lt (fitsC_a h) e
  rcases List.mem_append.1 hx with hx | hx
  · by_cases e : r.b = 0
    · rw [if_pos e] at hx; cases hx
    · rw [if_neg e] at hx; simp at hx; subst hx; exact fitsReg_lt (fitsC_b h) e
  · by_cases e : r.c = 0
    · rw [if_pos e] at hx; cases hx
    · rw [if_neg e] at hx; simp at hx; subst hx; exact fitsReg_lt (fitsC_c h) e
theorem reads_len (i : Ins) (r : Rw) : (readsP i r).length ≤ 3 := by
  rw [reads_eq]
  simp only [List.length_append]
  have := rd1_le r.a i.a
  have := rd1_le r.b i.b
  have := rd1_le r.c i.c
  omega
theorem stand_close {c : Cd} {s : Wk} {i : Ins} {r : Rw} (h : mayStandP c s i r = true) (e : i.op = 35 ∨ i.op = 37) : s.opens ≠ [] := by
  unfold mayStandP at h
  rw [if_neg (by omega)] at h
  intro hO
  rcases e with e | e
  · rw [if_pos e, hO] at h; simp at h
  · rw [if_neg (by omega), if_pos e] at h
    unfold inLoop at h
    rw [hO] at h
    cases h

/-- The worlds behind the row: its letters in a box, the struct's code. -/
structure TK (w : World) (H G C : Nat) (L0 L1 L2 L3 L4 : Int) (v : World) : Prop where
  bel : Below w.heap.size w v
  r0 : v.cell? ⟨H, 0, none⟩ = some (.int .i64 L0)
  r1 : v.cell? ⟨H, 1, none⟩ = some (.int .i64 L1)
  r2 : v.cell? ⟨H, 2, none⟩ = some (.int .i64 L2)
  r3 : v.cell? ⟨H, 3, none⟩ = some (.int .i64 L3)
  r4 : v.cell? ⟨H, 4, none⟩ = some (.int .i64 L4)
  g0 : v.cell? ⟨G, 0, none⟩ = some (.pointer (some ⟨C, 0, none⟩))
theorem TK.next {w : World} {H G C : Nat} {L0 L1 L2 L3 L4 : Int} {v v' : World} (h : TK w H G C L0 L1 L2 L3 L4 v) (k : Below v.heap.size v v') : TK w H G C L0 L1 L2 L3 L4 v' :=
  ⟨Go.Proofs.YtnlgkkbmbijndaaGreat.bel h.bel k, kc k h.r0, kc k h.r1, kc k h.r2, kc k h.r3, kc k h.r4, kc k h.g0⟩

set_option maxRecDepth 100000 in
set_option maxHeartbeats 4000000 in
theorem take_any (E G C n gi : Nat) (vs vo : Value) (s : Wk) (v0 v1 v2 v3 : Value) (c : Cd) (hk : CdOk c) (b o : Nat) (i : Ins) (w : World) (h : WS E G C n gi vs vo w s) (hnn : c.regs.length = n) (ok : OkS n s) (hn : n ≤ 16384) (hc : CdAt w C v0 v1 v2 v3 c) (hi : CellsAt w b o (inC i)) (hbE : b < E) (htm : typesMay c = true) (hb0 : 0 ≤ i.bits) (hb1 : i.bits < 4294967296) :
    Calls Tryz.prog 39 #[.pointer (some ⟨G, 0, none⟩), .pointer (some ⟨b, o, none⟩)] w fun e w' => e = .returned (.bool (takesP c s i)) ∧ Below E w w' ∧ (takesP c s i = true → ∃ vs' vo', WS E G C n gi vs' vo' w' (stepP s i)) := by
  have K1 := rowOf_any i.op w
  have K2 := fun v h1 h2 => fits_any C v0 v1 v2 v3 c hk b o i (rowP i.op) v h1 h2 hb0 hb1 (main_part htm)
  have K3 := fun v h1 h2 h3 => mayStand_any E G C n gi vs vo s v0 v1 v2 v3 c hk b o i (rowP i.op) v h1 ok.nest h2 h3
  have K4 := fun v h1 => readBy_any b o i (rowP i.op) v h1
  have K5 := fun (hf : fitsC c i (rowP i.op) = true) (hs : mayStandP c s i (rowP i.op) = true) v h1 h2 => pass_any E G C n gi vs vo s b o i (rowP i.op) v h1 ok hn h2 hbE (stand_open hs) (stand_close hs) (fun hd => by have := fitsReg_lt (fitsC_d hf) hd; rw [hnn] at this; exact this)
  have KL : fitsC c i (rowP i.op) = true → ∀ x ∈ readsP i (rowP i.op), 0 ≤ x ∧ x < (n : Int) := fun hf => by have := reads_lt hf; rw [hnn] at this; exact this
  have KN := reads_len i (rowP i.op)
  have HC0 : Hid (CdAt w C v0 v1 v2 v3 c) := hc
  have HI0 : Hid (CellsAt w b o (inC i)) := hi
  have HS0 : Hid (WS E G C n gi vs vo w s) := h
  have e0 := hi.at 0 rfl
  rw [Nat.add_zero] at e0
  have hE := h.lt
  have g0 := h.c0
  unfold takesP stepP
  have hro : readOK s i (rowP i.op) = (readsP i (rowP i.op)).all fun n => decide (n.toNat ∈ s.set) := rfl
  rw [hro]
  obtain ⟨op, hop⟩ : ∃ x, i.op = x := ⟨_, rfl⟩
  rw [hop] at K1 K2 K3 K4 K5 KL KN e0 ⊢
  obtain ⟨r, hr⟩ : ∃ r, rowP op = r := ⟨_, rfl⟩
  simp only [hr] at K1 K2 K3 K4 K5 KL KN ⊢
  obtain ⟨X0, hX0⟩ : ∃ X, knownP op = X := ⟨_, rfl⟩
  obtain ⟨X1, hX1⟩ : ∃ X, fitsC c i r = X := ⟨_, rfl⟩
  obtain ⟨X2, hX2⟩ : ∃ X, mayStandP c s i r = X := ⟨_, rfl⟩
  obtain ⟨RL, hRL⟩ : ∃ X, readsP i r = X := ⟨_, rfl⟩
  obtain ⟨Z, hZ⟩ : ∃ Z, passP s i r = Z := ⟨_, rfl⟩
  obtain ⟨AL, hAL⟩ : ∃ X, ((readsP i r).all fun n => decide (n.toNat ∈ s.set)) = X := ⟨_, rfl⟩
  rw [hAL]
  simp only [hX0] at K1 ⊢
  simp only [hX1] at K2 K5 KL ⊢
  simp only [hX2] at K3 K5 ⊢
  simp only [hRL] at K4 KL KN
  rw [hRL] at hAL
  have HAL : Hid ((RL.all fun n => decide (n.toNat ∈ s.set)) = AL) := hAL
  simp only [hZ] at K5 ⊢
  obtain ⟨L0, L1, L2, L3, L4⟩ := r
  unfold rwV at K1 K2 K3 K4 K5
  simp only at K1 K2 K3 K4 K5
  have HK1 : Hid (Calls Tryz.prog 74 #[.int .i64 op] w fun e w' => e = .returned (.tuple #[.agg #[.int .i64 L0, .int .i64 L1, .int .i64 L2, .int .i64 L3, .int .i64 L4], .bool X0]) ∧ Below w.heap.size w w') := K1
  have HK2 : Hid (∀ v, CdAt v C v0 v1 v2 v3 c → CellsAt v b o (inC i) → Calls Tryz.prog 75 #[.pointer (some ⟨C, 0, none⟩), .pointer (some ⟨b, o, none⟩), .agg #[.int .i64 L0, .int .i64 L1, .int .i64 L2, .int .i64 L3, .int .i64 L4]] v fun e w' => e = .returned (.bool X1) ∧ Below v.heap.size v w') := K2
  have HK3 : Hid (∀ v, WS E G C n gi vs vo v s → CdAt v C v0 v1 v2 v3 c → CellsAt v b o (inC i) → Calls Tryz.prog 76 #[.pointer (some ⟨G, 0, none⟩), .pointer (some ⟨b, o, none⟩), .agg #[.int .i64 L0, .int .i64 L1, .int .i64 L2, .int .i64 L3, .int .i64 L4]] v fun e w' => e = .returned (.bool X2) ∧ Below v.heap.size v w') := K3
  have HK4 : Hid (∀ v, CellsAt v b o (inC i) → Calls Tryz.prog 77 #[.agg #[.int .i64 L0, .int .i64 L1, .int .i64 L2, .int .i64 L3, .int .i64 L4], .pointer (some ⟨b, o, none⟩)] v fun e w' => ∃ u, e = .returned u ∧ w'.ownsRow v.heap.size 3 1 u RL.length (i64s RL) ∧ Below v.heap.size v w') := K4
  have HK5 : Hid (X1 = true → X2 = true → ∀ v, WS E G C n gi vs vo v s → CellsAt v b o (inC i) → Calls Tryz.prog 78 #[.pointer (some ⟨G, 0, none⟩), .pointer (some ⟨b, o, none⟩), .agg #[.int .i64 L0, .int .i64 L1, .int .i64 L2, .int .i64 L3, .int .i64 L4]] v fun e w' => e = .returned (.tuple #[]) ∧ Below E v w' ∧ ∃ vs' vo', WS E G C n gi vs' vo' w' Z) := K5
  have HKL : Hid (X1 = true → ∀ x ∈ RL, 0 ≤ x ∧ x < (n : Int)) := KL
  clear K1 K2 K3 K4 K5 KL h hc hi hk hro hop hr hX0 hX1 hX2 hRL hZ hAL hb0 hb1 htm ok hnn
  cases X0
  · go_enter Tryz.func39, Tryz.ntmps39
    go_wp2_with (go_at_call 74; refine HK1.out.mono ?_; rintro e w1 ⟨rfl, hw1⟩; have HT : Hid (TK w w1.heap.size G C L0 L1 L2 L3 L4 (w1.alloc (.cells #[.int .i64 L0, .int .i64 L1, .int .i64 L2, .int .i64 L3, .int .i64 L4] 144))) := (by exact ⟨bel hw1 (bel_alloc _ _), by simp [go_sem], by simp [go_sem], by simp [go_sem], by simp [go_sem], by simp [go_sem], kc (bel_alloc _ _) (kc hw1 g0)⟩))
    have HCX : Hid (∀ v, Below (w1.alloc (.cells #[.int .i64 L0, .int .i64 L1, .int .i64 L2, .int .i64 L3, .int .i64 L4] 144)).heap.size (w1.alloc (.cells #[.int .i64 L0, .int .i64 L1, .int .i64 L2, .int .i64 L3, .int .i64 L4] 144)) v → v.cell? ⟨G, 0, none⟩ = some (.pointer (some ⟨C, 0, none⟩)) ∧ v.cell? ⟨w1.heap.size, 0, none⟩ = some (.int .i64 L0) ∧ v.cell? ⟨w1.heap.size, 1, none⟩ = some (.int .i64 L1) ∧ v.cell? ⟨w1.heap.size, 2, none⟩ = some (.int .i64 L2) ∧ v.cell? ⟨w1.heap.size, 3, none⟩ = some (.int .i64 L3) ∧ v.cell? ⟨w1.heap.size, 4, none⟩ = some (.int .i64 L4)) := fun v hv => ⟨(HT.out.next hv).g0, (HT.out.next hv).r0, (HT.out.next hv).r1, (HT.out.next hv).r2, (HT.out.next hv).r3, (HT.out.next hv).r4⟩; obtain ⟨t0, t1, t2, t3, t4, t5⟩ := HCX.out _ (bel0 _)
    refine wp_region_held_drew (S := (fun v => v.cell? ⟨G, 0, none⟩ = some (.pointer (some ⟨C, 0, none⟩)) ∧ v.cell? ⟨w1.heap.size, 0, none⟩ = some (.int .i64 L0) ∧ v.cell? ⟨w1.heap.size, 1, none⟩ = some (.int .i64 L1) ∧ v.cell? ⟨w1.heap.size, 2, none⟩ = some (.int .i64 L2) ∧ v.cell? ⟨w1.heap.size, 3, none⟩ = some (.int .i64 L3) ∧ v.cell? ⟨w1.heap.size, 4, none⟩ = some (.int .i64 L4))) (by kernel_rfl) ?_ (fun hHeld => ?_)
    · ((try dsimp only); go_keep)
    refine wpAnyH_take (i := 0) (v := ?_) (by simp only [List.getElem?_toArray, List.getElem?_cons_succ, List.getElem?_cons_zero]; rfl) (by kernel_rfl) (by kernel_rfl) (by kernel_rfl) (by exact fun _ _ _ h => h) (Or.inl ⟨by rfl, ?_⟩) (by assumption) ?_
    rotate_left 1
    · (intro wS hSw; (try dsimp only at hSw); go_simp; try (with_reducible rfl))
    try simp only [Act.put, List.setIfInBounds_toArray, List.set_cons_zero, List.set_cons_succ]
    refine wpAnyH_take (i := 1) (v := ?_) (by simp only [List.getElem?_toArray, List.getElem?_cons_succ, List.getElem?_cons_zero]; rfl) (by kernel_rfl) (by kernel_rfl) (by kernel_rfl) (by exact fun _ _ _ h => h) (Or.inl ⟨by rfl, ?_⟩) (by assumption) ?_
    rotate_left 1
    · (intro wS hSw; (try dsimp only at hSw); go_simp; try (with_reducible rfl))
    try simp only [Act.put, List.setIfInBounds_toArray, List.set_cons_zero, List.set_cons_succ]
    refine wpAnyH_take (i := 2) (v := ?_) (by simp only [List.getElem?_toArray, List.getElem?_cons_succ, List.getElem?_cons_zero]; rfl) (by kernel_rfl) (by kernel_rfl) (by kernel_rfl) (by exact fun _ _ _ h => h) (Or.inl ⟨by rfl, ?_⟩) (by assumption) ?_
    rotate_left 1
    · (intro wS hSw; (try dsimp only at hSw); go_simp; try (with_reducible rfl))
    try simp only [Act.put, List.setIfInBounds_toArray, List.set_cons_zero, List.set_cons_succ]
    refine wpAnyH_take (i := 3) (v := undef) (by simp only [List.getElem?_toArray, List.getElem?_cons_succ, List.getElem?_cons_zero]; rfl) (by kernel_rfl) (by kernel_rfl) (by kernel_rfl) (by exact fun _ _ _ h => h) (Or.inr ⟨by rfl, rfl⟩) (by assumption) ?_
    try simp only [Act.put, List.setIfInBounds_toArray, List.set_cons_zero, List.set_cons_succ]
    refine wpAnyH_take (i := 4) (v := undef) (by simp only [List.getElem?_toArray, List.getElem?_cons_succ, List.getElem?_cons_zero]; rfl) (by kernel_rfl) (by kernel_rfl) (by kernel_rfl) (by exact fun _ _ _ h => h) (Or.inr ⟨by rfl, rfl⟩) (by assumption) ?_
    try simp only [Act.put, List.setIfInBounds_toArray, List.set_cons_zero, List.set_cons_succ]
    refine wpAnyH_take (i := 5) (v := undef) (by simp only [List.getElem?_toArray, List.getElem?_cons_succ, List.getElem?_cons_zero]; rfl) (by kernel_rfl) (by kernel_rfl) (by kernel_rfl) (by exact fun _ _ _ h => h) (Or.inr ⟨by rfl, rfl⟩) (by assumption) ?_
    try simp only [Act.put, List.setIfInBounds_toArray, List.set_cons_zero, List.set_cons_succ]
    refine wpAnyH_take (i := 6) (v := undef) (by simp only [List.getElem?_toArray, List.getElem?_cons_succ, List.getElem?_cons_zero]; rfl) (by kernel_rfl) (by kernel_rfl) (by kernel_rfl) (by exact fun _ _ _ h => h) (Or.inr ⟨by rfl, rfl⟩) (by assumption) ?_
    try simp only [Act.put, List.setIfInBounds_toArray, List.set_cons_zero, List.set_cons_succ]
    refine wpAnyH_take (i := 7) (v := undef) (by simp only [List.getElem?_toArray, List.getElem?_cons_succ, List.getElem?_cons_zero]; rfl) (by kernel_rfl) (by kernel_rfl) (by kernel_rfl) (by exact fun _ _ _ h => h) (Or.inr ⟨by rfl, rfl⟩) (by assumption) ?_
    try simp only [Act.put, List.setIfInBounds_toArray, List.set_cons_zero, List.set_cons_succ]
    refine wpAnyH_take (i := 8) (v := undef) (by simp only [List.getElem?_toArray, List.getElem?_cons_succ, List.getElem?_cons_zero]; rfl) (by kernel_rfl) (by kernel_rfl) (by kernel_rfl) (by exact fun _ _ _ h => h) (Or.inr ⟨by rfl, rfl⟩) (by assumption) ?_
    try simp only [Act.put, List.setIfInBounds_toArray, List.set_cons_zero, List.set_cons_succ]
    refine wpAnyH_take (i := 9) (v := undef) (by simp only [List.getElem?_toArray, List.getElem?_cons_succ, List.getElem?_cons_zero]; rfl) (by kernel_rfl) (by kernel_rfl) (by kernel_rfl) (by exact fun _ _ _ h => h) (Or.inr ⟨by rfl, rfl⟩) (by assumption) ?_
    try simp only [Act.put, List.setIfInBounds_toArray, List.set_cons_zero, List.set_cons_succ]
    refine wpAnyH_take (i := 10) (v := undef) (by simp only [List.getElem?_toArray, List.getElem?_cons_succ, List.getElem?_cons_zero]; rfl) (by kernel_rfl) (by kernel_rfl) (by kernel_rfl) (by exact fun _ _ _ h => h) (Or.inr ⟨by rfl, rfl⟩) (by assumption) ?_
    try simp only [Act.put, List.setIfInBounds_toArray, List.set_cons_zero, List.set_cons_succ]
    refine wpAnyH_take (i := 11) (v := ?_) (by simp only [List.getElem?_toArray, List.getElem?_cons_succ, List.getElem?_cons_zero]; rfl) (by kernel_rfl) (by kernel_rfl) (by kernel_rfl) (by exact fun _ _ _ h => h) (Or.inl ⟨by rfl, ?_⟩) (by assumption) ?_
    rotate_left 1
    · (intro wS hSw; (try dsimp only at hSw); go_simp; try (with_reducible rfl))
    try simp only [Act.put, List.setIfInBounds_toArray, List.set_cons_zero, List.set_cons_succ]
    refine wpAnyH_take (i := 12) (v := ?_) (by simp only [List.getElem?_toArray, List.getElem?_cons_succ, List.getElem?_cons_zero]; rfl) (by kernel_rfl) (by kernel_rfl) (by kernel_rfl) (by exact fun _ _ _ h => h) (Or.inl ⟨by rfl, ?_⟩) (by assumption) ?_
    rotate_left 1
    · (intro wS hSw; (try dsimp only at hSw); go_simp; try (with_reducible rfl))
    try simp only [Act.put, List.setIfInBounds_toArray, List.set_cons_zero, List.set_cons_succ]
    refine wpAnyH_take (i := 13) (v := undef) (by simp only [List.getElem?_toArray, List.getElem?_cons_succ, List.getElem?_cons_zero]; rfl) (by kernel_rfl) (by kernel_rfl) (by kernel_rfl) (by exact fun _ _ _ h => h) (Or.inr ⟨by rfl, rfl⟩) (by assumption) ?_
    try simp only [Act.put, List.setIfInBounds_toArray, List.set_cons_zero, List.set_cons_succ]
    refine wpAnyH_take (i := 14) (v := undef) (by simp only [List.getElem?_toArray, List.getElem?_cons_succ, List.getElem?_cons_zero]; rfl) (by kernel_rfl) (by kernel_rfl) (by kernel_rfl) (by exact fun _ _ _ h => h) (Or.inr ⟨by rfl, rfl⟩) (by assumption) ?_
    try simp only [Act.put, List.setIfInBounds_toArray, List.set_cons_zero, List.set_cons_succ]
    refine wpAnyH_take (i := 15) (v := undef) (by simp only [List.getElem?_toArray, List.getElem?_cons_succ, List.getElem?_cons_zero]; rfl) (by kernel_rfl) (by kernel_rfl) (by kernel_rfl) (by exact fun _ _ _ h => h) (Or.inr ⟨by rfl, rfl⟩) (by assumption) ?_
    try simp only [Act.put, List.setIfInBounds_toArray, List.set_cons_zero, List.set_cons_succ]
    refine wpAnyH_take (i := 16) (v := undef) (by simp only [List.getElem?_toArray, List.getElem?_cons_succ, List.getElem?_cons_zero]; rfl) (by kernel_rfl) (by kernel_rfl) (by kernel_rfl) (by exact fun _ _ _ h => h) (Or.inr ⟨by rfl, rfl⟩) (by assumption) ?_
    try simp only [Act.put, List.setIfInBounds_toArray, List.set_cons_zero, List.set_cons_succ]
    refine wpAnyH_take (i := 17) (v := undef) (by simp only [List.getElem?_toArray, List.getElem?_cons_succ, List.getElem?_cons_zero]; rfl) (by kernel_rfl) (by kernel_rfl) (by kernel_rfl) (by exact fun _ _ _ h => h) (Or.inr ⟨by rfl, rfl⟩) (by assumption) ?_
    try simp only [Act.put, List.setIfInBounds_toArray, List.set_cons_zero, List.set_cons_succ]
    refine wpAnyH_take (i := 18) (v := ?_) (by simp only [List.getElem?_toArray, List.getElem?_cons_succ, List.getElem?_cons_zero]; rfl) (by kernel_rfl) (by kernel_rfl) (by kernel_rfl) (by exact fun _ _ _ h => h) (Or.inl ⟨by rfl, ?_⟩) (by assumption) ?_
    rotate_left 1
    · (intro wS hSw; (try dsimp only at hSw); go_simp; try (with_reducible rfl))
    try simp only [Act.put, List.setIfInBounds_toArray, List.set_cons_zero, List.set_cons_succ]
    refine wpAnyH_done (by kernel_rfl) ?_ _
    go_wp2
    go_ret
    exact ⟨rfl, (bel HT.out.bel (bel_d _)).mono hE, fun e => absurd e (by simp)⟩
  cases X1
  · go_enter Tryz.func39, Tryz.ntmps39
    go_wp2_with (go_at_call 74; refine HK1.out.mono ?_; rintro e w1 ⟨rfl, hw1⟩; have HT : Hid (TK w w1.heap.size G C L0 L1 L2 L3 L4 (w1.alloc (.cells #[.int .i64 L0, .int .i64 L1, .int .i64 L2, .int .i64 L3, .int .i64 L4] 144))) := (by exact ⟨bel hw1 (bel_alloc _ _), by simp [go_sem], by simp [go_sem], by simp [go_sem], by simp [go_sem], by simp [go_sem], kc (bel_alloc _ _) (kc hw1 g0)⟩))
    have HCX : Hid (∀ v, Below (w1.alloc (.cells #[.int .i64 L0, .int .i64 L1, .int .i64 L2, .int .i64 L3, .int .i64 L4] 144)).heap.size (w1.alloc (.cells #[.int .i64 L0, .int .i64 L1, .int .i64 L2, .int .i64 L3, .int .i64 L4] 144)) v → v.cell? ⟨G, 0, none⟩ = some (.pointer (some ⟨C, 0, none⟩)) ∧ v.cell? ⟨w1.heap.size, 0, none⟩ = some (.int .i64 L0) ∧ v.cell? ⟨w1.heap.size, 1, none⟩ = some (.int .i64 L1) ∧ v.cell? ⟨w1.heap.size, 2, none⟩ = some (.int .i64 L2) ∧ v.cell? ⟨w1.heap.size, 3, none⟩ = some (.int .i64 L3) ∧ v.cell? ⟨w1.heap.size, 4, none⟩ = some (.int .i64 L4)) := fun v hv => ⟨(HT.out.next hv).g0, (HT.out.next hv).r0, (HT.out.next hv).r1, (HT.out.next hv).r2, (HT.out.next hv).r3, (HT.out.next hv).r4⟩; obtain ⟨t0, t1, t2, t3, t4, t5⟩ := HCX.out _ (bel0 _)
    refine wp_region_held_drew (S := (fun v => v.cell? ⟨G, 0, none⟩ = some (.pointer (some ⟨C, 0, none⟩)) ∧ v.cell? ⟨w1.heap.size, 0, none⟩ = some (.int .i64 L0) ∧ v.cell? ⟨w1.heap.size, 1, none⟩ = some (.int .i64 L1) ∧ v.cell? ⟨w1.heap.size, 2, none⟩ = some (.int .i64 L2) ∧ v.cell? ⟨w1.heap.size, 3, none⟩ = some (.int .i64 L3) ∧ v.cell? ⟨w1.heap.size, 4, none⟩ = some (.int .i64 L4))) (by kernel_rfl) ?_ (fun hHeld => ?_)
    · ((try dsimp only); go_keep)
    refine wpAnyH_take (i := 0) (v := ?_) (by simp only [List.getElem?_toArray, List.getElem?_cons_succ, List.getElem?_cons_zero]; rfl) (by kernel_rfl) (by kernel_rfl) (by kernel_rfl) (by exact fun _ _ _ h => h) (Or.inl ⟨by rfl, ?_⟩) (by assumption) ?_
    rotate_left 1
    · (intro wS hSw; (try dsimp only at hSw); go_simp; try (with_reducible rfl))
    try simp only [Act.put, List.setIfInBounds_toArray, List.set_cons_zero, List.set_cons_succ]
    refine wpAnyH_take (i := 1) (v := ?_) (by simp only [List.getElem?_toArray, List.getElem?_cons_succ, List.getElem?_cons_zero]; rfl) (by kernel_rfl) (by kernel_rfl) (by kernel_rfl) (by exact fun _ _ _ h => h) (Or.inl ⟨by rfl, ?_⟩) (by assumption) ?_
    rotate_left 1
    · (intro wS hSw; (try dsimp only at hSw); go_simp; try (with_reducible rfl))
    try simp only [Act.put, List.setIfInBounds_toArray, List.set_cons_zero, List.set_cons_succ]
    refine wpAnyH_take (i := 2) (v := ?_) (by simp only [List.getElem?_toArray, List.getElem?_cons_succ, List.getElem?_cons_zero]; rfl) (by kernel_rfl) (by kernel_rfl) (by kernel_rfl) (by exact fun _ _ _ h => h) (Or.inl ⟨by rfl, ?_⟩) (by assumption) ?_
    rotate_left 1
    · (intro wS hSw; (try dsimp only at hSw); go_simp; try (with_reducible rfl))
    try simp only [Act.put, List.setIfInBounds_toArray, List.set_cons_zero, List.set_cons_succ]
    refine wpAnyH_take (i := 3) (v := ?_) (by simp only [List.getElem?_toArray, List.getElem?_cons_succ, List.getElem?_cons_zero]; rfl) (by kernel_rfl) (by kernel_rfl) (by kernel_rfl) (by exact fun _ _ _ h => h) (Or.inl ⟨by rfl, ?_⟩) (by assumption) ?_
    rotate_left 1
    · (intro wS hSw; (try dsimp only at hSw); go_simp; try (with_reducible rfl))
    try simp only [Act.put, List.setIfInBounds_toArray, List.set_cons_zero, List.set_cons_succ]
    refine wpAnyH_take (i := 4) (v := ?_) (by simp only [List.getElem?_toArray, List.getElem?_cons_succ, List.getElem?_cons_zero]; rfl) (by kernel_rfl) (by kernel_rfl) (by kernel_rfl) (by exact fun _ _ _ h => h) (Or.inl ⟨by rfl, ?_⟩) (by assumption) ?_
    rotate_left 1
    · (intro wS hSw; (try dsimp only at hSw); go_simp; try (with_reducible rfl))
    try simp only [Act.put, List.setIfInBounds_toArray, List.set_cons_zero, List.set_cons_succ]
    refine wpAnyH_take (i := 5) (v := ?_) (by simp only [List.getElem?_toArray, List.getElem?_cons_succ, List.getElem?_cons_zero]; rfl) (by kernel_rfl) (by kernel_rfl) (by kernel_rfl) (by exact fun _ _ _ h => h) (Or.inl ⟨by rfl, ?_⟩) (by assumption) ?_
    rotate_left 1
    · (intro wS hSw; (try dsimp only at hSw); go_simp; try (with_reducible rfl))
    try simp only [Act.put, List.setIfInBounds_toArray, List.set_cons_zero, List.set_cons_succ]
    refine wpAnyH_take (i := 6) (v := ?_) (by simp only [List.getElem?_toArray, List.getElem?_cons_succ, List.getElem?_cons_zero]; rfl) (by kernel_rfl) (by kernel_rfl) (by kernel_rfl) (by exact fun _ _ _ h => h) (Or.inl ⟨by rfl, ?_⟩) (by assumption) ?_
    rotate_left 1
    · (intro wS hSw; (try dsimp only at hSw); go_simp; try (with_reducible rfl))
    try simp only [Act.put, List.setIfInBounds_toArray, List.set_cons_zero, List.set_cons_succ]
    refine wpAnyH_take (i := 7) (v := ?_) (by simp only [List.getElem?_toArray, List.getElem?_cons_succ, List.getElem?_cons_zero]; rfl) (by kernel_rfl) (by kernel_rfl) (by kernel_rfl) (by exact fun _ _ _ h => h) (Or.inl ⟨by rfl, ?_⟩) (by assumption) ?_
    rotate_left 1
    · (intro wS hSw; (try dsimp only at hSw); go_simp; try (with_reducible rfl))
    try simp only [Act.put, List.setIfInBounds_toArray, List.set_cons_zero, List.set_cons_succ]
    refine wpAnyH_take (i := 8) (v := ?_) (by simp only [List.getElem?_toArray, List.getElem?_cons_succ, List.getElem?_cons_zero]; rfl) (by kernel_rfl) (by kernel_rfl) (by kernel_rfl) (by exact fun _ _ _ h => h) (Or.inl ⟨by rfl, ?_⟩) (by assumption) ?_
    rotate_left 1
    · (intro wS hSw; (try dsimp only at hSw); go_simp; try (with_reducible rfl))
    try simp only [Act.put, List.setIfInBounds_toArray, List.set_cons_zero, List.set_cons_succ]
    clear hHeld
    refine wpAnyH_ready (rs := [9]) (by kernel_rfl) (by simp) ?_
    refine AllReadyH.cons (i := 9) (by simp only [List.getElem?_toArray, List.getElem?_cons_succ, List.getElem?_cons_zero]; rfl) (fun K hK => ?_) AllReadyH.nil
    go_simp
    (go_at_call 75; refine (HK2.out _ (HC0.out.below (bel HT.out.bel (bel_d _))) (HI0.out.below (bel HT.out.bel (bel_d _)))).mono ?_; rintro e w2 ⟨rfl, hw2⟩; have HB2 := bel (bel_d _) hw2; obtain ⟨y0, y1, y2, y3, y4, y5⟩ := HCX.out w2 HB2)
    try (go_wp2_with fail)
    refine hK.out _ _ ?_ (fun hHeld => ?_)
    · ((try dsimp only); go_keep)
    clear hK K
    try simp only [Act.put, List.setIfInBounds_toArray, List.set_cons_zero, List.set_cons_succ]
    refine wpAnyH_take (i := 10) (v := ?_) (by simp only [List.getElem?_toArray, List.getElem?_cons_succ, List.getElem?_cons_zero]; rfl) (by kernel_rfl) (by kernel_rfl) (by kernel_rfl) (by exact fun _ _ _ h => h) (Or.inl ⟨by rfl, ?_⟩) (by assumption) ?_
    rotate_left 1
    · (intro wS hSw; (try dsimp only at hSw); go_simp; try (with_reducible rfl))
    try simp only [Act.put, List.setIfInBounds_toArray, List.set_cons_zero, List.set_cons_succ]
    refine wpAnyH_take (i := 11) (v := ?_) (by simp only [List.getElem?_toArray, List.getElem?_cons_succ, List.getElem?_cons_zero]; rfl) (by kernel_rfl) (by kernel_rfl) (by kernel_rfl) (by exact fun _ _ _ h => h) (Or.inl ⟨by rfl, ?_⟩) (by assumption) ?_
    rotate_left 1
    · (intro wS hSw; (try dsimp only at hSw); go_simp; try (with_reducible rfl))
    try simp only [Act.put, List.setIfInBounds_toArray, List.set_cons_zero, List.set_cons_succ]
    refine wpAnyH_take (i := 12) (v := ?_) (by simp only [List.getElem?_toArray, List.getElem?_cons_succ, List.getElem?_cons_zero]; rfl) (by kernel_rfl) (by kernel_rfl) (by kernel_rfl) (by exact fun _ _ _ h => h) (Or.inl ⟨by rfl, ?_⟩) (by assumption) ?_
    rotate_left 1
    · (intro wS hSw; (try dsimp only at hSw); go_simp; try (with_reducible rfl))
    try simp only [Act.put, List.setIfInBounds_toArray, List.set_cons_zero, List.set_cons_succ]
    refine wpAnyH_take (i := 13) (v := undef) (by simp only [List.getElem?_toArray, List.getElem?_cons_succ, List.getElem?_cons_zero]; rfl) (by kernel_rfl) (by kernel_rfl) (by kernel_rfl) (by exact fun _ _ _ h => h) (Or.inr ⟨by rfl, rfl⟩) (by assumption) ?_
    try simp only [Act.put, List.setIfInBounds_toArray, List.set_cons_zero, List.set_cons_succ]
    refine wpAnyH_take (i := 14) (v := undef) (by simp only [List.getElem?_toArray, List.getElem?_cons_succ, List.getElem?_cons_zero]; rfl) (by kernel_rfl) (by kernel_rfl) (by kernel_rfl) (by exact fun _ _ _ h => h) (Or.inr ⟨by rfl, rfl⟩) (by assumption) ?_
    try simp only [Act.put, List.setIfInBounds_toArray, List.set_cons_zero, List.set_cons_succ]
    refine wpAnyH_take (i := 15) (v := undef) (by simp only [List.getElem?_toArray, List.getElem?_cons_succ, List.getElem?_cons_zero]; rfl) (by kernel_rfl) (by kernel_rfl) (by kernel_rfl) (by exact fun _ _ _ h => h) (Or.inr ⟨by rfl, rfl⟩) (by assumption) ?_
    try simp only [Act.put, List.setIfInBounds_toArray, List.set_cons_zero, List.set_cons_succ]
    refine wpAnyH_take (i := 16) (v := undef) (by simp only [List.getElem?_toArray, List.getElem?_cons_succ, List.getElem?_cons_zero]; rfl) (by kernel_rfl) (by kernel_rfl) (by kernel_rfl) (by exact fun _ _ _ h => h) (Or.inr ⟨by rfl, rfl⟩) (by assumption) ?_
    try simp only [Act.put, List.setIfInBounds_toArray, List.set_cons_zero, List.set_cons_succ]
    refine wpAnyH_take (i := 17) (v := undef) (by simp only [List.getElem?_toArray, List.getElem?_cons_succ, List.getElem?_cons_zero]; rfl) (by kernel_rfl) (by kernel_rfl) (by kernel_rfl) (by exact fun _ _ _ h => h) (Or.inr ⟨by rfl, rfl⟩) (by assumption) ?_
    try simp only [Act.put, List.setIfInBounds_toArray, List.set_cons_zero, List.set_cons_succ]
    refine wpAnyH_take (i := 18) (v := ?_) (by simp only [List.getElem?_toArray, List.getElem?_cons_succ, List.getElem?_cons_zero]; rfl) (by kernel_rfl) (by kernel_rfl) (by kernel_rfl) (by exact fun _ _ _ h => h) (Or.inl ⟨by rfl, ?_⟩) (by assumption) ?_
    rotate_left 1
    · (intro wS hSw; (try dsimp only at hSw); go_simp; try (with_reducible rfl))
    try simp only [Act.put, List.setIfInBounds_toArray, List.set_cons_zero, List.set_cons_succ]
    refine wpAnyH_done (by kernel_rfl) ?_ _
    go_wp2
    go_ret
    exact ⟨rfl, (bel HT.out.bel HB2).mono hE, fun e => absurd e (by simp)⟩
  cases X2
  · go_enter Tryz.func39, Tryz.ntmps39
    go_wp2_with (go_at_call 74; refine HK1.out.mono ?_; rintro e w1 ⟨rfl, hw1⟩; have HT : Hid (TK w w1.heap.size G C L0 L1 L2 L3 L4 (w1.alloc (.cells #[.int .i64 L0, .int .i64 L1, .int .i64 L2, .int .i64 L3, .int .i64 L4] 144))) := (by exact ⟨bel hw1 (bel_alloc _ _), by simp [go_sem], by simp [go_sem], by simp [go_sem], by simp [go_sem], by simp [go_sem], kc (bel_alloc _ _) (kc hw1 g0)⟩))
    have HCX : Hid (∀ v, Below (w1.alloc (.cells #[.int .i64 L0, .int .i64 L1, .int .i64 L2, .int .i64 L3, .int .i64 L4] 144)).heap.size (w1.alloc (.cells #[.int .i64 L0, .int .i64 L1, .int .i64 L2, .int .i64 L3, .int .i64 L4] 144)) v → v.cell? ⟨G, 0, none⟩ = some (.pointer (some ⟨C, 0, none⟩)) ∧ v.cell? ⟨w1.heap.size, 0, none⟩ = some (.int .i64 L0) ∧ v.cell? ⟨w1.heap.size, 1, none⟩ = some (.int .i64 L1) ∧ v.cell? ⟨w1.heap.size, 2, none⟩ = some (.int .i64 L2) ∧ v.cell? ⟨w1.heap.size, 3, none⟩ = some (.int .i64 L3) ∧ v.cell? ⟨w1.heap.size, 4, none⟩ = some (.int .i64 L4)) := fun v hv => ⟨(HT.out.next hv).g0, (HT.out.next hv).r0, (HT.out.next hv).r1, (HT.out.next hv).r2, (HT.out.next hv).r3, (HT.out.next hv).r4⟩; obtain ⟨t0, t1, t2, t3, t4, t5⟩ := HCX.out _ (bel0 _)
    refine wp_region_held_drew (S := (fun v => v.cell? ⟨G, 0, none⟩ = some (.pointer (some ⟨C, 0, none⟩)) ∧ v.cell? ⟨w1.heap.size, 0, none⟩ = some (.int .i64 L0) ∧ v.cell? ⟨w1.heap.size, 1, none⟩ = some (.int .i64 L1) ∧ v.cell? ⟨w1.heap.size, 2, none⟩ = some (.int .i64 L2) ∧ v.cell? ⟨w1.heap.size, 3, none⟩ = some (.int .i64 L3) ∧ v.cell? ⟨w1.heap.size, 4, none⟩ = some (.int .i64 L4))) (by kernel_rfl) ?_ (fun hHeld => ?_)
    · ((try dsimp only); go_keep)
    refine wpAnyH_take (i := 0) (v := ?_) (by simp only [List.getElem?_toArray, List.getElem?_cons_succ, List.getElem?_cons_zero]; rfl) (by kernel_rfl) (by kernel_rfl) (by kernel_rfl) (by exact fun _ _ _ h => h) (Or.inl ⟨by rfl, ?_⟩) (by assumption) ?_
    rotate_left 1
    · (intro wS hSw; (try dsimp only at hSw); go_simp; try (with_reducible rfl))
    try simp only [Act.put, List.setIfInBounds_toArray, List.set_cons_zero, List.set_cons_succ]
    refine wpAnyH_take (i := 1) (v := ?_) (by simp only [List.getElem?_toArray, List.getElem?_cons_succ, List.getElem?_cons_zero]; rfl) (by kernel_rfl) (by kernel_rfl) (by kernel_rfl) (by exact fun _ _ _ h => h) (Or.inl ⟨by rfl, ?_⟩) (by assumption) ?_
    rotate_left 1
    · (intro wS hSw; (try dsimp only at hSw); go_simp; try (with_reducible rfl))
    try simp only [Act.put, List.setIfInBounds_toArray, List.set_cons_zero, List.set_cons_succ]
    refine wpAnyH_take (i := 2) (v := ?_) (by simp only [List.getElem?_toArray, List.getElem?_cons_succ, List.getElem?_cons_zero]; rfl) (by kernel_rfl) (by kernel_rfl) (by kernel_rfl) (by exact fun _ _ _ h => h) (Or.inl ⟨by rfl, ?_⟩) (by assumption) ?_
    rotate_left 1
    · (intro wS hSw; (try dsimp only at hSw); go_simp; try (with_reducible rfl))
    try simp only [Act.put, List.setIfInBounds_toArray, List.set_cons_zero, List.set_cons_succ]
    refine wpAnyH_take (i := 3) (v := ?_) (by simp only [List.getElem?_toArray, List.getElem?_cons_succ, List.getElem?_cons_zero]; rfl) (by kernel_rfl) (by kernel_rfl) (by kernel_rfl) (by exact fun _ _ _ h => h) (Or.inl ⟨by rfl, ?_⟩) (by assumption) ?_
    rotate_left 1
    · (intro wS hSw; (try dsimp only at hSw); go_simp; try (with_reducible rfl))
    try simp only [Act.put, List.setIfInBounds_toArray, List.set_cons_zero, List.set_cons_succ]
    refine wpAnyH_take (i := 4) (v := ?_) (by simp only [List.getElem?_toArray, List.getElem?_cons_succ, List.getElem?_cons_zero]; rfl) (by kernel_rfl) (by kernel_rfl) (by kernel_rfl) (by exact fun _ _ _ h => h) (Or.inl ⟨by rfl, ?_⟩) (by assumption) ?_
    rotate_left 1
    · (intro wS hSw; (try dsimp only at hSw); go_simp; try (with_reducible rfl))
    try simp only [Act.put, List.setIfInBounds_toArray, List.set_cons_zero, List.set_cons_succ]
    refine wpAnyH_take (i := 5) (v := ?_) (by simp only [List.getElem?_toArray, List.getElem?_cons_succ, List.getElem?_cons_zero]; rfl) (by kernel_rfl) (by kernel_rfl) (by kernel_rfl) (by exact fun _ _ _ h => h) (Or.inl ⟨by rfl, ?_⟩) (by assumption) ?_
    rotate_left 1
    · (intro wS hSw; (try dsimp only at hSw); go_simp; try (with_reducible rfl))
    try simp only [Act.put, List.setIfInBounds_toArray, List.set_cons_zero, List.set_cons_succ]
    refine wpAnyH_take (i := 6) (v := ?_) (by simp only [List.getElem?_toArray, List.getElem?_cons_succ, List.getElem?_cons_zero]; rfl) (by kernel_rfl) (by kernel_rfl) (by kernel_rfl) (by exact fun _ _ _ h => h) (Or.inl ⟨by rfl, ?_⟩) (by assumption) ?_
    rotate_left 1
    · (intro wS hSw; (try dsimp only at hSw); go_simp; try (with_reducible rfl))
    try simp only [Act.put, List.setIfInBounds_toArray, List.set_cons_zero, List.set_cons_succ]
    refine wpAnyH_take (i := 7) (v := ?_) (by simp only [List.getElem?_toArray, List.getElem?_cons_succ, List.getElem?_cons_zero]; rfl) (by kernel_rfl) (by kernel_rfl) (by kernel_rfl) (by exact fun _ _ _ h => h) (Or.inl ⟨by rfl, ?_⟩) (by assumption) ?_
    rotate_left 1
    · (intro wS hSw; (try dsimp only at hSw); go_simp; try (with_reducible rfl))
    try simp only [Act.put, List.setIfInBounds_toArray, List.set_cons_zero, List.set_cons_succ]
    refine wpAnyH_take (i := 8) (v := ?_) (by simp only [List.getElem?_toArray, List.getElem?_cons_succ, List.getElem?_cons_zero]; rfl) (by kernel_rfl) (by kernel_rfl) (by kernel_rfl) (by exact fun _ _ _ h => h) (Or.inl ⟨by rfl, ?_⟩) (by assumption) ?_
    rotate_left 1
    · (intro wS hSw; (try dsimp only at hSw); go_simp; try (with_reducible rfl))
    try simp only [Act.put, List.setIfInBounds_toArray, List.set_cons_zero, List.set_cons_succ]
    clear hHeld
    refine wpAnyH_ready (rs := [9]) (by kernel_rfl) (by simp) ?_
    refine AllReadyH.cons (i := 9) (by simp only [List.getElem?_toArray, List.getElem?_cons_succ, List.getElem?_cons_zero]; rfl) (fun K hK => ?_) AllReadyH.nil
    go_simp
    (go_at_call 75; refine (HK2.out _ (HC0.out.below (bel HT.out.bel (bel_d _))) (HI0.out.below (bel HT.out.bel (bel_d _)))).mono ?_; rintro e w2 ⟨rfl, hw2⟩; have HB2 := bel (bel_d _) hw2; obtain ⟨y0, y1, y2, y3, y4, y5⟩ := HCX.out w2 HB2)
    try (go_wp2_with fail)
    refine hK.out _ _ ?_ (fun hHeld => ?_)
    · ((try dsimp only); go_keep)
    clear hK K
    try simp only [Act.put, List.setIfInBounds_toArray, List.set_cons_zero, List.set_cons_succ]
    refine wpAnyH_take (i := 10) (v := ?_) (by simp only [List.getElem?_toArray, List.getElem?_cons_succ, List.getElem?_cons_zero]; rfl) (by kernel_rfl) (by kernel_rfl) (by kernel_rfl) (by exact fun _ _ _ h => h) (Or.inl ⟨by rfl, ?_⟩) (by assumption) ?_
    rotate_left 1
    · (intro wS hSw; (try dsimp only at hSw); go_simp; try (with_reducible rfl))
    try simp only [Act.put, List.setIfInBounds_toArray, List.set_cons_zero, List.set_cons_succ]
    refine wpAnyH_take (i := 11) (v := ?_) (by simp only [List.getElem?_toArray, List.getElem?_cons_succ, List.getElem?_cons_zero]; rfl) (by kernel_rfl) (by kernel_rfl) (by kernel_rfl) (by exact fun _ _ _ h => h) (Or.inl ⟨by rfl, ?_⟩) (by assumption) ?_
    rotate_left 1
    · (intro wS hSw; (try dsimp only at hSw); go_simp; try (with_reducible rfl))
    try simp only [Act.put, List.setIfInBounds_toArray, List.set_cons_zero, List.set_cons_succ]
    refine wpAnyH_take (i := 12) (v := ?_) (by simp only [List.getElem?_toArray, List.getElem?_cons_succ, List.getElem?_cons_zero]; rfl) (by kernel_rfl) (by kernel_rfl) (by kernel_rfl) (by exact fun _ _ _ h => h) (Or.inl ⟨by rfl, ?_⟩) (by assumption) ?_
    rotate_left 1
    · (intro wS hSw; (try dsimp only at hSw); go_simp; try (with_reducible rfl))
    try simp only [Act.put, List.setIfInBounds_toArray, List.set_cons_zero, List.set_cons_succ]
    refine wpAnyH_take (i := 13) (v := ?_) (by simp only [List.getElem?_toArray, List.getElem?_cons_succ, List.getElem?_cons_zero]; rfl) (by kernel_rfl) (by kernel_rfl) (by kernel_rfl) (by exact fun _ _ _ h => h) (Or.inl ⟨by rfl, ?_⟩) (by assumption) ?_
    rotate_left 1
    · (intro wS hSw; (try dsimp only at hSw); go_simp; try (with_reducible rfl))
    try simp only [Act.put, List.setIfInBounds_toArray, List.set_cons_zero, List.set_cons_succ]
    refine wpAnyH_take (i := 14) (v := ?_) (by simp only [List.getElem?_toArray, List.getElem?_cons_succ, List.getElem?_cons_zero]; rfl) (by kernel_rfl) (by kernel_rfl) (by kernel_rfl) (by exact fun _ _ _ h => h) (Or.inl ⟨by rfl, ?_⟩) (by assumption) ?_
    rotate_left 1
    · (intro wS hSw; (try dsimp only at hSw); go_simp; try (with_reducible rfl))
    try simp only [Act.put, List.setIfInBounds_toArray, List.set_cons_zero, List.set_cons_succ]
    refine wpAnyH_take (i := 15) (v := ?_) (by simp only [List.getElem?_toArray, List.getElem?_cons_succ, List.getElem?_cons_zero]; rfl) (by kernel_rfl) (by kernel_rfl) (by kernel_rfl) (by exact fun _ _ _ h => h) (Or.inl ⟨by rfl, ?_⟩) (by assumption) ?_
    rotate_left 1
    · (intro wS hSw; (try dsimp only at hSw); go_simp; try (with_reducible rfl))
    try simp only [Act.put, List.setIfInBounds_toArray, List.set_cons_zero, List.set_cons_succ]
    clear hHeld
    refine wpAnyH_ready (rs := [16]) (by kernel_rfl) (by simp) ?_
    refine AllReadyH.cons (i := 16) (by simp only [List.getElem?_toArray, List.getElem?_cons_succ, List.getElem?_cons_zero]; rfl) (fun K hK => ?_) AllReadyH.nil
    go_simp
    (go_at_call 76; refine (HK3.out _ (HS0.out.below (bel HT.out.bel HB2)) (HC0.out.below (bel HT.out.bel HB2)) (HI0.out.below (bel HT.out.bel HB2))).mono ?_; rintro e w3 ⟨rfl, hw3⟩; have HB3 := bel HB2 hw3; obtain ⟨y0, y1, y2, y3, y4, y5⟩ := HCX.out w3 HB3)
    try (go_wp2_with fail)
    refine hK.out _ _ ?_ (fun hHeld => ?_)
    · ((try dsimp only); go_keep)
    clear hK K
    try simp only [Act.put, List.setIfInBounds_toArray, List.set_cons_zero, List.set_cons_succ]
    refine wpAnyH_take (i := 17) (v := ?_) (by simp only [List.getElem?_toArray, List.getElem?_cons_succ, List.getElem?_cons_zero]; rfl) (by kernel_rfl) (by kernel_rfl) (by kernel_rfl) (by exact fun _ _ _ h => h) (Or.inl ⟨by rfl, ?_⟩) (by assumption) ?_
    rotate_left 1
    · (intro wS hSw; (try dsimp only at hSw); go_simp; try (with_reducible rfl))
    try simp only [Act.put, List.setIfInBounds_toArray, List.set_cons_zero, List.set_cons_succ]
    refine wpAnyH_take (i := 18) (v := ?_) (by simp only [List.getElem?_toArray, List.getElem?_cons_succ, List.getElem?_cons_zero]; rfl) (by kernel_rfl) (by kernel_rfl) (by kernel_rfl) (by exact fun _ _ _ h => h) (Or.inl ⟨by rfl, ?_⟩) (by assumption) ?_
    rotate_left 1
    · (intro wS hSw; (try dsimp only at hSw); go_simp; try (with_reducible rfl))
    try simp only [Act.put, List.setIfInBounds_toArray, List.set_cons_zero, List.set_cons_succ]
    refine wpAnyH_done (by kernel_rfl) ?_ _
    go_wp2
    go_ret
    exact ⟨rfl, (bel HT.out.bel HB3).mono hE, fun e => absurd e (by simp)⟩
  go_enter Tryz.func39, Tryz.ntmps39
  go_wp2_with (go_at_call 74; refine HK1.out.mono ?_; rintro e w1 ⟨rfl, hw1⟩; have HT : Hid (TK w w1.heap.size G C L0 L1 L2 L3 L4 (w1.alloc (.cells #[.int .i64 L0, .int .i64 L1, .int .i64 L2, .int .i64 L3, .int .i64 L4] 144))) := (by exact ⟨bel hw1 (bel_alloc _ _), by simp [go_sem], by simp [go_sem], by simp [go_sem], by simp [go_sem], by simp [go_sem], kc (bel_alloc _ _) (kc hw1 g0)⟩))
  have HCX : Hid (∀ v, Below (w1.alloc (.cells #[.int .i64 L0, .int .i64 L1, .int .i64 L2, .int .i64 L3, .int .i64 L4] 144)).heap.size (w1.alloc (.cells #[.int .i64 L0, .int .i64 L1, .int .i64 L2, .int .i64 L3, .int .i64 L4] 144)) v → v.cell? ⟨G, 0, none⟩ = some (.pointer (some ⟨C, 0, none⟩)) ∧ v.cell? ⟨w1.heap.size, 0, none⟩ = some (.int .i64 L0) ∧ v.cell? ⟨w1.heap.size, 1, none⟩ = some (.int .i64 L1) ∧ v.cell? ⟨w1.heap.size, 2, none⟩ = some (.int .i64 L2) ∧ v.cell? ⟨w1.heap.size, 3, none⟩ = some (.int .i64 L3) ∧ v.cell? ⟨w1.heap.size, 4, none⟩ = some (.int .i64 L4)) := fun v hv => ⟨(HT.out.next hv).g0, (HT.out.next hv).r0, (HT.out.next hv).r1, (HT.out.next hv).r2, (HT.out.next hv).r3, (HT.out.next hv).r4⟩; obtain ⟨t0, t1, t2, t3, t4, t5⟩ := HCX.out _ (bel0 _)
  refine wp_region_held_drew (S := (fun v => v.cell? ⟨G, 0, none⟩ = some (.pointer (some ⟨C, 0, none⟩)) ∧ v.cell? ⟨w1.heap.size, 0, none⟩ = some (.int .i64 L0) ∧ v.cell? ⟨w1.heap.size, 1, none⟩ = some (.int .i64 L1) ∧ v.cell? ⟨w1.heap.size, 2, none⟩ = some (.int .i64 L2) ∧ v.cell? ⟨w1.heap.size, 3, none⟩ = some (.int .i64 L3) ∧ v.cell? ⟨w1.heap.size, 4, none⟩ = some (.int .i64 L4))) (by kernel_rfl) ?_ (fun hHeld => ?_)
  · ((try dsimp only); go_keep)
  refine wpAnyH_take (i := 0) (v := ?_) (by simp only [List.getElem?_toArray, List.getElem?_cons_succ, List.getElem?_cons_zero]; rfl) (by kernel_rfl) (by kernel_rfl) (by kernel_rfl) (by exact fun _ _ _ h => h) (Or.inl ⟨by rfl, ?_⟩) (by assumption) ?_
  rotate_left 1
  · (intro wS hSw; (try dsimp only at hSw); go_simp; try (with_reducible rfl))
  try simp only [Act.put, List.setIfInBounds_toArray, List.set_cons_zero, List.set_cons_succ]
  refine wpAnyH_take (i := 1) (v := ?_) (by simp only [List.getElem?_toArray, List.getElem?_cons_succ, List.getElem?_cons_zero]; rfl) (by kernel_rfl) (by kernel_rfl) (by kernel_rfl) (by exact fun _ _ _ h => h) (Or.inl ⟨by rfl, ?_⟩) (by assumption) ?_
  rotate_left 1
  · (intro wS hSw; (try dsimp only at hSw); go_simp; try (with_reducible rfl))
  try simp only [Act.put, List.setIfInBounds_toArray, List.set_cons_zero, List.set_cons_succ]
  refine wpAnyH_take (i := 2) (v := ?_) (by simp only [List.getElem?_toArray, List.getElem?_cons_succ, List.getElem?_cons_zero]; rfl) (by kernel_rfl) (by kernel_rfl) (by kernel_rfl) (by exact fun _ _ _ h => h) (Or.inl ⟨by rfl, ?_⟩) (by assumption) ?_
  rotate_left 1
  · (intro wS hSw; (try dsimp only at hSw); go_simp; try (with_reducible rfl))
  try simp only [Act.put, List.setIfInBounds_toArray, List.set_cons_zero, List.set_cons_succ]
  refine wpAnyH_take (i := 3) (v := ?_) (by simp only [List.getElem?_toArray, List.getElem?_cons_succ, List.getElem?_cons_zero]; rfl) (by kernel_rfl) (by kernel_rfl) (by kernel_rfl) (by exact fun _ _ _ h => h) (Or.inl ⟨by rfl, ?_⟩) (by assumption) ?_
  rotate_left 1
  · (intro wS hSw; (try dsimp only at hSw); go_simp; try (with_reducible rfl))
  try simp only [Act.put, List.setIfInBounds_toArray, List.set_cons_zero, List.set_cons_succ]
  refine wpAnyH_take (i := 4) (v := ?_) (by simp only [List.getElem?_toArray, List.getElem?_cons_succ, List.getElem?_cons_zero]; rfl) (by kernel_rfl) (by kernel_rfl) (by kernel_rfl) (by exact fun _ _ _ h => h) (Or.inl ⟨by rfl, ?_⟩) (by assumption) ?_
  rotate_left 1
  · (intro wS hSw; (try dsimp only at hSw); go_simp; try (with_reducible rfl))
  try simp only [Act.put, List.setIfInBounds_toArray, List.set_cons_zero, List.set_cons_succ]
  refine wpAnyH_take (i := 5) (v := ?_) (by simp only [List.getElem?_toArray, List.getElem?_cons_succ, List.getElem?_cons_zero]; rfl) (by kernel_rfl) (by kernel_rfl) (by kernel_rfl) (by exact fun _ _ _ h => h) (Or.inl ⟨by rfl, ?_⟩) (by assumption) ?_
  rotate_left 1
  · (intro wS hSw; (try dsimp only at hSw); go_simp; try (with_reducible rfl))
  try simp only [Act.put, List.setIfInBounds_toArray, List.set_cons_zero, List.set_cons_succ]
  refine wpAnyH_take (i := 6) (v := ?_) (by simp only [List.getElem?_toArray, List.getElem?_cons_succ, List.getElem?_cons_zero]; rfl) (by kernel_rfl) (by kernel_rfl) (by kernel_rfl) (by exact fun _ _ _ h => h) (Or.inl ⟨by rfl, ?_⟩) (by assumption) ?_
  rotate_left 1
  · (intro wS hSw; (try dsimp only at hSw); go_simp; try (with_reducible rfl))
  try simp only [Act.put, List.setIfInBounds_toArray, List.set_cons_zero, List.set_cons_succ]
  refine wpAnyH_take (i := 7) (v := ?_) (by simp only [List.getElem?_toArray, List.getElem?_cons_succ, List.getElem?_cons_zero]; rfl) (by kernel_rfl) (by kernel_rfl) (by kernel_rfl) (by exact fun _ _ _ h => h) (Or.inl ⟨by rfl, ?_⟩) (by assumption) ?_
  rotate_left 1
  · (intro wS hSw; (try dsimp only at hSw); go_simp; try (with_reducible rfl))
  try simp only [Act.put, List.setIfInBounds_toArray, List.set_cons_zero, List.set_cons_succ]
  refine wpAnyH_take (i := 8) (v := ?_) (by simp only [List.getElem?_toArray, List.getElem?_cons_succ, List.getElem?_cons_zero]; rfl) (by kernel_rfl) (by kernel_rfl) (by kernel_rfl) (by exact fun _ _ _ h => h) (Or.inl ⟨by rfl, ?_⟩) (by assumption) ?_
  rotate_left 1
  · (intro wS hSw; (try dsimp only at hSw); go_simp; try (with_reducible rfl))
  try simp only [Act.put, List.setIfInBounds_toArray, List.set_cons_zero, List.set_cons_succ]
  clear hHeld
  refine wpAnyH_ready (rs := [9]) (by kernel_rfl) (by simp) ?_
  refine AllReadyH.cons (i := 9) (by simp only [List.getElem?_toArray, List.getElem?_cons_succ, List.getElem?_cons_zero]; rfl) (fun K hK => ?_) AllReadyH.nil
  go_simp
  (go_at_call 75; refine (HK2.out _ (HC0.out.below (bel HT.out.bel (bel_d _))) (HI0.out.below (bel HT.out.bel (bel_d _)))).mono ?_; rintro e w2 ⟨rfl, hw2⟩; have HB2 := bel (bel_d _) hw2; obtain ⟨y0, y1, y2, y3, y4, y5⟩ := HCX.out w2 HB2)
  try (go_wp2_with fail)
  refine hK.out _ _ ?_ (fun hHeld => ?_)
  · ((try dsimp only); go_keep)
  clear hK K
  try simp only [Act.put, List.setIfInBounds_toArray, List.set_cons_zero, List.set_cons_succ]
  refine wpAnyH_take (i := 10) (v := ?_) (by simp only [List.getElem?_toArray, List.getElem?_cons_succ, List.getElem?_cons_zero]; rfl) (by kernel_rfl) (by kernel_rfl) (by kernel_rfl) (by exact fun _ _ _ h => h) (Or.inl ⟨by rfl, ?_⟩) (by assumption) ?_
  rotate_left 1
  · (intro wS hSw; (try dsimp only at hSw); go_simp; try (with_reducible rfl))
  try simp only [Act.put, List.setIfInBounds_toArray, List.set_cons_zero, List.set_cons_succ]
  refine wpAnyH_take (i := 11) (v := ?_) (by simp only [List.getElem?_toArray, List.getElem?_cons_succ, List.getElem?_cons_zero]; rfl) (by kernel_rfl) (by kernel_rfl) (by kernel_rfl) (by exact fun _ _ _ h => h) (Or.inl ⟨by rfl, ?_⟩) (by assumption) ?_
  rotate_left 1
  · (intro wS hSw; (try dsimp only at hSw); go_simp; try (with_reducible rfl))
  try simp only [Act.put, List.setIfInBounds_toArray, List.set_cons_zero, List.set_cons_succ]
  refine wpAnyH_take (i := 12) (v := ?_) (by simp only [List.getElem?_toArray, List.getElem?_cons_succ, List.getElem?_cons_zero]; rfl) (by kernel_rfl) (by kernel_rfl) (by kernel_rfl) (by exact fun _ _ _ h => h) (Or.inl ⟨by rfl, ?_⟩) (by assumption) ?_
  rotate_left 1
  · (intro wS hSw; (try dsimp only at hSw); go_simp; try (with_reducible rfl))
  try simp only [Act.put, List.setIfInBounds_toArray, List.set_cons_zero, List.set_cons_succ]
  refine wpAnyH_take (i := 13) (v := ?_) (by simp only [List.getElem?_toArray, List.getElem?_cons_succ, List.getElem?_cons_zero]; rfl) (by kernel_rfl) (by kernel_rfl) (by kernel_rfl) (by exact fun _ _ _ h => h) (Or.inl ⟨by rfl, ?_⟩) (by assumption) ?_
  rotate_left 1
  · (intro wS hSw; (try dsimp only at hSw); go_simp; try (with_reducible rfl))
  try simp only [Act.put, List.setIfInBounds_toArray, List.set_cons_zero, List.set_cons_succ]
  refine wpAnyH_take (i := 14) (v := ?_) (by simp only [List.getElem?_toArray, List.getElem?_cons_succ, List.getElem?_cons_zero]; rfl) (by kernel_rfl) (by kernel_rfl) (by kernel_rfl) (by exact fun _ _ _ h => h) (Or.inl ⟨by rfl, ?_⟩) (by assumption) ?_
  rotate_left 1
  · (intro wS hSw; (try dsimp only at hSw); go_simp; try (with_reducible rfl))
  try simp only [Act.put, List.setIfInBounds_toArray, List.set_cons_zero, List.set_cons_succ]
  refine wpAnyH_take (i := 15) (v := ?_) (by simp only [List.getElem?_toArray, List.getElem?_cons_succ, List.getElem?_cons_zero]; rfl) (by kernel_rfl) (by kernel_rfl) (by kernel_rfl) (by exact fun _ _ _ h => h) (Or.inl ⟨by rfl, ?_⟩) (by assumption) ?_
  rotate_left 1
  · (intro wS hSw; (try dsimp only at hSw); go_simp; try (with_reducible rfl))
  try simp only [Act.put, List.setIfInBounds_toArray, List.set_cons_zero, List.set_cons_succ]
  clear hHeld
  refine wpAnyH_ready (rs := [16]) (by kernel_rfl) (by simp) ?_
  refine AllReadyH.cons (i := 16) (by simp only [List.getElem?_toArray, List.getElem?_cons_succ, List.getElem?_cons_zero]; rfl) (fun K hK => ?_) AllReadyH.nil
  go_simp
  (go_at_call 76; refine (HK3.out _ (HS0.out.below (bel HT.out.bel HB2)) (HC0.out.below (bel HT.out.bel HB2)) (HI0.out.below (bel HT.out.bel HB2))).mono ?_; rintro e w3 ⟨rfl, hw3⟩; have HB3 := bel HB2 hw3; obtain ⟨y0, y1, y2, y3, y4, y5⟩ := HCX.out w3 HB3)
  try (go_wp2_with fail)
  refine hK.out _ _ ?_ (fun hHeld => ?_)
  · ((try dsimp only); go_keep)
  clear hK K
  try simp only [Act.put, List.setIfInBounds_toArray, List.set_cons_zero, List.set_cons_succ]
  refine wpAnyH_take (i := 17) (v := ?_) (by simp only [List.getElem?_toArray, List.getElem?_cons_succ, List.getElem?_cons_zero]; rfl) (by kernel_rfl) (by kernel_rfl) (by kernel_rfl) (by exact fun _ _ _ h => h) (Or.inl ⟨by rfl, ?_⟩) (by assumption) ?_
  rotate_left 1
  · (intro wS hSw; (try dsimp only at hSw); go_simp; try (with_reducible rfl))
  try simp only [Act.put, List.setIfInBounds_toArray, List.set_cons_zero, List.set_cons_succ]
  refine wpAnyH_take (i := 18) (v := ?_) (by simp only [List.getElem?_toArray, List.getElem?_cons_succ, List.getElem?_cons_zero]; rfl) (by kernel_rfl) (by kernel_rfl) (by kernel_rfl) (by exact fun _ _ _ h => h) (Or.inl ⟨by rfl, ?_⟩) (by assumption) ?_
  rotate_left 1
  · (intro wS hSw; (try dsimp only at hSw); go_simp; try (with_reducible rfl))
  try simp only [Act.put, List.setIfInBounds_toArray, List.set_cons_zero, List.set_cons_succ]
  refine wpAnyH_done (by kernel_rfl) ?_ _
  have HT3 : Hid (TK w w1.heap.size G C L0 L1 L2 L3 L4 w3) := HT.out.next HB3
  clear HB2 HB3 hw2 hw3
  go_wp2_with (go_at_call 77; refine (HK4.out _ (HI0.out.below HT3.out.bel)).mono ?_; rintro e w4 ⟨u, rfl, hu, hw4⟩; obtain ⟨pu, cu, hue⟩ := own_len hu; subst hue; have HU : Hid (w4.ownsRow w3.heap.size 3 1 (.slice pu RL.length cu) RL.length (i64s RL)) := hu; have HT4 : Hid (TK w w1.heap.size G C L0 L1 L2 L3 L4 w4) := HT3.out.next hw4; clear hu hw4)
  have HSW : Hid (WS E G C n gi vs vo w4 s) := HS0.out.below HT4.out.bel
  have k0 := HT4.out.r0
  have k1 := HT4.out.r1
  have k2 := HT4.out.r2
  have k3 := HT4.out.r3
  have k4 := HT4.out.r4
  have HFX : Hid (∀ j (hj : j < RL.length), ∃ (gu x : Nat), pu = some ⟨gu, 0, none⟩ ∧ w4.cell? ⟨gu, j, none⟩ = some (.int .i64 (x : Int)) ∧ x < n ∧ w4.cell? ⟨gi, x, none⟩ = some (.bool (decide (x ∈ s.set))) ∧ decide (x ∈ s.set) = decide (RL[j].toNat ∈ s.set)) := fun j hj => by
    obtain ⟨gu, cap, hv, _, _, _, _, hcl⟩ := own_open HU.out (by omega)
    simp only [Value.slice.injEq] at hv
    have hx := HKL.out (by first | rfl | trivial) RL[j] (List.getElem_mem hj)
    refine ⟨gu, RL[j].toNat, hv.1, ?_, by omega, HSW.out.i.cell (by omega), rfl⟩
    rw [show ((RL[j].toNat : Nat) : Int) = RL[j] by omega]
    exact hcl j _ (by simp [i64s, List.getElem?_eq_getElem hj])
  have d1 := HSW.out.c1
  obtain ⟨M, hM⟩ : ∃ M, RL.length = M := ⟨_, rfl⟩
  have HM : Hid (RL.length = M) := hM
  rw [hM] at KN ⊢
  clear hM
  go_loopw [40] (fun iv wr => wr = w4 ∧ ∃ j : Nat, j ≤ M ∧ iv = .int .i64 j ∧ Hid (∀ i (h : i < RL.length), i < j → decide (RL[i].toNat ∈ s.set) = true)) (fun iv _ => M - (intOf iv).toNat)
  case atStart => exact ⟨rfl, 0, Nat.zero_le _, rfl, fun i h hi => absurd hi (Nat.not_lt_zero _)⟩
  case round =>
    clear HT HT3 HCX t0 t1 t2 t3 t4 t5 y0 y1 y2 y3 y4 y5
    obtain ⟨rfl, j, hj, rfl, hp⟩ := hrel
    by_cases hlt : j < M
    · have hll : j < RL.length := by rw [HM.out]; exact hlt
      obtain ⟨gu, x, rfl, a1, a2, a3, a4⟩ := HFX.out j hll
      have NX : Hid (decide (RL[j].toNat ∈ s.set) = true → ∀ i (h : i < RL.length), i < j + 1 → decide (RL[i].toNat ∈ s.set) = true) := fun hq i h hi => by
        by_cases e : i = j
        · subst e; exact hq
        · exact hp.out i h (by omega)
      have NB : Hid (decide (RL[j].toNat ∈ s.set) = false → (RL.all fun n => decide (n.toNat ∈ s.set)) = false) := fun h => List.all_eq_false.2 ⟨RL[j], List.getElem_mem hll, by rw [h]; decide⟩
      rw [← a4] at NX NB
      have i1 : (0 : Int) ≤ (j : Int) := by omega
      have i2 : (j : Int) < (M : Int) := by omega
      have i3 : (0 : Int) ≤ (x : Int) := by omega
      have i4 : (x : Int) < (n : Int) := by omega
      obtain ⟨Y, hY⟩ : ∃ Y, decide (x ∈ s.set) = Y := ⟨_, rfl⟩
      rw [hY] at NX NB a3
      clear hp hY a4 HFX HU
      cases Y
      · go_wp2
        go_ret
        have hF : AL = false := by rw [← HAL.out]; exact NB.out (by first | rfl | trivial)
        exact ⟨by rw [hF]; rfl, HT4.out.bel.mono hE, fun e => absurd e (by simp [hF])⟩
      · go_wp2
        go_roundw
        case rel => exact ⟨by first | rfl | trivial, j + 1, by omega, by go_num, NX.out (by first | rfl | trivial)⟩
        case measure => simp [intOf]; omega
    · have : j = M := by omega
      subst this
      have HF : Hid ((RL.all fun n => decide (n.toNat ∈ s.set)) = true) := List.all_eq_true.2 fun t ht => by
        obtain ⟨i, hi, rfl⟩ := List.mem_iff_getElem.1 ht
        exact hp.out i hi (by rw [← HM.out]; exact hi)
      clear hp
      go_wp2_with (go_at_call 78; refine (HK5.out (by first | rfl | trivial) (by first | rfl | trivial) _ HSW.out (HI0.out.below HT4.out.bel)).mono ?_; rintro e w6 ⟨rfl, hb6, hws⟩; have HB6 : Hid (Below E wr w6) := hb6; have HWS : Hid (∃ vs' vo', WS E G C n gi vs' vo' w6 Z) := hws; clear hb6 hws)
      go_ret
      exact ⟨by rw [← HAL.out, HF.out]; rfl, (HT4.out.bel.mono hE).trans HB6.out, fun _ => HWS.out⟩

end Go.Proofs.YtnlgkkbmbijndaaGreat
