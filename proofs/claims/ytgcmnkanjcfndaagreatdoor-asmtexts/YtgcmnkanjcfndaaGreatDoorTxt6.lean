import Derived.Test.YtgcmnkanjcfndaaGreatDoorTxt1
import Derived.Test.YtgcmnkanjcfndaaGreatDoorTxt5
import Derived.Shelf.Strings.Builder1
import Derived.Shelf.Small.Strs
import Derived.Shelf.LaysM
import Derived.Shelf.Strconv.Clone
import Derived.Shelf.Strings.Search1
import Derived.Shelf.Strings.Prefix
import Derived.Test.YtgcmnkanjcfndaaGreatDoorProg
namespace Go.Proofs.YtgcmnkanjcfndaaGreatDoor
open Go.RowKit
set_option linter.unusedVariables false
set_option linter.unusedSimpArgs false
theorem row_nine {op : Int} (h : (rowP op).n = 9) : ((op = 29 ∨ op = 30) ∧ (rowP op).d = 3) ∨ (op = 31 ∧ (rowP op).d = 0 ∧ (rowP op).a = 3) := by
 have key : ∀ k : Fin 38, (rowP (k.val : Int)).n = 9 → k.val = 29 ∨ k.val = 30 ∨ k.val = 31 := by decide +kernel
 by_cases hk : knownP op = true
 ·have hh : 1 ≤ op ∧ op ≤ 37 := by unfold knownP at hk; simp at hk; exact hk
  have e : ((⟨op.toNat, by omega⟩ : Fin 38).val : Int) = op := by show ((op.toNat : Nat) : Int) = op; omega
  have := key ⟨op.toNat, by omega⟩ (by rw [e]; exact h)
  simp only at this
  rcases this with h1 | h1 | h1
  ·have : op = 29 := by omega
   subst this; exact .inl ⟨.inl rfl, rfl⟩
  ·have : op = 30 := by omega
   subst this; exact .inl ⟨.inr rfl, rfl⟩
  ·have : op = 31 := by omega
   subst this; exact .inr ⟨rfl, rfl, rfl⟩
 ·rw [row_none op (by simpa using hk)] at h
  exact absurd h (by decide)
theorem reg_vector {c : Cd} {n : Int} {m : Ty} (ht : typesMay c = true) (h : fitsReg c.regs 3 n m = true) : isPl (regT c.regs n).par c.sign.length = true := by
 unfold fitsReg at h
 rw [if_neg (by decide)] at h
 simp only [Bool.and_eq_true] at h
 obtain ⟨h1, h2⟩ := h
 obtain ⟨k, hk, hl⟩ := pl_nat h1
 rw [regT_at hk hl] at h2 ⊢
 have hm : c.regs[k].kind = 3 := by
  unfold meansP at h2
  rw [if_neg (by decide), if_neg (by decide), if_pos rfl] at h2
  simpa using h2
 have := List.all_eq_true.1 ht c.regs[k] (List.getElem_mem hl)
 unfold typeMay at this
 rw [if_neg (by omega), if_pos hm] at this
 exact this
theorem main_part {c : Cd} {i : Ins} (ht : typesMay c = true) (hd : fitsReg c.regs (rowP i.op).d i.d (mainT c.regs i (rowP i.op)) = true) (ha : fitsReg c.regs (rowP i.op).a i.a (mainT c.regs i (rowP i.op)) = true) (h9 : (rowP i.op).n = 9) : isPl (mainT c.regs i (rowP i.op)).par c.sign.length = true := by
 rcases row_nine h9 with ⟨_, e⟩ | ⟨_, e, e2⟩
 ·rw [e] at hd
  have := reg_vector ht hd
  unfold mainT mainR
  rw [e, if_neg (by decide)]
  exact this
 ·rw [e2] at ha
  have := reg_vector ht ha
  unfold mainT mainR
  rw [e, if_pos rfl]
  exact this
theorem reads_lt {c : Cd} {i : Ins} {r : Rw} (h : fitsC c i r = true) : ∀ x ∈ readsP i r, 0 ≤ x ∧ x < (c.regs.length : Int) := by
 intro x hx
 unfold readsP at hx
 rcases List.mem_append.1 hx with hx | hx
 ·by_cases e : r.a = 0
  ·rw [if_pos e] at hx; cases hx
  ·rw [if_neg e] at hx; simp at hx; subst hx; exact fitsReg_lt (fitsC_a h) e
 rcases List.mem_append.1 hx with hx | hx
 ·by_cases e : r.b = 0
  ·rw [if_pos e] at hx; cases hx
  ·rw [if_neg e] at hx; simp at hx; subst hx; exact fitsReg_lt (fitsC_b h) e
 ·by_cases e : r.c = 0
  ·rw [if_pos e] at hx; cases hx
  ·rw [if_neg e] at hx; simp at hx; subst hx; exact fitsReg_lt (fitsC_c h) e
theorem reads_len (i : Ins) (r : Rw) : (readsP i r).length ≤ 3 := by
 rw [reads_eq]
 simp only [List.length_append]
 have := rd1_le r.a i.a
 have := rd1_le r.b i.b
 have := rd1_le r.c i.c
 omega
theorem stand_close {c : Cd} {s : Wk} {i : Ins} {r : Rw} (h : mayStandP c s i r = true) (e : i.op = 35 ∨ i.op = 37) : s.opens ≠ [] := by
 unfold mayStandP at h
 rw [if_neg (by omega)] at h
 intro hO
 rcases e with e | e
 ·rw [if_pos e, hO] at h; simp at h
 ·rw [if_neg (by omega), if_pos e] at h
  unfold inLoop at h
  rw [hO] at h
  cases h
structure TK (w : World) (H G C : Nat) (L0 L1 L2 L3 L4 : Int) (v : World) : Prop where
 bel : Below w.heap.size w v
 r0 : v.cell? ⟨H, 0, none⟩ = some (.int .i64 L0)
 r1 : v.cell? ⟨H, 1, none⟩ = some (.int .i64 L1)
 r2 : v.cell? ⟨H, 2, none⟩ = some (.int .i64 L2)
 r3 : v.cell? ⟨H, 3, none⟩ = some (.int .i64 L3)
 r4 : v.cell? ⟨H, 4, none⟩ = some (.int .i64 L4)
 g0 : v.cell? ⟨G, 0, none⟩ = some (.pointer (some ⟨C, 0, none⟩))
theorem TK.next {w : World} {H G C : Nat} {L0 L1 L2 L3 L4 : Int} {v v' : World} (h : TK w H G C L0 L1 L2 L3 L4 v) (k : Below v.heap.size v v') : TK w H G C L0 L1 L2 L3 L4 v' :=
 ⟨Go.Proofs.YtgcmnkanjcfndaaGreatDoor.bel h.bel k, kc k h.r0, kc k h.r1, kc k h.r2, kc k h.r3, kc k h.r4, kc k h.g0⟩
set_option maxRecDepth 100000 in
set_option maxHeartbeats 4000000 in
theorem take_any (E G C n gi : Nat) (vs vo : Value) (s : Wk) (v0 v1 v2 v3 : Value) (c : Cd) (hk : CdOk c) (b o : Nat) (i : Ins) (w : World) (h : WS E G C n gi vs vo w s) (hnn : c.regs.length = n) (ok : OkS n s) (hn : n ≤ 16384) (hc : CdAt w C v0 v1 v2 v3 c) (hi : CellsAt w b o (inC i)) (hbE : b < E) (htm : typesMay c = true) (hb0 : 0 ≤ i.bits) (hb1 : i.bits < 4294967296) :
  Calls Tryz.prog 37 #[.pointer (some ⟨G, 0, none⟩), .pointer (some ⟨b, o, none⟩)] w fun e w' => e = .returned (.bool (takesP c s i)) ∧ Below E w w' ∧ (takesP c s i = true → ∃ vs' vo', WS E G C n gi vs' vo' w' (stepP s i)) := by
 have K1 := rowOf_any i.op w
 have K2 := fun v h1 h2 => fits_any C v0 v1 v2 v3 c hk b o i (rowP i.op) v h1 h2 hb0 hb1 (main_part htm)
 have K3 := fun v h1 h2 h3 => mayStand_any E G C n gi vs vo s v0 v1 v2 v3 c hk b o i (rowP i.op) v h1 ok.nest h2 h3
 have K4 := fun v h1 => readBy_any b o i (rowP i.op) v h1
 have K5 := fun (hf : fitsC c i (rowP i.op) = true) (hs : mayStandP c s i (rowP i.op) = true) v h1 h2 => pass_any E G C n gi vs vo s b o i (rowP i.op) v h1 ok hn h2 hbE (stand_open hs) (stand_close hs) (fun hd => by have := fitsReg_lt (fitsC_d hf) hd; rw [hnn] at this; exact this)
 have KL : fitsC c i (rowP i.op) = true → ∀ x ∈ readsP i (rowP i.op), 0 ≤ x ∧ x < (n : Int) := fun hf => by have := reads_lt hf; rw [hnn] at this; exact this
 have KN := reads_len i (rowP i.op)
 have HC0 : Hid (CdAt w C v0 v1 v2 v3 c) := hc
 have HI0 : Hid (CellsAt w b o (inC i)) := hi
 have HS0 : Hid (WS E G C n gi vs vo w s) := h
 have e0 := hi.at 0 rfl
 rw [Nat.add_zero] at e0
 have hE := h.lt
 have g0 := h.c0
 unfold takesP stepP
 have hro : readOK s i (rowP i.op) = (readsP i (rowP i.op)).all fun n => decide (n.toNat ∈ s.set) := rfl
 rw [hro]
 obtain ⟨op, hop⟩ : ∃ x, i.op = x := ⟨_, rfl⟩
 rw [hop] at K1 K2 K3 K4 K5 KL KN e0 ⊢
 obtain ⟨r, hr⟩ : ∃ r, rowP op = r := ⟨_, rfl⟩
 simp only [hr] at K1 K2 K3 K4 K5 KL KN ⊢
 obtain ⟨X0, hX0⟩ : ∃ X, knownP op = X := ⟨_, rfl⟩
 obtain ⟨X1, hX1⟩ : ∃ X, fitsC c i r = X := ⟨_, rfl⟩
 obtain ⟨X2, hX2⟩ : ∃ X, mayStandP c s i r = X := ⟨_, rfl⟩
 obtain ⟨RL, hRL⟩ : ∃ X, readsP i r = X := ⟨_, rfl⟩
 obtain ⟨Z, hZ⟩ : ∃ Z, passP s i r = Z := ⟨_, rfl⟩
 obtain ⟨AL, hAL⟩ : ∃ X, ((readsP i r).all fun n => decide (n.toNat ∈ s.set)) = X := ⟨_, rfl⟩
 rw [hAL]
 simp only [hX0] at K1 ⊢
 simp only [hX1] at K2 K5 KL ⊢
 simp only [hX2] at K3 K5 ⊢
 simp only [hRL] at K4 KL KN
 rw [hRL] at hAL
 have HAL : Hid ((RL.all fun n => decide (n.toNat ∈ s.set)) = AL) := hAL
 simp only [hZ] at K5 ⊢
 obtain ⟨L0, L1, L2, L3, L4⟩ := r
 unfold rwV at K1 K2 K3 K4 K5
 simp only at K1 K2 K3 K4 K5
 have HK1 : Hid (Calls Tryz.prog 72 #[.int .i64 op] w fun e w' => e = .returned (.tuple #[.agg #[.int .i64 L0, .int .i64 L1, .int .i64 L2, .int .i64 L3, .int .i64 L4], .bool X0]) ∧ Below w.heap.size w w') := K1
 have HK2 : Hid (∀ v, CdAt v C v0 v1 v2 v3 c → CellsAt v b o (inC i) → Calls Tryz.prog 73 #[.pointer (some ⟨C, 0, none⟩), .pointer (some ⟨b, o, none⟩), .agg #[.int .i64 L0, .int .i64 L1, .int .i64 L2, .int .i64 L3, .int .i64 L4]] v fun e w' => e = .returned (.bool X1) ∧ Below v.heap.size v w') := K2
 have HK3 : Hid (∀ v, WS E G C n gi vs vo v s → CdAt v C v0 v1 v2 v3 c → CellsAt v b o (inC i) → Calls Tryz.prog 74 #[.pointer (some ⟨G, 0, none⟩), .pointer (some ⟨b, o, none⟩), .agg #[.int .i64 L0, .int .i64 L1, .int .i64 L2, .int .i64 L3, .int .i64 L4]] v fun e w' => e = .returned (.bool X2) ∧ Below v.heap.size v w') := K3
 have HK4 : Hid (∀ v, CellsAt v b o (inC i) → Calls Tryz.prog 75 #[.agg #[.int .i64 L0, .int .i64 L1, .int .i64 L2, .int .i64 L3, .int .i64 L4], .pointer (some ⟨b, o, none⟩)] v fun e w' => ∃ u, e = .returned u ∧ w'.ownsRow v.heap.size 3 1 u RL.length (i64s RL) ∧ Below v.heap.size v w') := K4
 have HK5 : Hid (X1 = true → X2 = true → ∀ v, WS E G C n gi vs vo v s → CellsAt v b o (inC i) → Calls Tryz.prog 76 #[.pointer (some ⟨G, 0, none⟩), .pointer (some ⟨b, o, none⟩), .agg #[.int .i64 L0, .int .i64 L1, .int .i64 L2, .int .i64 L3, .int .i64 L4]] v fun e w' => e = .returned (.tuple #[]) ∧ Below E v w' ∧ ∃ vs' vo', WS E G C n gi vs' vo' w' Z) := K5
 have HKL : Hid (X1 = true → ∀ x ∈ RL, 0 ≤ x ∧ x < (n : Int)) := KL
 clear K1 K2 K3 K4 K5 KL h hc hi hk hro hop hr hX0 hX1 hX2 hRL hZ hAL hb0 hb1 htm ok hnn
 cases X0
 ·go_enter Tryz.func37, Tryz.ntmps37
  go_wp2_with (go_at_call 72; refine HK1.out.mono ?_; rintro e w1 ⟨rfl, hw1⟩; have HT : Hid (TK w w1.heap.size G C L0 L1 L2 L3 L4 (w1.alloc (.cells #[.int .i64 L0, .int .i64 L1, .int .i64 L2, .int .i64 L3, .int .i64 L4] 129))) := (by exact ⟨bel hw1 (bel_alloc _ _), by simp [go_sem], by simp [go_sem], by simp [go_sem], by simp [go_sem], by simp [go_sem], kc (bel_alloc _ _) (kc hw1 g0)⟩))
  have HCX : Hid (∀ v, Below (w1.alloc (.cells #[.int .i64 L0, .int .i64 L1, .int .i64 L2, .int .i64 L3, .int .i64 L4] 129)).heap.size (w1.alloc (.cells #[.int .i64 L0, .int .i64 L1, .int .i64 L2, .int .i64 L3, .int .i64 L4] 129)) v → v.cell? ⟨G, 0, none⟩ = some (.pointer (some ⟨C, 0, none⟩)) ∧ v.cell? ⟨w1.heap.size, 0, none⟩ = some (.int .i64 L0) ∧ v.cell? ⟨w1.heap.size, 1, none⟩ = some (.int .i64 L1) ∧ v.cell? ⟨w1.heap.size, 2, none⟩ = some (.int .i64 L2) ∧ v.cell? ⟨w1.heap.size, 3, none⟩ = some (.int .i64 L3) ∧ v.cell? ⟨w1.heap.size, 4, none⟩ = some (.int .i64 L4)) := fun v hv => ⟨(HT.out.next hv).g0, (HT.out.next hv).r0, (HT.out.next hv).r1, (HT.out.next hv).r2, (HT.out.next hv).r3, (HT.out.next hv).r4⟩; obtain ⟨t0, t1, t2, t3, t4, t5⟩ := HCX.out _ (bel0 _)
  refine wp_region_held_drew (S := (fun v => v.cell? ⟨G, 0, none⟩ = some (.pointer (some ⟨C, 0, none⟩)) ∧ v.cell? ⟨w1.heap.size, 0, none⟩ = some (.int .i64 L0) ∧ v.cell? ⟨w1.heap.size, 1, none⟩ = some (.int .i64 L1) ∧ v.cell? ⟨w1.heap.size, 2, none⟩ = some (.int .i64 L2) ∧ v.cell? ⟨w1.heap.size, 3, none⟩ = some (.int .i64 L3) ∧ v.cell? ⟨w1.heap.size, 4, none⟩ = some (.int .i64 L4))) (by kernel_rfl) ?_ (fun hHeld => ?_)
  ·((try dsimp only); go_keep)
  refine tkT 0 ?_
  refine tkT 1 ?_
  refine tkT 2 ?_
  refine tkK 3 ?_
  refine tkK 4 ?_
  refine tkK 5 ?_
  refine tkK 6 ?_
  refine tkK 7 ?_
  refine tkK 8 ?_
  refine tkK 9 ?_
  refine tkK 10 ?_
  refine tkT 11 ?_
  refine tkT 12 ?_
  refine tkK 13 ?_
  refine tkK 14 ?_
  refine tkK 15 ?_
  refine tkK 16 ?_
  refine tkK 17 ?_
  refine tkT 18 ?_
  refine wpAnyH_done (by kernel_rfl) ?_ _
  go_wp2
  go_ret
  exact ⟨rfl, (bel HT.out.bel (bel_d _)).mono hE, fun e => absurd e (by simp)⟩
 cases X1
 ·go_enter Tryz.func37, Tryz.ntmps37
  go_wp2_with (go_at_call 72; refine HK1.out.mono ?_; rintro e w1 ⟨rfl, hw1⟩; have HT : Hid (TK w w1.heap.size G C L0 L1 L2 L3 L4 (w1.alloc (.cells #[.int .i64 L0, .int .i64 L1, .int .i64 L2, .int .i64 L3, .int .i64 L4] 129))) := (by exact ⟨bel hw1 (bel_alloc _ _), by simp [go_sem], by simp [go_sem], by simp [go_sem], by simp [go_sem], by simp [go_sem], kc (bel_alloc _ _) (kc hw1 g0)⟩))
  have HCX : Hid (∀ v, Below (w1.alloc (.cells #[.int .i64 L0, .int .i64 L1, .int .i64 L2, .int .i64 L3, .int .i64 L4] 129)).heap.size (w1.alloc (.cells #[.int .i64 L0, .int .i64 L1, .int .i64 L2, .int .i64 L3, .int .i64 L4] 129)) v → v.cell? ⟨G, 0, none⟩ = some (.pointer (some ⟨C, 0, none⟩)) ∧ v.cell? ⟨w1.heap.size, 0, none⟩ = some (.int .i64 L0) ∧ v.cell? ⟨w1.heap.size, 1, none⟩ = some (.int .i64 L1) ∧ v.cell? ⟨w1.heap.size, 2, none⟩ = some (.int .i64 L2) ∧ v.cell? ⟨w1.heap.size, 3, none⟩ = some (.int .i64 L3) ∧ v.cell? ⟨w1.heap.size, 4, none⟩ = some (.int .i64 L4)) := fun v hv => ⟨(HT.out.next hv).g0, (HT.out.next hv).r0, (HT.out.next hv).r1, (HT.out.next hv).r2, (HT.out.next hv).r3, (HT.out.next hv).r4⟩; obtain ⟨t0, t1, t2, t3, t4, t5⟩ := HCX.out _ (bel0 _)
  refine wp_region_held_drew (S := (fun v => v.cell? ⟨G, 0, none⟩ = some (.pointer (some ⟨C, 0, none⟩)) ∧ v.cell? ⟨w1.heap.size, 0, none⟩ = some (.int .i64 L0) ∧ v.cell? ⟨w1.heap.size, 1, none⟩ = some (.int .i64 L1) ∧ v.cell? ⟨w1.heap.size, 2, none⟩ = some (.int .i64 L2) ∧ v.cell? ⟨w1.heap.size, 3, none⟩ = some (.int .i64 L3) ∧ v.cell? ⟨w1.heap.size, 4, none⟩ = some (.int .i64 L4))) (by kernel_rfl) ?_ (fun hHeld => ?_)
  ·((try dsimp only); go_keep)
  refine tkT 0 ?_
  refine tkT 1 ?_
  refine tkT 2 ?_
  refine tkT 3 ?_
  refine tkT 4 ?_
  refine tkT 5 ?_
  refine tkT 6 ?_
  refine tkT 7 ?_
  refine tkT 8 ?_
  clear hHeld
  refine wpAnyH_ready (rs := [9]) (by kernel_rfl) (by simp) ?_
  refine AllReadyH.cons (i := 9) (by simp only [List.getElem?_toArray, List.getElem?_cons_succ, List.getElem?_cons_zero]; rfl) (fun K hK => ?_) AllReadyH.nil
  go_simp
  (go_at_call 73; refine (HK2.out _ (HC0.out.below (bel HT.out.bel (bel_d _))) (HI0.out.below (bel HT.out.bel (bel_d _)))).mono ?_; rintro e w2 ⟨rfl, hw2⟩; have HB2 := bel (bel_d _) hw2; obtain ⟨y0, y1, y2, y3, y4, y5⟩ := HCX.out w2 HB2)
  try (go_wp2_with fail)
  refine hK.out _ _ ?_ (fun hHeld => ?_)
  ·((try dsimp only); go_keep)
  clear hK K
  try simp only [Act.put, List.setIfInBounds_toArray, List.set_cons_zero, List.set_cons_succ]
  refine tkT 10 ?_
  refine tkT 11 ?_
  refine tkT 12 ?_
  refine tkK 13 ?_
  refine tkK 14 ?_
  refine tkK 15 ?_
  refine tkK 16 ?_
  refine tkK 17 ?_
  refine tkT 18 ?_
  refine wpAnyH_done (by kernel_rfl) ?_ _
  go_wp2
  go_ret
  exact ⟨rfl, (bel HT.out.bel HB2).mono hE, fun e => absurd e (by simp)⟩
 cases X2
 ·go_enter Tryz.func37, Tryz.ntmps37
  go_wp2_with (go_at_call 72; refine HK1.out.mono ?_; rintro e w1 ⟨rfl, hw1⟩; have HT : Hid (TK w w1.heap.size G C L0 L1 L2 L3 L4 (w1.alloc (.cells #[.int .i64 L0, .int .i64 L1, .int .i64 L2, .int .i64 L3, .int .i64 L4] 129))) := (by exact ⟨bel hw1 (bel_alloc _ _), by simp [go_sem], by simp [go_sem], by simp [go_sem], by simp [go_sem], by simp [go_sem], kc (bel_alloc _ _) (kc hw1 g0)⟩))
  have HCX : Hid (∀ v, Below (w1.alloc (.cells #[.int .i64 L0, .int .i64 L1, .int .i64 L2, .int .i64 L3, .int .i64 L4] 129)).heap.size (w1.alloc (.cells #[.int .i64 L0, .int .i64 L1, .int .i64 L2, .int .i64 L3, .int .i64 L4] 129)) v → v.cell? ⟨G, 0, none⟩ = some (.pointer (some ⟨C, 0, none⟩)) ∧ v.cell? ⟨w1.heap.size, 0, none⟩ = some (.int .i64 L0) ∧ v.cell? ⟨w1.heap.size, 1, none⟩ = some (.int .i64 L1) ∧ v.cell? ⟨w1.heap.size, 2, none⟩ = some (.int .i64 L2) ∧ v.cell? ⟨w1.heap.size, 3, none⟩ = some (.int .i64 L3) ∧ v.cell? ⟨w1.heap.size, 4, none⟩ = some (.int .i64 L4)) := fun v hv => ⟨(HT.out.next hv).g0, (HT.out.next hv).r0, (HT.out.next hv).r1, (HT.out.next hv).r2, (HT.out.next hv).r3, (HT.out.next hv).r4⟩; obtain ⟨t0, t1, t2, t3, t4, t5⟩ := HCX.out _ (bel0 _)
  refine wp_region_held_drew (S := (fun v => v.cell? ⟨G, 0, none⟩ = some (.pointer (some ⟨C, 0, none⟩)) ∧ v.cell? ⟨w1.heap.size, 0, none⟩ = some (.int .i64 L0) ∧ v.cell? ⟨w1.heap.size, 1, none⟩ = some (.int .i64 L1) ∧ v.cell? ⟨w1.heap.size, 2, none⟩ = some (.int .i64 L2) ∧ v.cell? ⟨w1.heap.size, 3, none⟩ = some (.int .i64 L3) ∧ v.cell? ⟨w1.heap.size, 4, none⟩ = some (.int .i64 L4))) (by kernel_rfl) ?_ (fun hHeld => ?_)
  ·((try dsimp only); go_keep)
  refine tkT 0 ?_
  refine tkT 1 ?_
  refine tkT 2 ?_
  refine tkT 3 ?_
  refine tkT 4 ?_
  refine tkT 5 ?_
  refine tkT 6 ?_
  refine tkT 7 ?_
  refine tkT 8 ?_
  clear hHeld
  refine wpAnyH_ready (rs := [9]) (by kernel_rfl) (by simp) ?_
  refine AllReadyH.cons (i := 9) (by simp only [List.getElem?_toArray, List.getElem?_cons_succ, List.getElem?_cons_zero]; rfl) (fun K hK => ?_) AllReadyH.nil
  go_simp
  (go_at_call 73; refine (HK2.out _ (HC0.out.below (bel HT.out.bel (bel_d _))) (HI0.out.below (bel HT.out.bel (bel_d _)))).mono ?_; rintro e w2 ⟨rfl, hw2⟩; have HB2 := bel (bel_d _) hw2; obtain ⟨y0, y1, y2, y3, y4, y5⟩ := HCX.out w2 HB2)
  try (go_wp2_with fail)
  refine hK.out _ _ ?_ (fun hHeld => ?_)
  ·((try dsimp only); go_keep)
  clear hK K
  try simp only [Act.put, List.setIfInBounds_toArray, List.set_cons_zero, List.set_cons_succ]
  refine tkT 10 ?_
  refine tkT 11 ?_
  refine tkT 12 ?_
  refine tkT 13 ?_
  refine tkT 14 ?_
  refine tkT 15 ?_
  clear hHeld
  refine wpAnyH_ready (rs := [16]) (by kernel_rfl) (by simp) ?_
  refine AllReadyH.cons (i := 16) (by simp only [List.getElem?_toArray, List.getElem?_cons_succ, List.getElem?_cons_zero]; rfl) (fun K hK => ?_) AllReadyH.nil
  go_simp
  (go_at_call 74; refine (HK3.out _ (HS0.out.below (bel HT.out.bel HB2)) (HC0.out.below (bel HT.out.bel HB2)) (HI0.out.below (bel HT.out.bel HB2))).mono ?_; rintro e w3 ⟨rfl, hw3⟩; have HB3 := bel HB2 hw3; obtain ⟨y0, y1, y2, y3, y4, y5⟩ := HCX.out w3 HB3)
  try (go_wp2_with fail)
  refine hK.out _ _ ?_ (fun hHeld => ?_)
  ·((try dsimp only); go_keep)
  clear hK K
  try simp only [Act.put, List.setIfInBounds_toArray, List.set_cons_zero, List.set_cons_succ]
  refine tkT 17 ?_
  refine tkT 18 ?_
  refine wpAnyH_done (by kernel_rfl) ?_ _
  go_wp2
  go_ret
  exact ⟨rfl, (bel HT.out.bel HB3).mono hE, fun e => absurd e (by simp)⟩
 go_enter Tryz.func37, Tryz.ntmps37
 go_wp2_with (go_at_call 72; refine HK1.out.mono ?_; rintro e w1 ⟨rfl, hw1⟩; have HT : Hid (TK w w1.heap.size G C L0 L1 L2 L3 L4 (w1.alloc (.cells #[.int .i64 L0, .int .i64 L1, .int .i64 L2, .int .i64 L3, .int .i64 L4] 129))) := (by exact ⟨bel hw1 (bel_alloc _ _), by simp [go_sem], by simp [go_sem], by simp [go_sem], by simp [go_sem], by simp [go_sem], kc (bel_alloc _ _) (kc hw1 g0)⟩))
 have HCX : Hid (∀ v, Below (w1.alloc (.cells #[.int .i64 L0, .int .i64 L1, .int .i64 L2, .int .i64 L3, .int .i64 L4] 129)).heap.size (w1.alloc (.cells #[.int .i64 L0, .int .i64 L1, .int .i64 L2, .int .i64 L3, .int .i64 L4] 129)) v → v.cell? ⟨G, 0, none⟩ = some (.pointer (some ⟨C, 0, none⟩)) ∧ v.cell? ⟨w1.heap.size, 0, none⟩ = some (.int .i64 L0) ∧ v.cell? ⟨w1.heap.size, 1, none⟩ = some (.int .i64 L1) ∧ v.cell? ⟨w1.heap.size, 2, none⟩ = some (.int .i64 L2) ∧ v.cell? ⟨w1.heap.size, 3, none⟩ = some (.int .i64 L3) ∧ v.cell? ⟨w1.heap.size, 4, none⟩ = some (.int .i64 L4)) := fun v hv => ⟨(HT.out.next hv).g0, (HT.out.next hv).r0, (HT.out.next hv).r1, (HT.out.next hv).r2, (HT.out.next hv).r3, (HT.out.next hv).r4⟩; obtain ⟨t0, t1, t2, t3, t4, t5⟩ := HCX.out _ (bel0 _)
 refine wp_region_held_drew (S := (fun v => v.cell? ⟨G, 0, none⟩ = some (.pointer (some ⟨C, 0, none⟩)) ∧ v.cell? ⟨w1.heap.size, 0, none⟩ = some (.int .i64 L0) ∧ v.cell? ⟨w1.heap.size, 1, none⟩ = some (.int .i64 L1) ∧ v.cell? ⟨w1.heap.size, 2, none⟩ = some (.int .i64 L2) ∧ v.cell? ⟨w1.heap.size, 3, none⟩ = some (.int .i64 L3) ∧ v.cell? ⟨w1.heap.size, 4, none⟩ = some (.int .i64 L4))) (by kernel_rfl) ?_ (fun hHeld => ?_)
 ·((try dsimp only); go_keep)
 refine tkT 0 ?_
 refine tkT 1 ?_
 refine tkT 2 ?_
 refine tkT 3 ?_
 refine tkT 4 ?_
 refine tkT 5 ?_
 refine tkT 6 ?_
 refine tkT 7 ?_
 refine tkT 8 ?_
 clear hHeld
 refine wpAnyH_ready (rs := [9]) (by kernel_rfl) (by simp) ?_
 refine AllReadyH.cons (i := 9) (by simp only [List.getElem?_toArray, List.getElem?_cons_succ, List.getElem?_cons_zero]; rfl) (fun K hK => ?_) AllReadyH.nil
 go_simp
 (go_at_call 73; refine (HK2.out _ (HC0.out.below (bel HT.out.bel (bel_d _))) (HI0.out.below (bel HT.out.bel (bel_d _)))).mono ?_; rintro e w2 ⟨rfl, hw2⟩; have HB2 := bel (bel_d _) hw2; obtain ⟨y0, y1, y2, y3, y4, y5⟩ := HCX.out w2 HB2)
 try (go_wp2_with fail)
 refine hK.out _ _ ?_ (fun hHeld => ?_)
 ·((try dsimp only); go_keep)
 clear hK K
 try simp only [Act.put, List.setIfInBounds_toArray, List.set_cons_zero, List.set_cons_succ]
 refine tkT 10 ?_
 refine tkT 11 ?_
 refine tkT 12 ?_
 refine tkT 13 ?_
 refine tkT 14 ?_
 refine tkT 15 ?_
 clear hHeld
 refine wpAnyH_ready (rs := [16]) (by kernel_rfl) (by simp) ?_
 refine AllReadyH.cons (i := 16) (by simp only [List.getElem?_toArray, List.getElem?_cons_succ, List.getElem?_cons_zero]; rfl) (fun K hK => ?_) AllReadyH.nil
 go_simp
 (go_at_call 74; refine (HK3.out _ (HS0.out.below (bel HT.out.bel HB2)) (HC0.out.below (bel HT.out.bel HB2)) (HI0.out.below (bel HT.out.bel HB2))).mono ?_; rintro e w3 ⟨rfl, hw3⟩; have HB3 := bel HB2 hw3; obtain ⟨y0, y1, y2, y3, y4, y5⟩ := HCX.out w3 HB3)
 try (go_wp2_with fail)
 refine hK.out _ _ ?_ (fun hHeld => ?_)
 ·((try dsimp only); go_keep)
 clear hK K
 try simp only [Act.put, List.setIfInBounds_toArray, List.set_cons_zero, List.set_cons_succ]
 refine tkT 17 ?_
 refine tkT 18 ?_
 refine wpAnyH_done (by kernel_rfl) ?_ _
 have HT3 : Hid (TK w w1.heap.size G C L0 L1 L2 L3 L4 w3) := HT.out.next HB3
 clear HB2 HB3 hw2 hw3
 go_wp2_with (go_at_call 75; refine (HK4.out _ (HI0.out.below HT3.out.bel)).mono ?_; rintro e w4 ⟨u, rfl, hu, hw4⟩; obtain ⟨pu, cu, hue⟩ := own_len hu; subst hue; have HU : Hid (w4.ownsRow w3.heap.size 3 1 (.slice pu RL.length cu) RL.length (i64s RL)) := hu; have HT4 : Hid (TK w w1.heap.size G C L0 L1 L2 L3 L4 w4) := HT3.out.next hw4; clear hu hw4)
 have HSW : Hid (WS E G C n gi vs vo w4 s) := HS0.out.below HT4.out.bel
 have k0 := HT4.out.r0
 have k1 := HT4.out.r1
 have k2 := HT4.out.r2
 have k3 := HT4.out.r3
 have k4 := HT4.out.r4
 have HFX : Hid (∀ j (hj : j < RL.length), ∃ (gu x : Nat), pu = some ⟨gu, 0, none⟩ ∧ w4.cell? ⟨gu, j, none⟩ = some (.int .i64 (x : Int)) ∧ x < n ∧ w4.cell? ⟨gi, x, none⟩ = some (.bool (decide (x ∈ s.set))) ∧ decide (x ∈ s.set) = decide (RL[j].toNat ∈ s.set)) := fun j hj => by
  obtain ⟨gu, cap, hv, _, _, _, _, hcl⟩ := own_open HU.out (by omega)
  simp only [Value.slice.injEq] at hv
  have hx := HKL.out (by first | rfl | trivial) RL[j] (List.getElem_mem hj)
  refine ⟨gu, RL[j].toNat, hv.1, ?_, by omega, HSW.out.i.cell (by omega), rfl⟩
  rw [show ((RL[j].toNat : Nat) : Int) = RL[j] by omega]
  exact hcl j _ (by simp [i64s, List.getElem?_eq_getElem hj])
 have d1 := HSW.out.c1
 obtain ⟨M, hM⟩ : ∃ M, RL.length = M := ⟨_, rfl⟩
 have HM : Hid (RL.length = M) := hM
 rw [hM] at KN ⊢
 clear hM
 go_loopw [40] (fun iv wr => wr = w4 ∧ ∃ j : Nat, j ≤ M ∧ iv = .int .i64 j ∧ Hid (∀ i (h : i < RL.length), i < j → decide (RL[i].toNat ∈ s.set) = true)) (fun iv _ => M - (intOf iv).toNat)
 case atStart => exact ⟨rfl, 0, Nat.zero_le _, rfl, fun i h hi => absurd hi (Nat.not_lt_zero _)⟩
 case round =>
  clear HT HT3 HCX t0 t1 t2 t3 t4 t5 y0 y1 y2 y3 y4 y5
  obtain ⟨rfl, j, hj, rfl, hp⟩ := hrel
  by_cases hlt : j < M
  ·have hll : j < RL.length := by rw [HM.out]; exact hlt
   obtain ⟨gu, x, rfl, a1, a2, a3, a4⟩ := HFX.out j hll
   have NX : Hid (decide (RL[j].toNat ∈ s.set) = true → ∀ i (h : i < RL.length), i < j + 1 → decide (RL[i].toNat ∈ s.set) = true) := fun hq i h hi => by
    by_cases e : i = j
    ·subst e; exact hq
    ·exact hp.out i h (by omega)
   have NB : Hid (decide (RL[j].toNat ∈ s.set) = false → (RL.all fun n => decide (n.toNat ∈ s.set)) = false) := fun h => List.all_eq_false.2 ⟨RL[j], List.getElem_mem hll, by rw [h]; decide⟩
   rw [← a4] at NX NB
   have i1 : (0 : Int) ≤ (j : Int) := by omega
   have i2 : (j : Int) < (M : Int) := by omega
   have i3 : (0 : Int) ≤ (x : Int) := by omega
   have i4 : (x : Int) < (n : Int) := by omega
   obtain ⟨Y, hY⟩ : ∃ Y, decide (x ∈ s.set) = Y := ⟨_, rfl⟩
   rw [hY] at NX NB a3
   clear hp hY a4 HFX HU
   cases Y
   ·go_wp2
    go_ret
    have hF : AL = false := by rw [← HAL.out]; exact NB.out (by first | rfl | trivial)
    exact ⟨by rw [hF]; rfl, HT4.out.bel.mono hE, fun e => absurd e (by simp [hF])⟩
   ·go_wp2
    go_roundw
    case rel => exact ⟨by first | rfl | trivial, j + 1, by omega, by go_num, NX.out (by first | rfl | trivial)⟩
    case measure => simp [intOf]; omega
  ·have : j = M := by omega
   subst this
   have HF : Hid ((RL.all fun n => decide (n.toNat ∈ s.set)) = true) := List.all_eq_true.2 fun t ht => by
    obtain ⟨i, hi, rfl⟩ := List.mem_iff_getElem.1 ht
    exact hp.out i hi (by rw [← HM.out]; exact hi)
   clear hp
   go_wp2_with (go_at_call 76; refine (HK5.out (by first | rfl | trivial) (by first | rfl | trivial) _ HSW.out (HI0.out.below HT4.out.bel)).mono ?_; rintro e w6 ⟨rfl, hb6, hws⟩; have HB6 : Hid (Below E wr w6) := hb6; have HWS : Hid (∃ vs' vo', WS E G C n gi vs' vo' w6 Z) := hws; clear hb6 hws)
   go_ret
   exact ⟨by rw [← HAL.out, HF.out]; rfl, (HT4.out.bel.mono hE).trans HB6.out, fun _ => HWS.out⟩
end Go.Proofs.YtgcmnkanjcfndaaGreatDoor
namespace Go.Proofs.YtgcmnkanjcfndaaGreatDoor
open Go.RowKit
set_option linter.unusedVariables false
set_option linter.unusedSimpArgs false
theorem nonempty (s : ByteArray) : (s.toList == []) = (s.size == 0) := by
 rw [Bool.eq_iff_iff]
 simp only [beq_iff_eq]
 constructor
 ·intro h
  rw [ByteArray.toList_eq] at h
  show s.data.size = 0
  rw [← Array.length_toList, h]; rfl
 ·intro h
  rw [ByteArray.toList_eq]
  exact List.eq_nil_of_length_eq_zero (by rw [Array.length_toList]; exact h)
theorem isEmpty_size (s : ByteArray) : s.toList.isEmpty = (s.size == 0) := by
 rw [← nonempty, Bool.eq_iff_iff]
 simp
theorem named_bad {s : ByteArray} {j : Nat} (h : j < s.size) (hq : pIn (s[j].toNat : Int) = false) : namedP s = false := by
 unfold namedP
 have : ((bs s).all fun b => pIn (nb b)) = false := by
  rw [List.all_eq_false]
  exact ⟨s[j], by unfold bs; exact Array.mem_toList_iff.2 (Array.getElem_mem (xs := s.data) h), by simp [nb, hq]⟩
 rw [this, Bool.and_false]
theorem named_good {s : ByteArray} (h0 : s.size ≠ 0) (h1 : s.size ≤ 64) (h : ∀ j (h : j < s.size), pIn (s[j].toNat : Int) = true) : namedP s = true := by
 unfold namedP
 have : ((bs s).all fun b => pIn (nb b)) = true := by
  rw [List.all_eq_true]
  intro b hb
  obtain ⟨j, hj, rfl⟩ := List.mem_iff_getElem.1 hb
  exact h j (by rw [← bs_length]; exact hj)
 rw [this]
 simp [h0, h1]
set_option maxRecDepth 100000 in
set_option maxHeartbeats 2000000 in
theorem rnamed_any (s : ByteArray) (hs : s.size ≤ 140737488351232) (w : World) :
  Calls Tryz.prog 92 #[.string s] w fun e w' => e = .returned (.bool (namedP s)) ∧ w' = w := by
 by_cases h0 : s.size = 0
 ·have he : s.toList.isEmpty = true := by rw [isEmpty_size]; simp [h0]
  have he2 : (s.toList == []) = true := by rw [nonempty]; simp [h0]
  have hf : namedP s = false := by unfold namedP; simp [h0]
  rw [hf]
  go_enter Tryz.func92, Tryz.ntmps92
  go_wp2
  all_goals (go_ret; exact ⟨rfl, rfl⟩)
 ·have he : s.toList.isEmpty = false := by rw [isEmpty_size]; simp [h0]
  have he2 : (s.toList == []) = false := by rw [nonempty]; simp [h0]
  by_cases h64 : s.size ≤ 64
  ·have h64' : ¬ ((64 : Int) < (s.size : Int)) := by omega
   go_enter Tryz.func92, Tryz.ntmps92
   go_wp2
   go_loopw [3] (fun iv wr => wr = w ∧ ∃ j : Nat, j ≤ s.size ∧ iv = .int .i64 j ∧ Hid (∀ i (h : i < s.size), i < j → pIn (s[i].toNat : Int) = true)) (fun iv _ => s.size - (intOf iv).toNat)
   case atStart => exact ⟨rfl, 0, Nat.zero_le _, rfl, fun i h hi => absurd hi (Nat.not_lt_zero _)⟩
   case round =>
    obtain ⟨rfl, j, hj, rfl, hp⟩ := hrel
    by_cases hlt : j < s.size
    ·have i1 : (0 : Int) ≤ (j : Int) := by omega
     have i2 : (j : Int) < (s.size : Int) := by omega
     have NX : Hid (pIn (s[j].toNat : Int) = true → ∀ i (h : i < s.size), i < j + 1 → pIn (s[i].toNat : Int) = true) := fun hq i h hi => by
      by_cases e : i = j
      ·subst e; exact hq
      ·exact hp.out i h (by omega)
     have NB : Hid (pIn (s[j].toNat : Int) = false → namedP s = false) := fun h => named_bad hlt h
     go_upto_region 7 with (fail)
     obtain ⟨c, hc⟩ : ∃ c : Int, (s[j].toNat : Int) = c := ⟨_, rfl⟩
     have hc2 : 0 ≤ c ∧ c ≤ 255 := by have := s[j].toNat_lt; omega
     rw [hc] at NX NB ⊢
     clear hc
     go_cut [59] (fun cv wx => cv = .bool (!pIn c) ∧ wx = wr)
     case first =>
      have hcl : (0 ≤ c ∧ c ≤ 44) ∨ (c = 45) ∨ (c = 46) ∨ (c = 47) ∨ (48 ≤ c ∧ c ≤ 57) ∨ (58 ≤ c ∧ c ≤ 64) ∨ (65 ≤ c ∧ c ≤ 90) ∨ (91 ≤ c ∧ c ≤ 94) ∨ (c = 95) ∨ (c = 96) ∨ (97 ≤ c ∧ c ≤ 122) ∨ (123 ≤ c ∧ c ≤ 255) := by omega
      rcases hcl with h | h | h | h | h | h | h | h | h | h | h | h
      ·have f97 : ¬ (97 : Int) ≤ c := by omega
       have f65 : ¬ (65 : Int) ≤ c := by omega
       have f48 : ¬ (48 : Int) ≤ c := by omega
       have g122 : c ≤ (122 : Int) := by omega
       have g90 : c ≤ (90 : Int) := by omega
       have g57 : c ≤ (57 : Int) := by omega
       have e95 : (c == (95 : Int)) = false := by rw [beq_eq_false_iff_ne]; omega
       have e46 : (c == (46 : Int)) = false := by rw [beq_eq_false_iff_ne]; omega
       have e47 : (c == (47 : Int)) = false := by rw [beq_eq_false_iff_ne]; omega
       have e45 : (c == (45 : Int)) = false := by rw [beq_eq_false_iff_ne]; omega
       have hp2 : pIn c = false := by unfold pIn; simp [*]
       clear h hp NX NB
       go_wp2
       go_meet
       exact ⟨by rw [hp2]; rfl, rfl⟩
      ·have f97 : ¬ (97 : Int) ≤ c := by omega
       have f65 : ¬ (65 : Int) ≤ c := by omega
       have f48 : ¬ (48 : Int) ≤ c := by omega
       have g122 : c ≤ (122 : Int) := by omega
       have g90 : c ≤ (90 : Int) := by omega
       have g57 : c ≤ (57 : Int) := by omega
       have e95 : (c == (95 : Int)) = false := by rw [beq_eq_false_iff_ne]; omega
       have e46 : (c == (46 : Int)) = false := by rw [beq_eq_false_iff_ne]; omega
       have e47 : (c == (47 : Int)) = false := by rw [beq_eq_false_iff_ne]; omega
       have e45 : (c == (45 : Int)) = true := by simp; omega
       have hp2 : pIn c = true := by unfold pIn; simp [*]
       clear h hp NX NB
       go_wp2
       go_meet
       exact ⟨by rw [hp2]; rfl, rfl⟩
      ·have f97 : ¬ (97 : Int) ≤ c := by omega
       have f65 : ¬ (65 : Int) ≤ c := by omega
       have f48 : ¬ (48 : Int) ≤ c := by omega
       have g122 : c ≤ (122 : Int) := by omega
       have g90 : c ≤ (90 : Int) := by omega
       have g57 : c ≤ (57 : Int) := by omega
       have e95 : (c == (95 : Int)) = false := by rw [beq_eq_false_iff_ne]; omega
       have e46 : (c == (46 : Int)) = true := by simp; omega
       have e47 : (c == (47 : Int)) = false := by rw [beq_eq_false_iff_ne]; omega
       have e45 : (c == (45 : Int)) = false := by rw [beq_eq_false_iff_ne]; omega
       have hp2 : pIn c = true := by unfold pIn; simp [*]
       clear h hp NX NB
       go_wp2
       go_meet
       exact ⟨by rw [hp2]; rfl, rfl⟩
      ·have f97 : ¬ (97 : Int) ≤ c := by omega
       have f65 : ¬ (65 : Int) ≤ c := by omega
       have f48 : ¬ (48 : Int) ≤ c := by omega
       have g122 : c ≤ (122 : Int) := by omega
       have g90 : c ≤ (90 : Int) := by omega
       have g57 : c ≤ (57 : Int) := by omega
       have e95 : (c == (95 : Int)) = false := by rw [beq_eq_false_iff_ne]; omega
       have e46 : (c == (46 : Int)) = false := by rw [beq_eq_false_iff_ne]; omega
       have e47 : (c == (47 : Int)) = true := by simp; omega
       have e45 : (c == (45 : Int)) = false := by rw [beq_eq_false_iff_ne]; omega
       have hp2 : pIn c = true := by unfold pIn; simp [*]
       clear h hp NX NB
       go_wp2
       go_meet
       exact ⟨by rw [hp2]; rfl, rfl⟩
      ·have f97 : ¬ (97 : Int) ≤ c := by omega
       have f65 : ¬ (65 : Int) ≤ c := by omega
       have f48 : (48 : Int) ≤ c := by omega
       have g122 : c ≤ (122 : Int) := by omega
       have g90 : c ≤ (90 : Int) := by omega
       have g57 : c ≤ (57 : Int) := by omega
       have e95 : (c == (95 : Int)) = false := by rw [beq_eq_false_iff_ne]; omega
       have e46 : (c == (46 : Int)) = false := by rw [beq_eq_false_iff_ne]; omega
       have e47 : (c == (47 : Int)) = false := by rw [beq_eq_false_iff_ne]; omega
       have e45 : (c == (45 : Int)) = false := by rw [beq_eq_false_iff_ne]; omega
       have hp2 : pIn c = true := by unfold pIn; simp [*]
       clear h hp NX NB
       go_wp2
       go_meet
       exact ⟨by rw [hp2]; rfl, rfl⟩
      ·have f97 : ¬ (97 : Int) ≤ c := by omega
       have f65 : ¬ (65 : Int) ≤ c := by omega
       have f48 : (48 : Int) ≤ c := by omega
       have g122 : c ≤ (122 : Int) := by omega
       have g90 : c ≤ (90 : Int) := by omega
       have g57 : ¬ c ≤ (57 : Int) := by omega
       have e95 : (c == (95 : Int)) = false := by rw [beq_eq_false_iff_ne]; omega
       have e46 : (c == (46 : Int)) = false := by rw [beq_eq_false_iff_ne]; omega
       have e47 : (c == (47 : Int)) = false := by rw [beq_eq_false_iff_ne]; omega
       have e45 : (c == (45 : Int)) = false := by rw [beq_eq_false_iff_ne]; omega
       have hp2 : pIn c = false := by unfold pIn; simp [*]
       clear h hp NX NB
       go_wp2
       go_meet
       exact ⟨by rw [hp2]; rfl, rfl⟩
      ·have f97 : ¬ (97 : Int) ≤ c := by omega
       have f65 : (65 : Int) ≤ c := by omega
       have f48 : (48 : Int) ≤ c := by omega
       have g122 : c ≤ (122 : Int) := by omega
       have g90 : c ≤ (90 : Int) := by omega
       have g57 : ¬ c ≤ (57 : Int) := by omega
       have e95 : (c == (95 : Int)) = false := by rw [beq_eq_false_iff_ne]; omega
       have e46 : (c == (46 : Int)) = false := by rw [beq_eq_false_iff_ne]; omega
       have e47 : (c == (47 : Int)) = false := by rw [beq_eq_false_iff_ne]; omega
       have e45 : (c == (45 : Int)) = false := by rw [beq_eq_false_iff_ne]; omega
       have hp2 : pIn c = true := by unfold pIn; simp [*]
       clear h hp NX NB
       go_wp2
       go_meet
       exact ⟨by rw [hp2]; rfl, rfl⟩
      ·have f97 : ¬ (97 : Int) ≤ c := by omega
       have f65 : (65 : Int) ≤ c := by omega
       have f48 : (48 : Int) ≤ c := by omega
       have g122 : c ≤ (122 : Int) := by omega
       have g90 : ¬ c ≤ (90 : Int) := by omega
       have g57 : ¬ c ≤ (57 : Int) := by omega
       have e95 : (c == (95 : Int)) = false := by rw [beq_eq_false_iff_ne]; omega
       have e46 : (c == (46 : Int)) = false := by rw [beq_eq_false_iff_ne]; omega
       have e47 : (c == (47 : Int)) = false := by rw [beq_eq_false_iff_ne]; omega
       have e45 : (c == (45 : Int)) = false := by rw [beq_eq_false_iff_ne]; omega
       have hp2 : pIn c = false := by unfold pIn; simp [*]
       clear h hp NX NB
       go_wp2
       go_meet
       exact ⟨by rw [hp2]; rfl, rfl⟩
      ·have f97 : ¬ (97 : Int) ≤ c := by omega
       have f65 : (65 : Int) ≤ c := by omega
       have f48 : (48 : Int) ≤ c := by omega
       have g122 : c ≤ (122 : Int) := by omega
       have g90 : ¬ c ≤ (90 : Int) := by omega
       have g57 : ¬ c ≤ (57 : Int) := by omega
       have e95 : (c == (95 : Int)) = true := by simp; omega
       have e46 : (c == (46 : Int)) = false := by rw [beq_eq_false_iff_ne]; omega
       have e47 : (c == (47 : Int)) = false := by rw [beq_eq_false_iff_ne]; omega
       have e45 : (c == (45 : Int)) = false := by rw [beq_eq_false_iff_ne]; omega
       have hp2 : pIn c = true := by unfold pIn; simp [*]
       clear h hp NX NB
       go_wp2
       go_meet
       exact ⟨by rw [hp2]; rfl, rfl⟩
      ·have f97 : ¬ (97 : Int) ≤ c := by omega
       have f65 : (65 : Int) ≤ c := by omega
       have f48 : (48 : Int) ≤ c := by omega
       have g122 : c ≤ (122 : Int) := by omega
       have g90 : ¬ c ≤ (90 : Int) := by omega
       have g57 : ¬ c ≤ (57 : Int) := by omega
       have e95 : (c == (95 : Int)) = false := by rw [beq_eq_false_iff_ne]; omega
       have e46 : (c == (46 : Int)) = false := by rw [beq_eq_false_iff_ne]; omega
       have e47 : (c == (47 : Int)) = false := by rw [beq_eq_false_iff_ne]; omega
       have e45 : (c == (45 : Int)) = false := by rw [beq_eq_false_iff_ne]; omega
       have hp2 : pIn c = false := by unfold pIn; simp [*]
       clear h hp NX NB
       go_wp2
       go_meet
       exact ⟨by rw [hp2]; rfl, rfl⟩
      ·have f97 : (97 : Int) ≤ c := by omega
       have f65 : (65 : Int) ≤ c := by omega
       have f48 : (48 : Int) ≤ c := by omega
       have g122 : c ≤ (122 : Int) := by omega
       have g90 : ¬ c ≤ (90 : Int) := by omega
       have g57 : ¬ c ≤ (57 : Int) := by omega
       have e95 : (c == (95 : Int)) = false := by rw [beq_eq_false_iff_ne]; omega
       have e46 : (c == (46 : Int)) = false := by rw [beq_eq_false_iff_ne]; omega
       have e47 : (c == (47 : Int)) = false := by rw [beq_eq_false_iff_ne]; omega
       have e45 : (c == (45 : Int)) = false := by rw [beq_eq_false_iff_ne]; omega
       have hp2 : pIn c = true := by unfold pIn; simp [*]
       clear h hp NX NB
       go_wp2
       go_meet
       exact ⟨by rw [hp2]; rfl, rfl⟩
      ·have f97 : (97 : Int) ≤ c := by omega
       have f65 : (65 : Int) ≤ c := by omega
       have f48 : (48 : Int) ≤ c := by omega
       have g122 : ¬ c ≤ (122 : Int) := by omega
       have g90 : ¬ c ≤ (90 : Int) := by omega
       have g57 : ¬ c ≤ (57 : Int) := by omega
       have e95 : (c == (95 : Int)) = false := by rw [beq_eq_false_iff_ne]; omega
       have e46 : (c == (46 : Int)) = false := by rw [beq_eq_false_iff_ne]; omega
       have e47 : (c == (47 : Int)) = false := by rw [beq_eq_false_iff_ne]; omega
       have e45 : (c == (45 : Int)) = false := by rw [beq_eq_false_iff_ne]; omega
       have hp2 : pIn c = false := by unfold pIn; simp [*]
       clear h hp NX NB
       go_wp2
       go_meet
       exact ⟨by rw [hp2]; rfl, rfl⟩
     case rest =>
      obtain ⟨rfl, rfl⟩ := hcut
      cases hq : pIn c
      ·have HB2 : Hid (namedP s = false) := NB.out hq
       clear NX NB hp hc2
       go_wp2
       go_ret
       exact ⟨ret_bool HB2.out.symm, rfl⟩
      ·have HP2 : Hid (∀ i (h : i < s.size), i < j + 1 → pIn (s[i].toNat : Int) = true) := NX.out hq
       clear NX NB hp hc2
       go_wp2
       go_roundw
       case rel => exact ⟨by trivial, j + 1, by omega, by go_num, HP2.out⟩
       case measure => simp [intOf]; omega
    ·have : j = s.size := by omega
     subst this
     have HF : Hid (namedP s = true) := named_good h0 h64 fun i h => hp.out i h h
     clear hp
     go_wp2
     go_ret
     exact ⟨ret_bool HF.out.symm, rfl⟩
  ·have hf : namedP s = false := by unfold namedP; simp [h0, h64]
   have h64' : (64 : Int) < (s.size : Int) := by omega
   rw [hf]
   go_enter Tryz.func92, Tryz.ntmps92
   go_wp2
   all_goals (go_ret; exact ⟨rfl, rfl⟩)
theorem may_eq (p : Par) : mayP p = ((namedP p.name && (p.kind == 1 || p.kind == 2)) && (decide (1 ≤ p.len) && decide (p.len ≤ 4096))) := rfl
set_option maxRecDepth 100000 in
set_option maxHeartbeats 1000000 in
theorem rMay_any (p : Par) (hs : p.name.size ≤ 140737488351232) (w : World) :
  Calls Tryz.prog 62 #[pv p] w fun e w' => e = .returned (.bool (mayP p)) ∧ Below w.heap.size w w' := by
 rw [may_eq]
 obtain ⟨X, K, L⟩ := p
 unfold pv
 have KN := rnamed_any X hs
 simp only
 obtain ⟨N, hN⟩ : ∃ N, namedP X = N := ⟨_, rfl⟩
 rw [hN] at KN ⊢
 have HK : Hid (∀ w, Calls Tryz.prog 92 #[.string X] w fun e w' => e = .returned (.bool N) ∧ w' = w) := KN
 clear KN hN
 cases N
 ·go_enter Tryz.func62, Tryz.ntmps62
  go_wp2_with (go_at_call 92; refine (HK.out _).mono ?_; rintro e w1 ⟨rfl, rfl⟩)
  go_ret
  exact ⟨rfl, bel_alloc _ _⟩
 ·have hk : ((K == 1) = true ∧ (K == 2) = false) ∨ ((K == 1) = false ∧ (K == 2) = true) ∨ ((K == 1) = false ∧ (K == 2) = false) := by
   by_cases a : K = 1
   ·subst a; exact .inl ⟨rfl, rfl⟩
   ·by_cases b : K = 2
    ·subst b; exact .inr (.inl ⟨rfl, rfl⟩)
    ·exact .inr (.inr ⟨by simpa using a, by simpa using b⟩)
  have hL : (1 ≤ L ∧ L ≤ 4096) ∨ (¬ 1 ≤ L ∧ L ≤ 4096) ∨ (1 ≤ L ∧ ¬ L ≤ 4096) := by omega
  rcases hk with ⟨h1, h2⟩ | ⟨h1, h2⟩ | ⟨h1, h2⟩ <;> rcases hL with ⟨h3, h4⟩ | ⟨h3, h4⟩ | ⟨h3, h4⟩
  all_goals
   go_enter Tryz.func62, Tryz.ntmps62
   go_wp2_with (go_at_call 92; refine (HK.out _).mono ?_; rintro e w1 ⟨rfl, rfl⟩)
   go_ret
   exact ⟨ret_bool (by simp [h1, h2, h3, h4]), bel_alloc _ _⟩
set_option maxRecDepth 100000 in
set_option maxHeartbeats 1000000 in
theorem rNumbers_any (p : Par) (hs : p.name.size ≤ 140737488351232) (w : World) :
  Calls Tryz.prog 93 #[pv p] w fun e w' => e = .returned (.int .i64 (numP p)) ∧ Below w.heap.size w w' := by
 have KM := rMay_any p hs
 have hm : mayP p = true → 1 ≤ p.len ∧ p.len ≤ 4096 := fun h => by rw [may_eq] at h; simp at h; exact h.2
 have hn : numP p = if mayP p then (if p.kind == 2 then 2 * p.len else p.len) else 0 := rfl
 rw [hn]
 clear hn
 obtain ⟨N, hN⟩ : ∃ N, mayP p = N := ⟨_, rfl⟩
 rw [hN] at KM hm ⊢
 clear hN hs
 obtain ⟨X, K, L⟩ := p
 unfold pv at KM ⊢
 simp only at hm KM ⊢
 have HK : Hid (∀ w, Calls Tryz.prog 62 #[.agg #[.string X, .int .i64 K, .int .i64 L]] w fun e w' => e = .returned (.bool N) ∧ Below w.heap.size w w') := KM
 clear KM
 cases N
 ·clear hm
  go_enter Tryz.func93, Tryz.ntmps93
  go_wp2_with (go_at_call 62; refine (HK.out _).mono ?_; rintro e w1 ⟨rfl, hb1⟩)
  go_ret
  exact ⟨rfl, bel (bel_alloc _ _) hb1⟩
 ·have hL := hm rfl
  clear hm
  cases h2 : (K == 2)
  ·go_enter Tryz.func93, Tryz.ntmps93
   go_wp2_with (go_at_call 62; refine (HK.out _).mono ?_; rintro e w1 ⟨rfl, hb1⟩; have c1 : w1.cell? ⟨w.heap.size, 1, none⟩ = some (.int .i64 K) := (hb1.cell (by simp)).trans (by simp [go_sem]); have c2 : w1.cell? ⟨w.heap.size, 2, none⟩ = some (.int .i64 L) := (hb1.cell (by simp)).trans (by simp [go_sem]))
   go_ret
   exact ⟨rfl, bel (bel_alloc _ _) hb1⟩
  ·go_enter Tryz.func93, Tryz.ntmps93
   go_wp2_with (go_at_call 62; refine (HK.out _).mono ?_; rintro e w1 ⟨rfl, hb1⟩; have c1 : w1.cell? ⟨w.heap.size, 1, none⟩ = some (.int .i64 K) := (hb1.cell (by simp)).trans (by simp [go_sem]); have c2 : w1.cell? ⟨w.heap.size, 2, none⟩ = some (.int .i64 L) := (hb1.cell (by simp)).trans (by simp [go_sem]))
   go_ret
   exact ⟨ret_int (by simp), bel (bel_alloc _ _) hb1⟩
theorem eq_of_list {a b : ByteArray} (h : (a.toList == b.toList) = true) : a = b := by
 rw [beq_iff_eq, ByteArray.toList_eq, ByteArray.toList_eq] at h
 exact bs_inj h
theorem list_eq {a b : ByteArray} (h : a = b) : (a.toList == b.toList) = true := by rw [h]; simp
theorem list_ne {a b : ByteArray} (h : a ≠ b) : (a.toList == b.toList) = false := by
 cases e : (a.toList == b.toList)
 ·rfl
 ·exact absurd (eq_of_list e) h
set_option maxHeartbeats 1000000 in
theorem rFind_any (v : Value) (l : List Par) (hl : l.length ≤ 140737488351232) (s : ByteArray) (w : World) (hr : Rd w v l) :
  Calls Tryz.prog 63 #[v, .string s] w fun e w' => e = .returned (.tuple #[.int .i64 ((findP s l).getD 0 : Nat), .bool (findP s l).isSome]) ∧ w' = w := by
 obtain ⟨p, c, rfl, hr⟩ := hr
 obtain ⟨n, hn⟩ : ∃ n, l.length = n := ⟨_, rfl⟩
 rw [hn] at hl ⊢
 have HN : Hid (l.length = n) := hn
 have HR : Hid (Row w p l) := hr
 clear hn hr
 go_enter Tryz.func63, Tryz.ntmps63
 go_wp2
 go_loopw [6] (fun iv wr => wr = w ∧ ∃ j : Nat, j ≤ n ∧ iv = .int .i64 j ∧ Hid (∀ i (h : i < l.length), i < j → l[i].name ≠ s)) (fun iv _ => n - (intOf iv).toNat)
 case atStart => exact ⟨rfl, 0, Nat.zero_le _, rfl, fun i h hi => absurd hi (Nat.not_lt_zero _)⟩
 case round =>
  obtain ⟨rfl, j, hj, rfl, hp⟩ := hrel
  by_cases hlt : j < n
  ·have hll : j < l.length := by rw [HN.out]; exact hlt
   obtain ⟨b, o, rfl, x0, x1, x2⟩ := HR.out.at hll
   have i1 : (0 : Int) ≤ (j : Int) := by omega
   have i2 : (j : Int) < (n : Int) := by omega
   by_cases he : l[j].name = s
   ·have HF : Hid (findP s l = some j) := find_some hll he hp.out
    have he' := list_eq he
    clear hp he
    go_wp2
    go_ret2
    exact ⟨by rw [HF.out]; rfl, rfl⟩
   ·have HP2 : Hid (∀ i (h : i < l.length), i < j + 1 → l[i].name ≠ s) := fun i h hi => by
     by_cases e : i = j
     ·subst e; exact he
     ·exact hp.out i h (by omega)
    have he' := list_ne he
    clear hp he
    go_wp2
    go_roundw
    case rel => exact ⟨by trivial, j + 1, by omega, by go_num, HP2.out⟩
    case measure => simp [intOf]; omega
  ·have : j = n := by omega
   subst this
   have HF : Hid (findP s l = none) := find_none fun i h => hp.out i h (by rw [← HN.out]; exact h)
   clear hp
   go_wp2
   go_ret2
   exact ⟨by rw [HF.out]; rfl, rfl⟩
set_option maxRecDepth 100000 in
set_option maxHeartbeats 1000000 in
theorem rTotal_any (v : Value) (l : List Par) (hl : l.length ≤ 140737488351232) (hM : ∀ p ∈ l, p.name.size ≤ 140737488351232) (w : World) (hr : Rd w v l) :
  Calls Tryz.prog 64 #[v] w fun e w' => e = .returned (.int .i64 (totP l)) ∧ Below w.heap.size w w' := by
 obtain ⟨p, c, rfl, hr⟩ := hr
 obtain ⟨n, hn⟩ : ∃ n, l.length = n := ⟨_, rfl⟩
 rw [hn] at hl ⊢
 have HN : Hid (l.length = n) := hn
 have HR : Hid (Row w p l) := hr
 have HM : Hid (∀ p ∈ l, p.name.size ≤ 140737488351232) := hM
 clear hn hr hM
 go_enter Tryz.func64, Tryz.ntmps64
 go_wp2
 go_loopw [3, 4] (fun tv iv wr => Below w.heap.size w wr ∧ ∃ j : Nat, j ≤ n ∧ iv = .int .i64 j ∧ tv = .int .i64 (totP (l.take j))) (fun _ iv _ => n - (intOf iv).toNat)
 case atStart => exact ⟨bel0 w, 0, Nat.zero_le _, rfl, rfl⟩
 case round =>
  obtain ⟨hb, j, hj, rfl, rfl⟩ := hrel
  by_cases hlt : j < n
  ·have hll : j < l.length := by rw [HN.out]; exact hlt
   obtain ⟨b, o, rfl, hx⟩ := HR.out.at hll
   obtain ⟨x0, x1, x2⟩ := hx.below hb
   have i1 : (0 : Int) ≤ (j : Int) := by omega
   have i2 : (j : Int) < (n : Int) := by omega
   have KN := rNumbers_any l[j] (HM.out _ (List.getElem_mem hll))
   unfold pv at KN
   have HK : Hid (∀ w, Calls Tryz.prog 93 #[.agg #[.string l[j].name, .int .i64 l[j].kind, .int .i64 l[j].len]] w fun e w' => e = .returned (.int .i64 (numP l[j])) ∧ Below w.heap.size w w') := KN
   have ht : totP (l.take (j + 1)) = totP (l.take j) + numP l[j] := by rw [take_succ hll, tot_snoc]
   have hb1 := tot_bounds (l.take j)
   have hb2 := num_bounds l[j]
   rw [List.length_take, HN.out, Nat.min_eq_left hj] at hb1
   obtain ⟨T, hT⟩ : ∃ T, totP (l.take j) = T := ⟨_, rfl⟩
   obtain ⟨U, hU⟩ : ∃ U, numP l[j] = U := ⟨_, rfl⟩
   rw [hT, hU] at ht
   rw [hT] at hb1 ⊢
   rw [hU] at hb2 HK
   have HT : Hid (totP (l.take (j + 1)) = T + U) := ht
   have hw1 : IntKind.i64.wrap (T + U) = T + U := by rw [IntKind.wrap_i64]; omega
   clear KN ht hT hU hx
   go_wp2_with (go_at_call 93; refine (HK.out _).mono ?_; rintro e w1 ⟨rfl, hb3⟩)
   go_roundw
   case rel => exact ⟨bel hb hb3, j + 1, by omega, by go_num, by rw [HT.out]⟩
   case measure => simp [intOf]; omega
  ·have : j = n := by omega
   subst this
   have HF : Hid (totP (l.take j) = totP l) := by show _ = _; rw [List.take_of_length_le (by rw [HN.out]; exact Nat.le_refl _)]
   go_wp2
   go_ret
   exact ⟨ret_int HF.out, hb⟩
end Go.Proofs.YtgcmnkanjcfndaaGreatDoor
namespace Go.Proofs.YtgcmnkanjcfndaaGreatDoor
open Go.Shelf Go.RowKit
def sh_lays137_ren : Go.Shelf.Ren := ⟨fun | 137 => 163 | 217 => 140 | 266 => 158 | n => n, fun | 9 => 9 | 5 => 5 | 3 => 3 | n => n, fun | n => n⟩
theorem sh_lays137 : Go.Proofs.Lays.n137 Tryz.prog sh_lays137_ren := {
 mixed := by kernel_rfl
 f137 := Tryz.func163.trans (congrArg some (by kernel_rfl))
 f217 := Tryz.func140.trans (congrArg some (by kernel_rfl))
 f266 := Tryz.func158.trans (congrArg some (by kernel_rfl))
 t3 := Tryz.underlying3
 a3 := Tryz.isAgg3
 z3 := Tryz.sizeOf3
 v3 := Tryz.zeroValue3
 t5 := Tryz.underlying5
 a5 := Tryz.isAgg5
 z5 := Tryz.sizeOf5
 v5 := Tryz.zeroValue5
 t9 := Tryz.underlying9
 a9 := Tryz.isAgg9
 z9 := Tryz.sizeOf9
 v9 := Tryz.zeroValue9 }
theorem sh_strings_IndexByte (s : ByteArray) (c : Int) (w : World) :
  Calls Tryz.prog 163 #[.string s, .int .u8 c] w fun e w' => e = .returned (.int .i64 (Lib.indexByte s.data.toList c.toNat.toUInt8)) ∧ w' = w := Any.strings_IndexByte sh_lays137 s c w
def sh_laysM316_ren : Go.Shelf.Ren := ⟨fun | 316 => 147 | n => n, fun | 9 => 9 | 3 => 3 | 4 => 4 | 37 => 55 | 0 => 0 | 127 => 147 | 5 => 5 | n => n, fun | n => n⟩
theorem sh_laysM316 : Go.Proofs.LaysM.n316 Tryz.prog sh_laysM316_ren := {
 mixed := by kernel_rfl
 f316 := Tryz.func147.trans (congrArg some (by kernel_rfl))
 t0 := Tryz.underlying0
 a0 := Tryz.isAgg0
 z0 := Tryz.sizeOf0
 v0 := Tryz.zeroValue0
 t3 := Tryz.underlying3
 a3 := Tryz.isAgg3
 z3 := Tryz.sizeOf3
 v3 := Tryz.zeroValue3
 t4 := Tryz.underlying4
 a4 := Tryz.isAgg4
 z4 := Tryz.sizeOf4
 v4 := Tryz.zeroValue4
 t9 := Tryz.underlying9
 a9 := Tryz.isAgg9
 z9 := Tryz.sizeOf9
 v9 := Tryz.zeroValue9
 t37 := Tryz.underlying55
 a37 := Tryz.isAgg55
 z37 := Tryz.sizeOf55
 v37 := Tryz.zeroValue55
 t127 := Tryz.underlying147
 a127 := Tryz.isAgg147
 z127 := Tryz.sizeOf147
 v127 := Tryz.zeroValue147
 t5 := Tryz.underlying5
 a5 := Tryz.isAgg5
 z5 := Tryz.sizeOf5
 v5 := Tryz.zeroValue5
 i0 := by kernel_rfl
 i3 := by kernel_rfl
 i4 := by kernel_rfl
 i5 := by kernel_rfl
 i9 := by kernel_rfl
 i37 := by kernel_rfl
 i127 := by kernel_rfl }
theorem sh_stringslite_Clone (s : ByteArray) (w : World) (hlim : s.size ≤ 281474976710656) :
  Calls Tryz.prog 147 #[.string s] w fun e w' => e = .returned (.string s) ∧ Below w.heap.size w w' := Any.stringslite_Clone sh_laysM316 s w hlim
end Go.Proofs.YtgcmnkanjcfndaaGreatDoor
