import Derived.Test.YtnlgkkbmbijndabOwnn23
import Derived.Deep.DeepCutAuto
import Derived.Test.YtnlgkkbmbijndabOwnn14
import Derived.Test.YtnlgkkbmbijndabRows
import Derived.WalkKit
import Derived.ProofKit
import Derived.OpenShut
import Derived.JoinedCond
import Derived.Deep.Slices
import Derived.Deep.Strs
import Derived.SizedLaws
/- The statement CodeOwn: its walk. By program (tool/layer25/genown24.py). -/
namespace Go.Proofs.Ytnlgkkbmbijndab
open Go.RowKit
set_option linter.unusedVariables false
set_option linter.unusedSimpArgs false

/-- Blocks from lo to hi may have been written. -/
structure Wr (lo hi : Nat) (w w' : World) : Prop where
  bel : Below lo w w'
  up : ∀ b, hi ≤ b → w'.heap[b]? = w.heap[b]?
theorem Wr.refl (lo hi : Nat) (w : World) : Wr lo hi w w := ⟨Below.refl _ _, fun _ _ => rfl⟩
theorem Wr.set {lo hi : Nat} {w w' : World} (h : Wr lo hi w w') {g : Nat} (hg : lo ≤ g ∧ g < hi) (j : Nat) (u : Value) : Wr lo hi w (w'.setCell ⟨g, j, none⟩ u) := ⟨h.bel.setCell hg.1 _, fun b hb => (Below.heap_setCell _ _ _ _ (by show b ≠ g; omega)).trans (h.up b hb)⟩
theorem own_setC {w : World} {B : Nat} {e : TypeId} {k n : Nat} {v : Value} (h : ∃ xs, w.ownsRow B e k v n xs) (g j : Nat) (u : Value) : ∃ ys, (w.setCell ⟨g, j, none⟩ u).ownsRow B e k v n ys := by
  obtain ⟨xs, h⟩ := h
  by_cases hg : v.ownBlock = some g
  · rcases h.2 with ⟨rfl, _⟩ | ⟨g', cap, cur, rfl, _⟩
    · cases hg
    · have e1 : g' = g := Option.some.inj hg
      subst e1
      exact ⟨_, (h.stored j u).1⟩
  · exact ⟨xs, own_keep h fun b hb => Below.heap_setCell _ _ _ _ (fun e9 => hg (by rw [hb, e9]))⟩
theorem own_cellsC {w : World} {B : Nat} {e : TypeId} {k g n cap : Nat} {xs : List Value} (h : w.ownsRow B e k (.slice (some ⟨g, 0, none⟩) n cap) n xs) (j : Nat) (hj : j < n) : ∀ o, o < k → (∃ z, w.cell? ⟨g, j * k + o, none⟩ = some z) ∧ w.frozen? ⟨g, j * k + o, none⟩ = false := by
  intro o ho
  have h1 : j * k + o < n * k := by
    have : (j + 1) * k ≤ n * k := Nat.mul_le_mul_right k (by omega)
    have e : (j + 1) * k = j * k + k := Nat.succ_mul j k
    omega
  have h2 : xs.length = n * k := h.1
  exact ⟨⟨xs[j * k + o]'(by omega), by rw [h.cellAt _ h1, List.getElem?_eq_getElem]⟩, h.frozenAt _⟩
/-- Four rows of one's own, whatever they hold. -/
structure R4 (B : Nat) (w : World) (u0 u1 u2 u3 : Value) (c : Cd) : Prop where
  l0 : ∃ xs, w.ownsRow B 40 3 u0 c.sign.length xs
  l1 : ∃ xs, w.ownsRow B 42 2 u1 c.regs.length xs
  l2 : ∃ xs, w.ownsRow B 44 5 u2 c.slots.length xs
  l3 : ∃ xs, w.ownsRow B 38 7 u3 c.list.length xs
theorem R4.set {B : Nat} {w : World} {u0 u1 u2 u3 : Value} {c : Cd} (h : R4 B w u0 u1 u2 u3 c) (g j : Nat) (u : Value) : R4 B (w.setCell ⟨g, j, none⟩ u) u0 u1 u2 u3 c := ⟨own_setC h.l0 g j u, own_setC h.l1 g j u, own_setC h.l2 g j u, own_setC h.l3 g j u⟩
theorem CdV.wr {lo hi B : Nat} {w w' : World} {u0 u1 u2 u3 : Value} {c : Cd} (h : Own4 B w u0 u1 u2 u3 c) (hB : hi ≤ B) (k : Wr lo hi w w') : CdV w' u0 u1 u2 u3 c := by
  have kp : ∀ {t : TypeId} {k n : Nat} {v : Value} {xs : List Value}, w.ownsRow B t k v n xs → w'.ownsRow B t k v n xs := fun h => own_keep h fun b hb => k.up b (Nat.le_trans hB (h.lt b hb).1)
  exact cd_own (B := B) ⟨kp h.sign, kp h.regs, kp h.slots, kp h.list⟩

set_option maxRecDepth 100000 in
set_option maxHeartbeats 16000000 in
theorem walk_CodeOwn (v0 v1 v2 v3 : Value) (c : Cd) (hk : CdOk c) (hz : CdSz c) (w : World) (hv : CdV w v0 v1 v2 v3 c) :
    Calls Try.prog 3 #[.agg #[v0, v1, v2, v3]] w fun e w' => e = .returned (.bool true) ∧ Below w.heap.size w w' := by
  have KW := hidC (fun v => works24_any v)
  obtain ⟨p0, q0, rfl⟩ : ∃ p q, v0 = .slice p c.sign.length q := by obtain ⟨p, q, e, _⟩ := hv.sign; exact ⟨p, q, e⟩
  obtain ⟨p1, q1, rfl⟩ : ∃ p q, v1 = .slice p c.regs.length q := by obtain ⟨p, q, e, _⟩ := hv.regs; exact ⟨p, q, e⟩
  obtain ⟨p2, q2, rfl⟩ : ∃ p q, v2 = .slice p c.slots.length q := by obtain ⟨p, q, e, _⟩ := hv.slots; exact ⟨p, q, e⟩
  obtain ⟨p3, q3, rfl⟩ : ∃ p q, v3 = .slice p c.list.length q := by obtain ⟨p, q, e, _⟩ := hv.list; exact ⟨p, q, e⟩
  obtain ⟨X, hX⟩ : ∃ X, w.heap.size = X := ⟨_, rfl⟩
  obtain ⟨W0, hW0⟩ : ∃ W, w.alloc (.cells #[.slice p0 c.sign.length q0, .slice p1 c.regs.length q1, .slice p2 c.slots.length q2, .slice p3 c.list.length q3] 27) = W := ⟨_, rfl⟩
  have hb0 : Below w.heap.size w W0 := by rw [← hW0]; exact bel_alloc _ _
  have rx : W0.rowIs X 27 4 (f4 (.slice p0 c.sign.length q0) (.slice p1 c.regs.length q1) (.slice p2 c.slots.length q2) (.slice p3 c.list.length q3)) := by
    rw [← hW0, ← hX]
    exact World.rowIs_alloc w #[.slice p0 c.sign.length q0, .slice p1 c.regs.length q1, .slice p2 c.slots.length q2, .slice p3 c.list.length q3] 27 _ (fun i hi => by
      rcases (show i = 0 ∨ i = 1 ∨ i = 2 ∨ i = 3 by have : i < 4 := hi; omega) with rfl | rfl | rfl | rfl <;> rfl)
  have KT := hidC (twin20_any _ _ _ _ c hz W0 (hv.below hb0))
  have HB0 := hidC hb0
  have HRX := hidC rx
  have x0 : W0.cell? ⟨X, 0, none⟩ = some (.slice p0 c.sign.length q0) := rx.cell (i := 0) (by decide)
  have x1 : W0.cell? ⟨X, 1, none⟩ = some (.slice p1 c.regs.length q1) := rx.cell (i := 1) (by decide)
  have x2 : W0.cell? ⟨X, 2, none⟩ = some (.slice p2 c.slots.length q2) := rx.cell (i := 2) (by decide)
  have x3 : W0.cell? ⟨X, 3, none⟩ = some (.slice p3 c.list.length q3) := rx.cell (i := 3) (by decide)
  have HV := hidC (fun (u : World) (h : Below w.heap.size w u) => hv.below h)
  clear hb0 rx hv
  by_cases hc : (checkC c).1 = 0
  · have hok := check_code hk.sbits hk.ibits hc
    have KE := hidC (fun (v : World) (x0 x1 x2 x3 : Value) (h : CdV v x0 x1 x2 x3 c) => encode_good x0 x1 x2 x3 c hk v h hc)
    have hel : (ofN (encN c)).size ≤ 140737488355328 := by
      rw [ofN_size, enc_len]
      have := eCode_len hok
      omega
    have hde : decN (bytN (ofN (encN c))) = .ok c := by rw [bytN_ofN (enc_lt hok)]; exact dec_fw hok hc
    obtain ⟨T, hT⟩ : ∃ T, ofN (encN c) = T := ⟨_, rfl⟩
    rw [hT] at KE hel hde
    have KD := hidC (fun v => decode_any T hel v)
    rw [hde] at KD
    unfold DecP at KD
    simp only at KD
    have KQ := hidC (fun (v : World) (a0 a1 a2 a3 b0 b1 b2 b3 : Value) (ha : CdV v a0 a1 a2 a3 c) (hb : CdV v b0 b1 b2 b3 c) => rEqual_any a0 a1 a2 a3 b0 b1 b2 b3 c c hk hk v ha hb)
    rw [eqC_self] at KQ
    have HOK := hidC hok
    have hl0 := hok.1.1
    have hl1 := hok.2.1.1
    have hl2 := hok.2.2.1.1
    have hl3 := hok.2.2.2.1
    clear hc hok hde hT hel
    go_enter Try.func3, Try.ntmps3
    go_upto_region 1 with fail
    try rw [hW0]
    try rw [hX]
    go_upto_region 4 with (first | (go_at_call 5; (with_reducible refine KT.out.mono ?_); rintro e9 w3 ⟨t0, t1, t2, t3, rfl, ht3, ho3, hb3⟩; have HB3 := hidC hb3; have KE3 := hidC (KE.out w3 _ _ _ _ ht3); clear ht3 ho3 hb3) | (go_at_call 4; (with_reducible refine KE3.out.mono ?_); rintro e9 w4 ⟨rfl, hb4⟩; have HB4 : Hid (Below W0.heap.size W0 w4) := bel HB3.out hb4; clear hb4))
    clear hW0 x0 x1 x2 x3 KE KE3 HB3 KT
    obtain ⟨EA, hEA⟩ : ∃ E, w4.heap.size = E := ⟨_, rfl⟩
    go_upto_region 5 with (go_at_call 7; (with_reducible refine (KD.out _).mono ?_); rintro e9 w5 ⟨a0, e0, a1, e1, a2, e2, a3, e3, rfl, ho5, hb5⟩; have HO5 := hidC ho5; have HB5 := hidC hb5; clear ho5 hb5)
    obtain ⟨XA, hXA⟩ : ∃ E, w5.heap.size = E := ⟨_, rfl⟩
    obtain ⟨VA, hVA⟩ : ∃ V, w5.alloc (.cells #[.slice a0 c.sign.length e0, .slice a1 c.regs.length e1, .slice a2 c.slots.length e2, .slice a3 c.list.length e3] 27) = V := ⟨_, rfl⟩
    have hbA : Below w5.heap.size w5 VA := by rw [← hVA]; exact bel_alloc _ _
    have rA : VA.rowIs XA 27 4 (f4 (.slice a0 c.sign.length e0) (.slice a1 c.regs.length e1) (.slice a2 c.slots.length e2) (.slice a3 c.list.length e3)) := by
      rw [← hVA, ← hXA]
      exact World.rowIs_alloc w5 #[.slice a0 c.sign.length e0, .slice a1 c.regs.length e1, .slice a2 c.slots.length e2, .slice a3 c.list.length e3] 27 _ (fun i hi => by
      rcases (show i = 0 ∨ i = 1 ∨ i = 2 ∨ i = 3 by have : i < 4 := hi; omega) with rfl | rfl | rfl | rfl <;> rfl)
    have hsA : VA.heap.size = XA + 1 := by rw [← hVA, ← hXA]; simp
    have HSA := hidC hsA
    have HRA := hidC rA
    have HOA : Hid (Own4 EA VA (.slice a0 c.sign.length e0) (.slice a1 c.regs.length e1) (.slice a2 c.slots.length e2) (.slice a3 c.list.length e3) c) := by
      have h9 := HO5.out
      rw [hEA] at h9
      exact ⟨own_below h9.sign hbA, own_below h9.regs hbA, own_below h9.slots hbA, own_below h9.list hbA⟩
    have HLT : Hid ((∀ g, (Value.slice a0 c.sign.length e0).ownBlock = some g → EA ≤ g ∧ g < XA) ∧ (∀ g, (Value.slice a1 c.regs.length e1).ownBlock = some g → EA ≤ g ∧ g < XA) ∧ (∀ g, (Value.slice a2 c.slots.length e2).ownBlock = some g → EA ≤ g ∧ g < XA) ∧ (∀ g, (Value.slice a3 c.list.length e3).ownBlock = some g → EA ≤ g ∧ g < XA)) := by
      have h9 := HO5.out
      rw [hEA] at h9
      exact ⟨fun g e => ⟨(h9.sign.lt g e).1, by rw [← hXA]; exact (h9.sign.lt g e).2⟩, fun g e => ⟨(h9.regs.lt g e).1, by rw [← hXA]; exact (h9.regs.lt g e).2⟩, fun g e => ⟨(h9.slots.lt g e).1, by rw [← hXA]; exact (h9.slots.lt g e).2⟩, fun g e => ⟨(h9.list.lt g e).1, by rw [← hXA]; exact (h9.list.lt g e).2⟩⟩
    have HBA : Hid (Below W0.heap.size W0 VA) := bel (bel HB4.out HB5.out) hbA
    have HEA : Hid (W0.heap.size ≤ EA ∧ EA ≤ XA) := ⟨by rw [← hEA]; exact HB4.out.size, by rw [← hEA, ← hXA]; exact HB5.out.size⟩
    try rw [hVA]
    try rw [hXA]
    clear hVA hXA hEA hbA rA hsA HO5 HB5 HB4
    go_upto_region 6 with (go_at_call 7; (with_reducible refine (KD.out _).mono ?_); rintro e9 w6 ⟨b0, f0, b1, f1, b2, f2, b3, f3, rfl, ho6, hb6⟩; have HO6 := hidC ho6; have HB6 := hidC hb6; clear ho6 hb6)
    obtain ⟨XB, hXB⟩ : ∃ E, w6.heap.size = E := ⟨_, rfl⟩
    obtain ⟨VB, hVB⟩ : ∃ V, w6.alloc (.cells #[.slice b0 c.sign.length f0, .slice b1 c.regs.length f1, .slice b2 c.slots.length f2, .slice b3 c.list.length f3] 27) = V := ⟨_, rfl⟩
    have hbB : Below w6.heap.size w6 VB := by rw [← hVB]; exact bel_alloc _ _
    have rB : VB.rowIs XB 27 4 (f4 (.slice b0 c.sign.length f0) (.slice b1 c.regs.length f1) (.slice b2 c.slots.length f2) (.slice b3 c.list.length f3)) := by
      rw [← hVB, ← hXB]
      exact World.rowIs_alloc w6 #[.slice b0 c.sign.length f0, .slice b1 c.regs.length f1, .slice b2 c.slots.length f2, .slice b3 c.list.length f3] 27 _ (fun i hi => by
      rcases (show i = 0 ∨ i = 1 ∨ i = 2 ∨ i = 3 by have : i < 4 := hi; omega) with rfl | rfl | rfl | rfl <;> rfl)
    have hAB : Below VA.heap.size VA VB := bel HB6.out hbB
    have HRB := hidC rB
    have HRA2 := hidC (HRA.out.of_block (hAB.block _ HRA.out.lt))
    have HOB : Hid (Own4 (XA + 1) VB (.slice b0 c.sign.length f0) (.slice b1 c.regs.length f1) (.slice b2 c.slots.length f2) (.slice b3 c.list.length f3) c) := by
      have h9 := HO6.out
      rw [HSA.out] at h9
      exact ⟨own_below h9.sign hbB, own_below h9.regs hbB, own_below h9.slots hbB, own_below h9.list hbB⟩
    have HR4 : Hid (R4 EA VB (.slice a0 c.sign.length e0) (.slice a1 c.regs.length e1) (.slice a2 c.slots.length e2) (.slice a3 c.list.length e3) c) := ⟨⟨_, own_below HOA.out.sign hAB⟩, ⟨_, own_below HOA.out.regs hAB⟩, ⟨_, own_below HOA.out.slots hAB⟩, ⟨_, own_below HOA.out.list hAB⟩⟩
    have HBB : Hid (Below W0.heap.size W0 VB) := bel HBA.out hAB
    have HXX : Hid (XA + 1 ≤ XB) := by
      show _ ≤ _
      rw [← hXB, ← HSA.out]
      exact HB6.out.size
    try rw [hVB]
    try rw [hXB]
    clear hVB hXB hbB rB hAB HO6 HB6 HBA HRA HOA
    have HI0 : Hid (Wr EA XA VB VB ∧ R4 EA VB (.slice a0 c.sign.length e0) (.slice a1 c.regs.length e1) (.slice a2 c.slots.length e2) (.slice a3 c.list.length e3) c) := ⟨Wr.refl _ _ _, HR4.out⟩
    have HCX : Hid (∀ u, Wr EA XA VB u → u.rowIs XA 27 4 (f4 (.slice a0 c.sign.length e0) (.slice a1 c.regs.length e1) (.slice a2 c.slots.length e2) (.slice a3 c.list.length e3))) := fun u h => HRA2.out.of_block (h.up XA (Nat.le_refl _))
    go_upto_block 0 with fail
    go_cut [11] (fun iv wx => Hid (Wr EA XA VB wx ∧ R4 EA wx (.slice a0 c.sign.length e0) (.slice a1 c.regs.length e1) (.slice a2 c.slots.length e2) (.slice a3 c.list.length e3) c))
    case first =>
      have hbx2 : World.cell? _ ⟨XA, 3, none⟩ = some (.slice a3 c.list.length e3) := (HCX.out _ HI0.out.1).cell (i := 3) (by decide)
      go_wp2_with fail
      clear hbx2
      go_loopw [11] (fun iv wr => ∃ j : Nat, j ≤ c.list.length ∧ iv = .int .i64 (j : Int) ∧ Hid (Wr EA XA VB wr ∧ R4 EA wr (.slice a0 c.sign.length e0) (.slice a1 c.regs.length e1) (.slice a2 c.slots.length e2) (.slice a3 c.list.length e3) c)) (fun iv _ => c.list.length - (intOf iv).toNat)
      case atStart => exact ⟨0, Nat.zero_le _, rfl, HI0.out⟩
      case round =>
        obtain ⟨j, hj, rfl, HJ⟩ := hrel
        have hbx : wr.cell? ⟨XA, 3, none⟩ = some (.slice a3 c.list.length e3) := (HCX.out wr HJ.out.1).cell (i := 3) (by decide)
        by_cases hlt : j < c.list.length
        · obtain ⟨xs, hox⟩ := HJ.out.2.l3
          obtain ⟨gg, cap, e9, hg1, hg2⟩ := hox.form (by omega)
          have hlo := HLT.out.2.2.2 gg (by rw [e9]; rfl)
          have HT : Hid (EA ≤ gg ∧ gg < XA) := hlo
          simp only [Value.slice.injEq] at e9
          obtain ⟨e9, -, e8⟩ := e9
          rw [e9] at hbx
          have hcs := own_cellsC (by rw [e9] at hox; exact hox) j hlt
          obtain ⟨N, hN⟩ : ∃ N, c.list.length = N := ⟨_, rfl⟩
          rw [hN] at hbx hlt hl3
          obtain ⟨⟨u0, t0⟩, o0⟩ := hcs 0 (by decide)
          obtain ⟨⟨u1, t1⟩, o1⟩ := hcs 1 (by decide)
          obtain ⟨⟨u2, t2⟩, o2⟩ := hcs 2 (by decide)
          obtain ⟨⟨u3, t3⟩, o3⟩ := hcs 3 (by decide)
          obtain ⟨⟨u4, t4⟩, o4⟩ := hcs 4 (by decide)
          obtain ⟨⟨u5, t5⟩, o5⟩ := hcs 5 (by decide)
          obtain ⟨⟨u6, t6⟩, o6⟩ := hcs 6 (by decide)
          rw [Nat.add_zero] at t0 o0
          have i1 : (0 : Int) ≤ (j : Int) := by omega
          have i2 : (j : Int) < (N : Int) := by omega
          have wi : IntKind.i64.wrap ((j : Int) + 1) = ((j + 1 : Nat) : Int) := by rw [IntKind.wrap_i64]; omega
          clear hox hcs hg1 hg2 hlo e8
          go_wp2
          go_roundw
          case rel => exact ⟨j + 1, by rw [hN]; omega, by go_num, (((((((HJ.out.1.set HT.out _ _).set HT.out _ _).set HT.out _ _).set HT.out _ _).set HT.out _ _).set HT.out _ _).set HT.out _ _), (((((((HJ.out.2.set _ _ _).set _ _ _).set _ _ _).set _ _ _).set _ _ _).set _ _ _).set _ _ _)⟩
          case measure => rw [hN]; simp [intOf]; omega
        · have e1 : ¬ (j : Int) < (c.list.length : Int) := by omega
          clear hlt
          go_wp2
          go_meet
          exact HJ.out
    case rest =>
    have HI1 : Hid _ := hcut
    clear hcut
    rename World => VW1
    go_upto_block 2 with fail
    go_cut [12] (fun iv wx => Hid (Wr EA XA VB wx ∧ R4 EA wx (.slice a0 c.sign.length e0) (.slice a1 c.regs.length e1) (.slice a2 c.slots.length e2) (.slice a3 c.list.length e3) c))
    case first =>
      have hbx2 : World.cell? _ ⟨XA, 0, none⟩ = some (.slice a0 c.sign.length e0) := (HCX.out _ HI1.out.1).cell (i := 0) (by decide)
      go_wp2_with fail
      clear hbx2
      go_loopw [12] (fun iv wr => ∃ j : Nat, j ≤ c.sign.length ∧ iv = .int .i64 (j : Int) ∧ Hid (Wr EA XA VB wr ∧ R4 EA wr (.slice a0 c.sign.length e0) (.slice a1 c.regs.length e1) (.slice a2 c.slots.length e2) (.slice a3 c.list.length e3) c)) (fun iv _ => c.sign.length - (intOf iv).toNat)
      case atStart => exact ⟨0, Nat.zero_le _, rfl, HI1.out⟩
      case round =>
        obtain ⟨j, hj, rfl, HJ⟩ := hrel
        have hbx : wr.cell? ⟨XA, 0, none⟩ = some (.slice a0 c.sign.length e0) := (HCX.out wr HJ.out.1).cell (i := 0) (by decide)
        by_cases hlt : j < c.sign.length
        · obtain ⟨xs, hox⟩ := HJ.out.2.l0
          obtain ⟨gg, cap, e9, hg1, hg2⟩ := hox.form (by omega)
          have hlo := HLT.out.1 gg (by rw [e9]; rfl)
          have HT : Hid (EA ≤ gg ∧ gg < XA) := hlo
          simp only [Value.slice.injEq] at e9
          obtain ⟨e9, -, e8⟩ := e9
          rw [e9] at hbx
          have hcs := own_cellsC (by rw [e9] at hox; exact hox) j hlt
          obtain ⟨N, hN⟩ : ∃ N, c.sign.length = N := ⟨_, rfl⟩
          rw [hN] at hbx hlt hl0
          obtain ⟨⟨u0, t0⟩, o0⟩ := hcs 0 (by decide)
          obtain ⟨⟨u1, t1⟩, o1⟩ := hcs 1 (by decide)
          obtain ⟨⟨u2, t2⟩, o2⟩ := hcs 2 (by decide)
          rw [Nat.add_zero] at t0 o0
          have i1 : (0 : Int) ≤ (j : Int) := by omega
          have i2 : (j : Int) < (N : Int) := by omega
          have wi : IntKind.i64.wrap ((j : Int) + 1) = ((j + 1 : Nat) : Int) := by rw [IntKind.wrap_i64]; omega
          clear hox hcs hg1 hg2 hlo e8
          go_wp2
          go_roundw
          case rel => exact ⟨j + 1, by rw [hN]; omega, by go_num, (((HJ.out.1.set HT.out _ _).set HT.out _ _).set HT.out _ _), (((HJ.out.2.set _ _ _).set _ _ _).set _ _ _)⟩
          case measure => rw [hN]; simp [intOf]; omega
        · have e1 : ¬ (j : Int) < (c.sign.length : Int) := by omega
          clear hlt
          go_wp2
          go_meet
          exact HJ.out
    case rest =>
    have HI2 : Hid _ := hcut
    clear hcut
    rename World => VW2
    go_upto_block 4 with fail
    go_cut [13] (fun iv wx => Hid (Wr EA XA VB wx ∧ R4 EA wx (.slice a0 c.sign.length e0) (.slice a1 c.regs.length e1) (.slice a2 c.slots.length e2) (.slice a3 c.list.length e3) c))
    case first =>
      have hbx2 : World.cell? _ ⟨XA, 1, none⟩ = some (.slice a1 c.regs.length e1) := (HCX.out _ HI2.out.1).cell (i := 1) (by decide)
      go_wp2_with fail
      clear hbx2
      go_loopw [13] (fun iv wr => ∃ j : Nat, j ≤ c.regs.length ∧ iv = .int .i64 (j : Int) ∧ Hid (Wr EA XA VB wr ∧ R4 EA wr (.slice a0 c.sign.length e0) (.slice a1 c.regs.length e1) (.slice a2 c.slots.length e2) (.slice a3 c.list.length e3) c)) (fun iv _ => c.regs.length - (intOf iv).toNat)
      case atStart => exact ⟨0, Nat.zero_le _, rfl, HI2.out⟩
      case round =>
        obtain ⟨j, hj, rfl, HJ⟩ := hrel
        have hbx : wr.cell? ⟨XA, 1, none⟩ = some (.slice a1 c.regs.length e1) := (HCX.out wr HJ.out.1).cell (i := 1) (by decide)
        by_cases hlt : j < c.regs.length
        · obtain ⟨xs, hox⟩ := HJ.out.2.l1
          obtain ⟨gg, cap, e9, hg1, hg2⟩ := hox.form (by omega)
          have hlo := HLT.out.2.1 gg (by rw [e9]; rfl)
          have HT : Hid (EA ≤ gg ∧ gg < XA) := hlo
          simp only [Value.slice.injEq] at e9
          obtain ⟨e9, -, e8⟩ := e9
          rw [e9] at hbx
          have hcs := own_cellsC (by rw [e9] at hox; exact hox) j hlt
          obtain ⟨N, hN⟩ : ∃ N, c.regs.length = N := ⟨_, rfl⟩
          rw [hN] at hbx hlt hl1
          obtain ⟨⟨u0, t0⟩, o0⟩ := hcs 0 (by decide)
          obtain ⟨⟨u1, t1⟩, o1⟩ := hcs 1 (by decide)
          rw [Nat.add_zero] at t0 o0
          have i1 : (0 : Int) ≤ (j : Int) := by omega
          have i2 : (j : Int) < (N : Int) := by omega
          have wi : IntKind.i64.wrap ((j : Int) + 1) = ((j + 1 : Nat) : Int) := by rw [IntKind.wrap_i64]; omega
          clear hox hcs hg1 hg2 hlo e8
          go_wp2
          go_roundw
          case rel => exact ⟨j + 1, by rw [hN]; omega, by go_num, ((HJ.out.1.set HT.out _ _).set HT.out _ _), ((HJ.out.2.set _ _ _).set _ _ _)⟩
          case measure => rw [hN]; simp [intOf]; omega
        · have e1 : ¬ (j : Int) < (c.regs.length : Int) := by omega
          clear hlt
          go_wp2
          go_meet
          exact HJ.out
    case rest =>
    have HI3 : Hid _ := hcut
    clear hcut
    rename World => VW3
    go_upto_block 6 with fail
    go_cut [14] (fun iv wx => Hid (Wr EA XA VB wx ∧ R4 EA wx (.slice a0 c.sign.length e0) (.slice a1 c.regs.length e1) (.slice a2 c.slots.length e2) (.slice a3 c.list.length e3) c))
    case first =>
      have hbx2 : World.cell? _ ⟨XA, 2, none⟩ = some (.slice a2 c.slots.length e2) := (HCX.out _ HI3.out.1).cell (i := 2) (by decide)
      go_wp2_with fail
      clear hbx2
      go_loopw [14] (fun iv wr => ∃ j : Nat, j ≤ c.slots.length ∧ iv = .int .i64 (j : Int) ∧ Hid (Wr EA XA VB wr ∧ R4 EA wr (.slice a0 c.sign.length e0) (.slice a1 c.regs.length e1) (.slice a2 c.slots.length e2) (.slice a3 c.list.length e3) c)) (fun iv _ => c.slots.length - (intOf iv).toNat)
      case atStart => exact ⟨0, Nat.zero_le _, rfl, HI3.out⟩
      case round =>
        obtain ⟨j, hj, rfl, HJ⟩ := hrel
        have hbx : wr.cell? ⟨XA, 2, none⟩ = some (.slice a2 c.slots.length e2) := (HCX.out wr HJ.out.1).cell (i := 2) (by decide)
        by_cases hlt : j < c.slots.length
        · obtain ⟨xs, hox⟩ := HJ.out.2.l2
          obtain ⟨gg, cap, e9, hg1, hg2⟩ := hox.form (by omega)
          have hlo := HLT.out.2.2.1 gg (by rw [e9]; rfl)
          have HT : Hid (EA ≤ gg ∧ gg < XA) := hlo
          simp only [Value.slice.injEq] at e9
          obtain ⟨e9, -, e8⟩ := e9
          rw [e9] at hbx
          have hcs := own_cellsC (by rw [e9] at hox; exact hox) j hlt
          obtain ⟨N, hN⟩ : ∃ N, c.slots.length = N := ⟨_, rfl⟩
          rw [hN] at hbx hlt hl2
          obtain ⟨⟨u0, t0⟩, o0⟩ := hcs 0 (by decide)
          obtain ⟨⟨u1, t1⟩, o1⟩ := hcs 1 (by decide)
          obtain ⟨⟨u2, t2⟩, o2⟩ := hcs 2 (by decide)
          obtain ⟨⟨u3, t3⟩, o3⟩ := hcs 3 (by decide)
          obtain ⟨⟨u4, t4⟩, o4⟩ := hcs 4 (by decide)
          rw [Nat.add_zero] at t0 o0
          have i1 : (0 : Int) ≤ (j : Int) := by omega
          have i2 : (j : Int) < (N : Int) := by omega
          have wi : IntKind.i64.wrap ((j : Int) + 1) = ((j + 1 : Nat) : Int) := by rw [IntKind.wrap_i64]; omega
          clear hox hcs hg1 hg2 hlo e8
          go_wp2
          go_roundw
          case rel => exact ⟨j + 1, by rw [hN]; omega, by go_num, (((((HJ.out.1.set HT.out _ _).set HT.out _ _).set HT.out _ _).set HT.out _ _).set HT.out _ _), (((((HJ.out.2.set _ _ _).set _ _ _).set _ _ _).set _ _ _).set _ _ _)⟩
          case measure => rw [hN]; simp [intOf]; omega
        · have e1 : ¬ (j : Int) < (c.slots.length : Int) := by omega
          clear hlt
          go_wp2
          go_meet
          exact HJ.out
    case rest =>
    have HI4 : Hid _ := hcut
    clear hcut
    rename World => VW4
    have HWR := hidC HI4.out.1
    clear HI0 HI1 HI2 HI3 HI4 HCX HLT HR4 HRA2
    have HWB : Hid (Below W0.heap.size W0 VW4) := HBB.out.trans (HWR.out.bel.mono HEA.out.1)
    go_upto_region 23 with (go_at_call 7; (with_reducible refine (KD.out _).mono ?_); rintro e9 w8 ⟨m0, n0, m1, n1, m2, n2, m3, n3, rfl, ho8, hb8⟩; have HO8 := hidC ho8; have HB8 := hidC hb8; clear ho8 hb8)
    obtain ⟨XD, hXD⟩ : ∃ E, w8.heap.size = E := ⟨_, rfl⟩
    obtain ⟨VD, hVD⟩ : ∃ V, w8.alloc (.cells #[.slice m0 c.sign.length n0, .slice m1 c.regs.length n1, .slice m2 c.slots.length n2, .slice m3 c.list.length n3] 27) = V := ⟨_, rfl⟩
    have hbD : Below w8.heap.size w8 VD := by rw [← hVD]; exact bel_alloc _ _
    have rD : VD.rowIs XD 27 4 (f4 (.slice m0 c.sign.length n0) (.slice m1 c.regs.length n1) (.slice m2 c.slots.length n2) (.slice m3 c.list.length n3)) := by
      rw [← hVD, ← hXD]
      exact World.rowIs_alloc w8 #[.slice m0 c.sign.length n0, .slice m1 c.regs.length n1, .slice m2 c.slots.length n2, .slice m3 c.list.length n3] 27 _ (fun i hi => by
      rcases (show i = 0 ∨ i = 1 ∨ i = 2 ∨ i = 3 by have : i < 4 := hi; omega) with rfl | rfl | rfl | rfl <;> rfl)
    have hWD : Below VW4.heap.size VW4 VD := bel HB8.out hbD
    have rB4 := HRB.out.of_block (HWR.out.up XB (by have := HXX.out; omega))
    have rBD := rB4.of_block (hWD.block _ rB4.lt)
    have hxs : X < W0.heap.size := HRX.out.lt
    have hWX : Below W0.heap.size W0 VD := HWB.out.trans (hWD.mono HWB.out.size)
    have rXD := HRX.out.of_block (hWX.block _ hxs)
    have cB := (CdV.wr HOB.out (Nat.le_succ _) HWR.out).below hWD
    have cD := (cd_own HO8.out).below hbD
    have bwD : Below w.heap.size w VD := (HB0.out.trans (hWX.mono HB0.out.size))
    have cC := HV.out VD bwD
    have KQ1 := hidC (fun (v : World) (h : Below VD.heap.size VD v) => KQ.out v _ _ _ _ _ _ _ _ (cB.below h) (cC.below h))
    have KQ2 := hidC (fun (v : World) (h : Below VD.heap.size VD v) => KQ.out v _ _ _ _ _ _ _ _ (cD.below h) (cC.below h))
    have HCL : Hid (∀ v, Below VD.heap.size VD v → v.rowIs XB 27 4 (f4 (.slice b0 c.sign.length f0) (.slice b1 c.regs.length f1) (.slice b2 c.slots.length f2) (.slice b3 c.list.length f3)) ∧ v.rowIs X 27 4 (f4 (.slice p0 c.sign.length q0) (.slice p1 c.regs.length q1) (.slice p2 c.slots.length q2) (.slice p3 c.list.length q3)) ∧ v.rowIs XD 27 4 (f4 (.slice m0 c.sign.length n0) (.slice m1 c.regs.length n1) (.slice m2 c.slots.length n2) (.slice m3 c.list.length n3))) := fun v h => ⟨rBD.of_block (h.block _ rBD.lt), rXD.of_block (h.block _ rXD.lt), rD.of_block (h.block _ rD.lt)⟩
    have HBD := hidC bwD
    obtain ⟨g1, g2, g3⟩ := HCL.out VD (Below.refl _ _)
    try rw [hVD]
    try rw [hXD]
    clear hVD hXD hbD rD hWD rB4 rBD hWX rXD cB cD cC bwD hxs
    have yb0 : VD.cell? ⟨XB, 0, none⟩ = some (.slice b0 c.sign.length f0) := g1.cell (i := 0) (by decide)
    have yb1 : VD.cell? ⟨XB, 1, none⟩ = some (.slice b1 c.regs.length f1) := g1.cell (i := 1) (by decide)
    have yb2 : VD.cell? ⟨XB, 2, none⟩ = some (.slice b2 c.slots.length f2) := g1.cell (i := 2) (by decide)
    have yb3 : VD.cell? ⟨XB, 3, none⟩ = some (.slice b3 c.list.length f3) := g1.cell (i := 3) (by decide)
    have yx0 : VD.cell? ⟨X, 0, none⟩ = some (.slice p0 c.sign.length q0) := g2.cell (i := 0) (by decide)
    have yx1 : VD.cell? ⟨X, 1, none⟩ = some (.slice p1 c.regs.length q1) := g2.cell (i := 1) (by decide)
    have yx2 : VD.cell? ⟨X, 2, none⟩ = some (.slice p2 c.slots.length q2) := g2.cell (i := 2) (by decide)
    have yx3 : VD.cell? ⟨X, 3, none⟩ = some (.slice p3 c.list.length q3) := g2.cell (i := 3) (by decide)
    have KQA := hidC (KQ1.out VD (Below.refl _ _))
    clear g1 g2 g3 KQ1 KQ HO8 HB8
    go_wp2_with (first | (go_at_call 8; first | ((with_reducible refine KQA.out.mono ?_); rintro e9 wa ⟨rfl, hba⟩; clear KQA; have HBa := hidC hba; have KQB := hidC (KQ2.out wa hba); obtain ⟨-, g2, g3⟩ := HCL.out wa hba; clear hba;  have za0 : wa.cell? ⟨X, 0, none⟩ = some (.slice p0 c.sign.length q0) := g2.cell (i := 0) (by decide); have za1 : wa.cell? ⟨X, 1, none⟩ = some (.slice p1 c.regs.length q1) := g2.cell (i := 1) (by decide); have za2 : wa.cell? ⟨X, 2, none⟩ = some (.slice p2 c.slots.length q2) := g2.cell (i := 2) (by decide); have za3 : wa.cell? ⟨X, 3, none⟩ = some (.slice p3 c.list.length q3) := g2.cell (i := 3) (by decide); have zd0 : wa.cell? ⟨XD, 0, none⟩ = some (.slice m0 c.sign.length n0) := g3.cell (i := 0) (by decide); have zd1 : wa.cell? ⟨XD, 1, none⟩ = some (.slice m1 c.regs.length n1) := g3.cell (i := 1) (by decide); have zd2 : wa.cell? ⟨XD, 2, none⟩ = some (.slice m2 c.slots.length n2) := g3.cell (i := 2) (by decide); have zd3 : wa.cell? ⟨XD, 3, none⟩ = some (.slice m3 c.list.length n3) := g3.cell (i := 3) (by decide); clear g2 g3) | ((with_reducible refine KQB.out.mono ?_); rintro e9 wb ⟨rfl, hbb⟩; have HBb : Hid (Below VD.heap.size VD wb) := bel HBa.out hbb; clear hbb)) | (go_at_call 6; (with_reducible refine (KW.out _).mono ?_); rintro e9 wz ⟨rfl, hbz⟩; have HBz : Hid (Below VD.heap.size VD wz) := bel HBb.out hbz; clear hbz))
    refine bodyPost_ret (by simp [results, Try.results3, go_sem, *]; try rfl) rfl ?_
    exact ⟨by first | rfl | simp, bel HBD.out HBz.out⟩
  · have KE := hidC (fun (v : World) (x0 x1 x2 x3 : Value) (h : CdV v x0 x1 x2 x3 c) => encode_bad x0 x1 x2 x3 c hk v h hc)
    obtain ⟨ee, hee⟩ : ∃ e, (checkC c).1 = e := ⟨_, rfl⟩
    rw [hee] at KE hc
    have s1 : (ee == 0) = false := by simpa using hc
    have s2 : (ee != 0) = true := by simpa using hc
    clear hc hee
    go_enter Try.func3, Try.ntmps3
    go_upto_region 1 with fail
    try rw [hW0]
    try rw [hX]
    go_wp2_with (first | (go_at_call 5; (with_reducible refine KT.out.mono ?_); rintro e9 w3 ⟨t0, t1, t2, t3, rfl, ht3, ho3, hb3⟩; have HB3 := hidC hb3; have KE3 := hidC (KE.out w3 _ _ _ _ ht3); clear ht3 ho3 hb3) | (go_at_call 4; (with_reducible refine KE3.out.mono ?_); rintro e9 w4 ⟨rfl, hb4⟩; have HB4 : Hid (Below W0.heap.size W0 w4) := bel HB3.out hb4; clear hb4) | (go_at_call 6; (with_reducible refine (KW.out _).mono ?_); rintro e9 wz ⟨rfl, hbz⟩; have HBz := hidC (bel (bel HB0.out HB4.out) hbz); clear hbz))
    refine bodyPost_ret (by simp [results, Try.results3, go_sem, *]; try rfl) rfl ?_
    exact ⟨by first | rfl | simp, HBz.out⟩

end Go.Proofs.Ytnlgkkbmbijndab
/- Arguments opened: an instruction; code. -/
namespace Go.Proofs.Ytnlgkkbmbijndab
open Go.ChangeShapes Go.WideShapes Go.ChangeAt Go.RowKit
set_option linter.unusedVariables false
set_option maxRecDepth 100000

theorem cells_Inst : Try.prog.cellsOf 38 = 7 := by kernel_rfl
theorem cells_Param : Try.prog.cellsOf 40 = 3 := by kernel_rfl
theorem cells_Type : Try.prog.cellsOf 42 = 2 := by kernel_rfl
theorem cells_Slot : Try.prog.cellsOf 44 = 5 := by kernel_rfl
theorem cells_Code : Try.prog.cellsOf 27 = 4 := by kernel_rfl
theorem bytes_Inst : Try.prog.bytesOf 38 = 56 := by kernel_rfl
theorem bytes_Param : Try.prog.bytesOf 40 = 32 := by kernel_rfl
theorem bytes_Type : Try.prog.bytesOf 42 = 16 := by kernel_rfl
theorem bytes_Slot : Try.prog.bytesOf 44 = 32 := by kernel_rfl
theorem weights_mem_all {H : Type} {P : Program} {e : TypeId} : ∀ {l : List (DataW H)} {d : DataW H}, d ∈ l → ∀ n ∈ d.weights P e, n ∈ DataW.weightsAll P e l
  | [], d, h, n, hn => by cases h
  | x :: r, d, h, n, hn => by
    simp only [DataW.weightsAll, List.mem_append]
    rcases List.mem_cons.1 h with rfl | h
    · exact .inl hn
    · exact .inr (weights_mem_all h n hn)

section
variable {H : Type} {enc : TypeId × Value → H} {w : World} {base : Nat} {held : Bool}

def InsOk (i : Ins) : Prop := 0 ≤ i.bits ∧ i.bits < 4294967296
theorem open_Ins {fuel : Nat} {cs : List Value} {x : DataW H × List MemPlace} (h : DataW.trod enc Try.prog w base (fun _ => true) held fuel 38 cs = some x) : ∃ i : Ins, cs = inC i ∧ InsOk i := by
  obtain ⟨xs, n, hfn, hx, hl, hxl, hf⟩ := DataW.trod_struct Try.underlying38 h
  rw [cells_Inst] at hl
  match cs, hl with
  | [v0, v1, v2, v3, v4, v5, v6], _ =>
  match xs, hxl with
  | [y0, y1, y2, y3, y4, y5, y6], _ =>
    have e0 : DataW.trod enc Try.prog w base (fun _ => true) held n 3 [v0] = some y0 := hf 0 _ rfl
    have e1 : DataW.trod enc Try.prog w base (fun _ => true) held n 3 [v1] = some y1 := hf 1 _ rfl
    have e2 : DataW.trod enc Try.prog w base (fun _ => true) held n 3 [v2] = some y2 := hf 2 _ rfl
    have e3 : DataW.trod enc Try.prog w base (fun _ => true) held n 3 [v3] = some y3 := hf 3 _ rfl
    have e4 : DataW.trod enc Try.prog w base (fun _ => true) held n 3 [v4] = some y4 := hf 4 _ rfl
    have e5 : DataW.trod enc Try.prog w base (fun _ => true) held n 3 [v5] = some y5 := hf 5 _ rfl
    have e6 : DataW.trod enc Try.prog w base (fun _ => true) held n 36 [v6] = some y6 := hf 6 _ rfl
    obtain ⟨a0, c0, -, w0⟩ := DataW.trod_int Try.underlying3 e0
    obtain ⟨a1, c1, -, w1⟩ := DataW.trod_int Try.underlying3 e1
    obtain ⟨a2, c2, -, w2⟩ := DataW.trod_int Try.underlying3 e2
    obtain ⟨a3, c3, -, w3⟩ := DataW.trod_int Try.underlying3 e3
    obtain ⟨a4, c4, -, w4⟩ := DataW.trod_int Try.underlying3 e4
    obtain ⟨a5, c5, -, w5⟩ := DataW.trod_int Try.underlying3 e5
    obtain ⟨a6, c6, -, w6⟩ := DataW.trod_int Try.underlying36 e6
    simp only [List.cons.injEq, and_true] at c0 c1 c2 c3 c4 c5 c6
    subst c0 c1 c2 c3 c4 c5 c6
    exact ⟨⟨a0, a1, a2, a3, a4, a5, a6⟩, rfl, (bounds_u32 w6).1, Int.lt_add_one_of_le (bounds_u32 w6).2⟩
theorem open_Par {fuel : Nat} {cs : List Value} {x : DataW H × List MemPlace} (h : DataW.trod enc Try.prog w base (fun _ => true) held fuel 40 cs = some x) (hw : ∀ n ∈ x.1.weights Try.prog 40, n ≤ reachBytes) :
    ∃ p : Par, cs = parCells p ∧ p.name.size ≤ 140737488351232 := by
  obtain ⟨xs, n, hfn, hx, hl, hxl, hf⟩ := DataW.trod_struct Try.underlying40 h
  rw [cells_Param] at hl
  match cs, hl with
  | [v0, v1, v2], _ =>
  match xs, hxl with
  | [y0, y1, y2], _ =>
    have e0 : DataW.trod enc Try.prog w base (fun _ => true) held n 9 [v0] = some y0 := hf 0 _ rfl
    have e1 : DataW.trod enc Try.prog w base (fun _ => true) held n 3 [v1] = some y1 := hf 1 _ rfl
    have e2 : DataW.trod enc Try.prog w base (fun _ => true) held n 3 [v2] = some y2 := hf 2 _ rfl
    obtain ⟨a0, c0, hd0, w0⟩ := DataW.trod_string Try.underlying9 e0
    obtain ⟨a1, c1, hd1, w1⟩ := DataW.trod_int Try.underlying3 e1
    obtain ⟨a2, c2, hd2, w2⟩ := DataW.trod_int Try.underlying3 e2
    simp only [List.cons.injEq, and_true] at c0 c1 c2
    subst c0 c1 c2
    subst hx
    have hws : ∀ (j : Nat) (t : TypeId) (d : DataW H), [9, 3, 3][j]? = some t → [y0.1, y1.1, y2.1][j]? = some d → ∀ n ∈ d.weights Try.prog t, n ≤ reachBytes := fun j t d ht hd n hn => by
      refine hw n ?_
      show n ∈ DataW.weights Try.prog 40 (.agg [y0.1, y1.1, y2.1])
      rw [DataW.weights, Try.underlying40]
      exact DataW.weights_mem_each (ts := [9, 3, 3]) ht hd n hn
    have s1 : a0.size ≤ 140737488351232 := by
      have := hws 0 _ _ rfl rfl a0.data.toList.length (by rw [hd0]; simp [DataW.weights])
      simpa [reachBytes] using this
    exact ⟨⟨a0, a1, a2⟩, rfl, s1⟩
theorem open_Ty {fuel : Nat} {cs : List Value} {x : DataW H × List MemPlace} (h : DataW.trod enc Try.prog w base (fun _ => true) held fuel 42 cs = some x) : ∃ t : Ty, cs = tyC t ∧ True := by
  obtain ⟨xs, n, hfn, hx, hl, hxl, hf⟩ := DataW.trod_struct Try.underlying42 h
  rw [cells_Type] at hl
  match cs, hl with
  | [v0, v1], _ =>
  match xs, hxl with
  | [y0, y1], _ =>
    have e0 : DataW.trod enc Try.prog w base (fun _ => true) held n 3 [v0] = some y0 := hf 0 _ rfl
    have e1 : DataW.trod enc Try.prog w base (fun _ => true) held n 3 [v1] = some y1 := hf 1 _ rfl
    obtain ⟨a0, c0, -, w0⟩ := DataW.trod_int Try.underlying3 e0
    obtain ⟨a1, c1, -, w1⟩ := DataW.trod_int Try.underlying3 e1
    simp only [List.cons.injEq, and_true] at c0 c1
    subst c0 c1
    exact ⟨⟨a0, a1⟩, rfl, trivial⟩
def SlOk (s : Sl) : Prop := 0 ≤ s.bits ∧ s.bits < 4294967296
theorem open_Sl {fuel : Nat} {cs : List Value} {x : DataW H × List MemPlace} (h : DataW.trod enc Try.prog w base (fun _ => true) held fuel 44 cs = some x) : ∃ s : Sl, cs = slC s ∧ SlOk s := by
  obtain ⟨xs, n, hfn, hx, hl, hxl, hf⟩ := DataW.trod_struct Try.underlying44 h
  rw [cells_Slot] at hl
  match cs, hl with
  | [v0, v1, v2, v3, v4], _ =>
  match xs, hxl with
  | [y0, y1, y2, y3], _ =>
    have e0 : DataW.trod enc Try.prog w base (fun _ => true) held n 42 [v0, v1] = some y0 := hf 0 _ rfl
    have e1 : DataW.trod enc Try.prog w base (fun _ => true) held n 4 [v2] = some y1 := hf 1 _ rfl
    have e2 : DataW.trod enc Try.prog w base (fun _ => true) held n 36 [v3] = some y2 := hf 2 _ rfl
    have e3 : DataW.trod enc Try.prog w base (fun _ => true) held n 3 [v4] = some y3 := hf 3 _ rfl
    obtain ⟨t, ht, -⟩ := open_Ty e0
    obtain ⟨a1, c1, -⟩ := DataW.trod_bool Try.underlying4 e1
    obtain ⟨a2, c2, -, w2⟩ := DataW.trod_int Try.underlying36 e2
    obtain ⟨a3, c3, -, w3⟩ := DataW.trod_int Try.underlying3 e3
    obtain ⟨K, P⟩ := t
    simp only [tyC, List.cons.injEq, and_true] at ht c1 c2 c3
    obtain ⟨rfl, rfl⟩ := ht
    subst c1 c2 c3
    exact ⟨⟨⟨K, P⟩, a1, a2, a3⟩, rfl, (bounds_u32 w2).1, Int.lt_add_one_of_le (bounds_u32 w2).2⟩

/-- A slice of structs, told by how one of them is opened. -/
theorem open_rowG {α : Type} [Inhabited α] {f : α → List Value} {k bytes : Nat} {t e : TypeId} {Good : α → Prop} (hk : 0 < k) (hf : ∀ x, (f x).length = k) (ht : Try.prog.underlying t = some (.slice e)) (hce : Try.prog.cellsOf e = k) (hby : Try.prog.bytesOf e = bytes) (hb0 : 0 < bytes)
    (hop : ∀ {fuel : Nat} {cs : List Value} {x : DataW H × List MemPlace}, DataW.trod enc Try.prog w base (fun _ => true) held fuel e cs = some x → (∀ n ∈ x.1.weights Try.prog e, n ≤ reachBytes) → ∃ a : α, cs = f a ∧ Good a)
    {fuel : Nat} {v : Value} {x : DataW H × List MemPlace} (h : DataW.trod enc Try.prog w base (fun _ => true) held fuel t [v] = some x) (hw : ∀ n ∈ x.1.weights Try.prog t, n ≤ reachBytes) :
    ∃ l : List α, RowG k f w v l ∧ l.length * bytes ≤ 140737488351232 ∧ ∀ a ∈ l, Good a := by
  rcases DataW.trod_slice ht h with ⟨hcs, hx⟩ | ⟨a, len, cap, elems, rest, m, hm, hcs, hx, _, hl, _, hel, hread, _, _⟩
  · simp only [List.cons.injEq, and_true] at hcs
    subst hcs
    exact ⟨[], ⟨none, 0, rfl, .inl rfl⟩, by simp, fun a h => by cases h⟩
  · simp only [List.cons.injEq, and_true] at hcs
    subst hcs
    subst hx
    have key : ∀ i, i < len → ∃ q : α, (∀ j, j < k → w.cell? (a.add (i * k + j)) = (f q)[j]?) ∧ Good q := by
      intro i hi
      have h1 := hread i hi
      rw [hce] at h1
      have hie : i < elems.length := by omega
      rw [List.getElem?_eq_getElem hie] at h1
      obtain ⟨cs', h2, h3⟩ := Option.bind_eq_some_iff.1 h1
      obtain ⟨_, hlen3, hcell⟩ := World.cells?_some h2
      obtain ⟨q, hcs, hok⟩ := hop h3 (fun n hn => hw n (by
        rw [DataW.weights, ht]
        exact List.mem_cons_of_mem _ (List.mem_append_left _ (weights_mem_all (List.mem_map.2 ⟨elems[i], List.getElem_mem hie, rfl⟩) n hn))))
      refine ⟨q, fun j hj => ?_, hok⟩
      have := hcell j hj
      rw [Go.Deep.add_add, hcs] at this
      exact this
    obtain ⟨g, hg⟩ := Go.Deep.choose_lt key
    have hTl : ((List.range len).map g).length = len := by simp
    have hbig : len * bytes ≤ 140737488351232 := by
      have := hw _ (by rw [DataW.weights, ht]; exact List.mem_cons_self)
      rw [hby] at this
      simp only [List.length_map, reachBytes] at this
      have hln : elems.length = len := by omega
      simp only [hln] at this
      exact Nat.le_trans (Nat.mul_le_mul_right _ (Nat.le_add_right _ _)) this
    refine ⟨(List.range len).map g, ?_, by rw [hTl]; exact hbig, ?_⟩
    · refine ⟨some a, cap, by rw [hTl], ?_⟩
      by_cases hl0 : len = 0
      · left; simp [hl0]
      · obtain ⟨b, off, spot⟩ := a
        have hne : 0 < (f (g 0)).length := by rw [hf]; exact hk
        have hspot : spot = none := by
          have := (hg 0 (by omega)).1 0 hk
          rw [List.getElem?_eq_getElem hne] at this
          simpa [Addr.add] using World.cell?_spot this
        subst hspot
        refine .inr ⟨b, off, rfl, fun i hi j hj => ?_⟩
        have hi' : i < len := by rw [hTl] at hi; exact hi
        obtain ⟨q, -⟩ := hg i hi'
        have e : ((List.range len).map g)[i] = g i := by simp
        have hj2 : j < (f (g i)).length := by simpa [e] using hj
        have hj3 : j < k := by rw [← hf (g i)]; exact hj2
        have q' := q j hj3
        rw [add_none, ← Nat.add_assoc] at q'
        rw [q', List.getElem?_eq_getElem hj2]
        congr 1
        simp [e]
    · intro q hq
      obtain ⟨i, hi, rfl⟩ := List.mem_map.1 hq
      exact (hg i (List.mem_range.1 hi)).2

instance : Inhabited Ins := ⟨⟨0, 0, 0, 0, 0, 0, 0⟩⟩
instance : Inhabited Ty := ⟨⟨0, 0⟩⟩
instance : Inhabited Sl := ⟨⟨⟨0, 0⟩, false, 0, 0⟩⟩
instance : Inhabited Par := ⟨⟨⟨#[]⟩, 0, 0⟩⟩

/-- Code that came in. -/
theorem open_Code {r : Reach} {b0 : Nat} {v : Value} {d : DataW H} {pl : List MemPlace} (hv : Value.okWide Try.prog w r b0 27 v) (h : DataW.Trod enc Try.prog w base (fun _ => true) held 27 v d pl) (hw : ∀ n ∈ d.weights Try.prog 27, n ≤ reachBytes) :
    ∃ (v0 v1 v2 v3 : Value) (c : Cd), v = .agg #[v0, v1, v2, v3] ∧ CdV w v0 v1 v2 v3 c ∧ CdOk c ∧ c.sign.length * 32 ≤ 140737488351232 ∧ c.regs.length * 16 ≤ 140737488351232 ∧ c.slots.length * 32 ≤ 140737488351232 ∧ c.list.length * 56 ≤ 140737488351232 := by
  obtain ⟨cs, rfl, hsz⟩ := okWide_struct Try.underlying27 hv
  obtain ⟨fuel, hf0⟩ := h
  obtain ⟨xs, n, hfn, hx, hl, hxl, hf⟩ := DataW.trod_struct Try.underlying27 hf0
  rw [cells_Code] at hl
  obtain ⟨cl, hcl⟩ : ∃ cl, (Value.agg cs).cells.toList = cl := ⟨_, rfl⟩
  rw [hcl] at hl hf
  have hcs : cs.toList = cl := by rw [← hcl]; simp [Value.cells]
  match cl, hl with
  | [v0, v1, v2, v3], _ =>
  match xs, hxl with
  | [y0, y1, y2, y3], _ =>
    have e0 : DataW.trod enc Try.prog w base (fun _ => true) held n 22 [v0] = some y0 := hf 0 _ rfl
    have e1 : DataW.trod enc Try.prog w base (fun _ => true) held n 23 [v1] = some y1 := hf 1 _ rfl
    have e2 : DataW.trod enc Try.prog w base (fun _ => true) held n 24 [v2] = some y2 := hf 2 _ rfl
    have e3 : DataW.trod enc Try.prog w base (fun _ => true) held n 25 [v3] = some y3 := hf 3 _ rfl
    have hd : d = .agg [y0.1, y1.1, y2.1, y3.1] := congrArg Prod.fst hx
    have hws : ∀ (j : Nat) (t : TypeId) (d : DataW H), [22, 23, 24, 25][j]? = some t → [y0.1, y1.1, y2.1, y3.1][j]? = some d → ∀ n ∈ d.weights Try.prog t, n ≤ reachBytes := fun j t d' ht hd' n hn => by
      refine hw n ?_
      rw [hd]
      show n ∈ DataW.weights Try.prog 27 (.agg [y0.1, y1.1, y2.1, y3.1])
      rw [DataW.weights, Try.underlying27]
      exact DataW.weights_mem_each (ts := [22, 23, 24, 25]) ht hd' n hn
    obtain ⟨l0, r0, s0, g0⟩ := open_rowG (Good := fun p : Par => p.name.size ≤ 140737488351232) (by decide) parC_len Try.underlying22 cells_Param bytes_Param (by decide) (fun h hw => open_Par h hw) e0 (hws 0 _ _ rfl rfl)
    obtain ⟨l1, r1, s1, g1⟩ := open_rowG (Good := fun _ : Ty => True) (by decide) tyC_len Try.underlying23 cells_Type bytes_Type (by decide) (fun h _ => open_Ty h) e1 (hws 1 _ _ rfl rfl)
    obtain ⟨l2, r2, s2, g2⟩ := open_rowG (Good := SlOk) (by decide) slC_len Try.underlying24 cells_Slot bytes_Slot (by decide) (fun h _ => open_Sl h) e2 (hws 2 _ _ rfl rfl)
    obtain ⟨l3, r3, s3, g3⟩ := open_rowG (Good := InsOk) (by decide) inC_len Try.underlying25 cells_Inst bytes_Inst (by decide) (fun h _ => open_Ins h) e3 (hws 3 _ _ rfl rfl)
    refine ⟨v0, v1, v2, v3, ⟨l0, l1, l2, l3⟩, ?_, ⟨r0, r1, r2, r3⟩, ⟨by show l0.length ≤ _; omega, g0, by show l1.length ≤ _; omega, by show l2.length ≤ _; omega, by show l3.length ≤ _; omega, g2, g3⟩, s0, s1, s2, s3⟩
    rw [Value.agg.injEq]
    apply Array.toList_inj.1
    exact hcs
end

end Go.Proofs.Ytnlgkkbmbijndab
