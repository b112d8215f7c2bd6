import Derived.Test.YtnlgkkbmbijndaaGreatBck27
import Derived.Test.YtnlgkkbmbijndaaGreatBck28
import Derived.Test.YtnlgkkbmbijndaaGreatBck29
import Derived.Test.YtnlgkkbmbijndaaGreatBck1
import Derived.Test.YtnlgkkbmbijndaaGreatBck25
import Derived.Test.YtnlgkkbmbijndaaGreatBck20
import Derived.Test.YtnlgkkbmbijndaaGreatBck18
import Derived.Test.YtnlgkkbmbijndaaGreatBck14
/- The reference of layer 16: fits, whatever the instruction. -/
namespace Go.Proofs.YtnlgkkbmbijndaaGreat
open Go.RowKit
set_option linter.unusedVariables false
set_option linter.unusedSimpArgs false

def okM (L : Lt) : Bool := decide (L.a = 45 → L.b = 45 → L.e = 45 ∨ L.e = 113) && (decide (L.a = 45 → L.b ≠ 45 → L.e = 45 ∨ L.e = 112 ∨ L.e = 115) && decide (L.a ≠ 45 → L.e = 45 ∨ L.e = 105 ∨ L.e = 112 ∨ L.e = 115))
theorem okM_ite {p : Prop} [Decidable p] {x y : Lt} (h : okM x = true) (k : okM y = true) : okM (if p then x else y) = true := by
  split
  · exact h
  · exact k
theorem ltR_okM (op : Int) : okM (ltR op) = true := by
  unfold ltR
  iterate 19 refine okM_ite (by decide) ?_
  decide

theorem rfits_yes (v0 v1 v2 v3 : Value) (c : Cd) (co : CdOk c) (hT : typesMay c = true) (i : Ins) (h0 : 0 ≤ i.bits) (h1 : i.bits < 4294967296) (hk : knownP i.op = true) (h2 : (i.op == 1 || i.bits == 0) = true) (h3 : toldB i.bits = true) (w : World) (hv : CdV w v0 v1 v2 v3 c) :
    Calls Tryz.prog 68 #[.agg #[v0, v1, v2, v3], insV i] w fun e w' => e = .returned (.bool (fitsR c i (ltR i.op))) ∧ Below w.heap.size w w' := by
  have HCAN : Hid (∀ w, Calls Tryz.prog 67 #[.int .u32 i.bits] w fun e w' => e = .returned (.bool true) ∧ Below w.heap.size w w') := by rw [← h3]; exact rcanonical_any i.bits h0 h1
  obtain ⟨a, b, cc, d, e, ⟨ea, eb, ec, ed, ee⟩, hc⟩ := rrow_lt i.op hk
  obtain ⟨oa, ob, oc, od, oe, oT⟩ := ltR_ok i.op
  have om := ltR_okM i.op
  unfold okM at om
  simp only [Bool.and_eq_true, decide_eq_true_eq] at om
  obtain ⟨m1, m2, m3⟩ := om
  have hF : fitsR c i (ltR i.op) = (operR c.regs (ltR i.op).a i.d ⟨0, 0⟩ && (operR c.regs (ltR i.op).b i.a (dR c.regs (ltR i.op).a i.d) && (operR c.regs (ltR i.op).c i.b (dR c.regs (ltR i.op).a i.d) && (operR c.regs (ltR i.op).d i.c (dR c.regs (ltR i.op).a i.d) && tailR c (ltR i.op).e i.n (tR c.regs (ltR i.op).a (ltR i.op).b i.d i.a))))) := by
    unfold fitsR; rw [h2, h3, Bool.true_and, Bool.true_and]
  rw [hF]
  clear hF h3
  have ix0 : ∀ w, (Instr.index 9 (.string ⟨#[a, b, cc, d, e]⟩) (.int .i64 0)).run Tryz.prog w = .ok (.int .u8 (ltR i.op).a) w := fun w => by rw [← ea]; simp [Instr.index, run_underlying Tryz.underlying9, asIntOf, go_sem]; rfl
  have ix1 : ∀ w, (Instr.index 9 (.string ⟨#[a, b, cc, d, e]⟩) (.int .i64 1)).run Tryz.prog w = .ok (.int .u8 (ltR i.op).b) w := fun w => by rw [← eb]; simp [Instr.index, run_underlying Tryz.underlying9, asIntOf, go_sem]; rfl
  have ix2 : ∀ w, (Instr.index 9 (.string ⟨#[a, b, cc, d, e]⟩) (.int .i64 2)).run Tryz.prog w = .ok (.int .u8 (ltR i.op).c) w := fun w => by rw [← ec]; simp [Instr.index, run_underlying Tryz.underlying9, asIntOf, go_sem]; rfl
  have ix3 : ∀ w, (Instr.index 9 (.string ⟨#[a, b, cc, d, e]⟩) (.int .i64 3)).run Tryz.prog w = .ok (.int .u8 (ltR i.op).d) w := fun w => by rw [← ed]; simp [Instr.index, run_underlying Tryz.underlying9, asIntOf, go_sem]; rfl
  have ix4 : ∀ w, (Instr.index 9 (.string ⟨#[a, b, cc, d, e]⟩) (.int .i64 4)).run Tryz.prog w = .ok (.int .u8 (ltR i.op).e) w := fun w => by rw [← ee]; simp [Instr.index, run_underlying Tryz.underlying9, asIntOf, go_sem]; rfl
  cases h : (i.op == 1)
  · rw [h, Bool.false_or] at h2
    have o2 : (i.op != 1) = true := by simpa using h
    have o4 : (i.bits != 0) = false := by simpa using h2
    by_cases hz : (ltR i.op).a = 45
    · exact rfits_A v0 v1 v2 v3 c co hT i.op i.d i.a i.b i.c i.n i.bits _ _ _ _ _ a b cc d e hc HCAN ix0 ix1 ix2 ix3 ix4 oa ob oc od oT h o2 h2 o4 hz (m1 hz) (m2 hz) w hv
    · exact rfits_B v0 v1 v2 v3 c co hT i.op i.d i.a i.b i.c i.n i.bits _ _ _ _ _ a b cc d e hc HCAN ix0 ix1 ix2 ix3 ix4 oa ob oc od oT h o2 h2 o4 hz (m3 hz) w hv
  · have o2 : (i.op != 1) = false := by simpa using h
    have e1 : i.op = 1 := by simpa using h
    have ha : (ltR i.op).a ≠ 45 := by rw [e1]; decide
    have he : (ltR i.op).e = 45 := by rw [e1]; rfl
    exact rfits_C v0 v1 v2 v3 c co hT i.op i.d i.a i.b i.c i.n i.bits _ _ _ _ _ a b cc d e hc HCAN ix0 ix1 ix2 ix3 ix4 oa ob oc od oT h o2 ha he w hv

end Go.Proofs.YtnlgkkbmbijndaaGreat
/- Layer 16, plainly: the ways through a code's blocks. No program in it. -/
namespace Go.Proofs.YtnlgkkbmbijndaaGreat
set_option linter.unusedVariables false
set_option linter.unusedSimpArgs false

/- What is set, block for block. -/
def insP (S : List Nat) (i : Ins) : List Nat := if (rowP i.op).d ≠ 0 ∧ i.d.toNat ∉ S then S ++ [i.d.toNat] else S
theorem okO_le : ∀ {r : List Bk} {n : Nat}, okO n r → ∀ b ∈ r, b.ahead ≤ n
  | [], _, _, b, hb => absurd hb (by simp)
  | a :: r, n, h, b, hb => by
    rcases List.mem_cons.1 hb with rfl | hb
    · exact h.1
    · exact Nat.le_trans (okO_le h.2 b hb) h.1
theorem addP_none {s : Wk} {i : Ins} (h : (rowP i.op).d = 0) : addP s i (rowP i.op) = s := by unfold addP; rw [if_neg (fun e => e.1 h)]
theorem ins_mem {S : List Nat} {i : Ins} {x : Nat} : x ∈ insP S i ↔ x ∈ S ∨ ((rowP i.op).d ≠ 0 ∧ x = i.d.toNat) := by
  unfold insP
  by_cases h : (rowP i.op).d ≠ 0 ∧ i.d.toNat ∉ S
  · rw [if_pos h, List.mem_append]; simp only [List.mem_singleton]; exact ⟨fun q => q.imp id fun e => ⟨h.1, e⟩, fun q => q.imp id fun e => e.2⟩
  · rw [if_neg h]
    constructor
    · exact .inl
    · rintro (q | ⟨q1, q2⟩)
      · exact q
      · rw [q2]; exact Decidable.byContradiction fun e => h ⟨q1, e⟩
end Go.Proofs.YtnlgkkbmbijndaaGreat
/- The reference of layer 16, plainly: what may stand, the stack of blocks. No program in it. -/
namespace Go.Proofs.YtnlgkkbmbijndaaGreat
set_option linter.unusedVariables false
set_option linter.unusedSimpArgs false

def tailS (s : Wk) (op : Int) : Bool := if op = 34 ∨ op = 36 then decide (s.opens.length < 64) else if op = 35 then decide (0 < s.opens.length) && !inLoop s else if op = 37 then inLoop s else true
def loopS (c : Cd) (s : Wk) (i : Ins) : Bool := inLoop s && (i.op != 37 && vecR c.regs (vecN i) != innerP s)
/-- A loop that is open names a parameter. -/
def ParOK (s : Wk) : Prop := ∀ b ∈ s.opens, b.loop = true → 0 ≤ b.par
theorem ParOK.inner {s : Wk} (h : ParOK s) (hl : inLoop s = true) : 0 ≤ innerP s := by
  obtain ⟨S, O⟩ := s
  cases O with
  | nil => exact Int.le_refl _
  | cons b r => exact h b (List.mem_cons_self ..) hl

theorem vecN_none {i : Ins} (h : loopedP i.op = false) : vecN i = -1 := by
  unfold loopedP at h
  simp only [Bool.or_eq_false_iff] at h
  have h1 : (i.op == 29) = false ∧ (i.op == 30) = false ∧ (i.op == 31) = false ∧ (i.op == 32) = false ∧ (i.op == 33) = false := by
    have := h.1
    simp only [Bool.and_eq_false_iff, decide_eq_false_iff_not] at this
    simp only [beq_eq_false_iff_ne, ne_eq]
    omega
  unfold vecN
  rw [h.2, h1.1, h1.2.1, h1.2.2.1, h1.2.2.2.1, h1.2.2.2.2]
  rfl
theorem vecN_main {i : Ins} (h : loopedP i.op = true) : vecN i = mainR i (rowP i.op) := by
  unfold loopedP elemP at h
  simp only [Bool.or_eq_true, Bool.and_eq_true, decide_eq_true_eq] at h
  obtain ⟨op, D, A, B, E, n, bb⟩ := i
  simp only at h ⊢
  have : op = 3 ∨ op = 4 ∨ op = 5 ∨ op = 6 ∨ op = 7 ∨ op = 8 ∨ op = 9 ∨ op = 10 ∨ op = 11 ∨ op = 12 ∨ op = 13 ∨ op = 14 ∨ op = 15 ∨ op = 29 ∨ op = 30 ∨ op = 31 ∨ op = 32 ∨ op = 33 := by omega
  rcases this with rfl | rfl | rfl | rfl | rfl | rfl | rfl | rfl | rfl | rfl | rfl | rfl | rfl | rfl | rfl | rfl | rfl | rfl <;> rfl
theorem vecR_none (rs : List Ty) : vecR rs (-1) = -1 := by unfold vecR isPl; simp
theorem vecR_eq {rs : List Ty} {n q : Int} (hq : 0 ≤ q) : (vecR rs n = q) ↔ regT rs n = ⟨3, q⟩ := by
  unfold vecR
  cases h : isPl n rs.length
  · have : regT rs n = ⟨0, 0⟩ := by unfold regT; rw [h]; rfl
    rw [this]
    simp
    omega
  · rw [Bool.true_and]
    generalize regT rs n = t
    obtain ⟨K, P⟩ := t
    simp only [Ty.mk.injEq]
    by_cases hk : K = 3
    · subst hk; simp
    · have : (K == 3) = false := by simpa using hk
      rw [this]
      constructor
      · intro e; simp at e; omega
      · intro e; exact absurd e.1 hk

theorem stand_ref {c : Cd} {s : Wk} {i : Ins} (hO : ParOK s) : mayStandP c s i (rowP i.op) = (!loopS c s i && tailS s i.op) := by
  have hO' := hO.inner
  unfold mayStandP loopS tailS
  by_cases h1 : i.op = 34 ∨ i.op = 36
  · rw [if_pos h1, if_pos h1]
    have hv : vecR c.regs (vecN i) = -1 := by
      rw [vecN_none (by rcases h1 with e | e <;> rw [e] <;> decide), vecR_none]
    have h37 : (i.op != 37) = true := by rcases h1 with e | e <;> rw [e] <;> decide
    rw [hv, h37]
    cases hl : inLoop s
    · rfl
    · have := hO' hl
      have e : ((-1 : Int) != innerP s) = true := by simp; omega
      rw [e]; rfl
  · rw [if_neg h1, if_neg h1]
    by_cases h2 : i.op = 35
    · rw [if_pos h2, if_pos h2]
      have hv : vecR c.regs (vecN i) = -1 := by rw [vecN_none (by rw [h2]; decide), vecR_none]
      rw [hv, h2]
      have hE : (!s.opens.isEmpty) = decide (0 < s.opens.length) := by cases s.opens <;> simp
      rw [hE]
      cases hl : inLoop s
      · simp
      · have := hO' hl
        have e : ((-1 : Int) != innerP s) = true := by simp; omega
        rw [e]; simp
    · rw [if_neg h2, if_neg h2]
      by_cases h3 : i.op = 37
      · rw [if_pos h3, if_pos h3, h3]
        cases inLoop s <;> rfl
      · rw [if_neg h3, if_neg h3]
        have h37 : (i.op != 37) = true := by simpa using h3
        rw [h37, Bool.true_and, Bool.and_true]
        cases hl : inLoop s
        · rfl
        · have hq := hO' hl
          rw [Bool.not_true, Bool.false_or, Bool.true_and]
          cases hlp : loopedP i.op
          · rw [vecN_none hlp, vecR_none]
            have e : ((-1 : Int) != innerP s) = true := by simp; omega
            rw [e]; rfl
          · rw [vecN_main hlp, Bool.true_and]
            unfold mainT
            rw [Bool.eq_iff_iff, decide_eq_true_eq, ← vecR_eq hq]
            simp

/-- What may stand, as the reference asks it. -/
theorem takes_ref {c : Cd} {s : Wk} {i : Ins} (hT : typesMay c = true) (hO : ParOK s) : takesP c s i = ((knownP i.op && fitsR c i (ltR i.op)) && (!loopS c s i && (readOK s i (rowP i.op) && tailS s i.op))) := by
  unfold takesP
  rw [fitsR_eq hT, stand_ref hO]
  cases knownP i.op <;> cases fitsC c i (rowP i.op) <;> cases loopS c s i <;> cases tailS s i.op <;> simp

/-- A block of the reference's: its mark, its parameter, what was set ahead of it. -/
structure Ob where
  op : Int
  par : Int
  set : List Nat
def obR (S : List Nat) (b : Bk) : Ob := ⟨if b.loop then 36 else 34, b.par, S.take b.ahead⟩
def opR (s : Wk) : List Ob := (s.opens.map (obR s.set)).reverse
theorem opR_len (s : Wk) : (opR s).length = s.opens.length := by simp [opR]
theorem opR_cons (S : List Nat) (b : Bk) (r : List Bk) : opR ⟨S, b :: r⟩ = (r.map (obR S)).reverse ++ [obR S b] := by simp [opR]
theorem opR_last {s : Wk} (h : 0 < s.opens.length) : ∃ X, (opR s)[s.opens.length - 1]? = some ⟨if inLoop s then 36 else 34, innerP s, X⟩ := by
  obtain ⟨S, O⟩ := s
  cases O with
  | nil => simp at h
  | cons b r =>
    refine ⟨S.take b.ahead, ?_⟩
    rw [opR_cons]
    simp only [List.length_cons, Nat.add_sub_cancel]
    rw [List.getElem?_append_right (by simp)]
    simp only [List.length_reverse, List.length_map, Nat.sub_self]
    rfl
theorem step34r {s : Wk} {i : Ins} (h : i.op = 34 ∨ i.op = 36) : stepP s i = ⟨s.set, ⟨i.op == 36, i.n, s.set.length⟩ :: s.opens⟩ := by
  unfold stepP passP
  rw [addP_none (by rcases h with h | h <;> rw [h] <;> rfl)]
  unfold turnP
  rw [if_pos h]
theorem step35r {s : Wk} {i : Ins} (h : i.op = 35 ∨ i.op = 37) : stepP s i = leaveP s := by
  unfold stepP passP
  rw [addP_none (by rcases h with h | h <;> rw [h] <;> rfl)]
  unfold turnP
  rw [if_neg (by omega), if_pos h]
theorem step_else {s : Wk} {i : Ins} (h1 : i.op ≠ 34) (h2 : i.op ≠ 35) (h3 : i.op ≠ 36) (h4 : i.op ≠ 37) : stepP s i = ⟨insP s.set i, s.opens⟩ := by
  unfold stepP passP turnP
  rw [if_neg (by omega), if_neg (by omega)]
  unfold addP insP
  split <;> rfl
theorem opR_open {s : Wk} {i : Ins} (h : i.op = 34 ∨ i.op = 36) : opR (stepP s i) = opR s ++ [⟨i.op, i.n, s.set⟩] := by
  rw [step34r h, opR_cons]
  unfold opR obR
  simp only [List.take_length]
  rcases h with h | h <;> rw [h] <;> rfl
theorem opR_same {s : Wk} {i : Ins} {n : Nat} (ho : OkS n s) (h1 : i.op ≠ 34) (h2 : i.op ≠ 35) (h3 : i.op ≠ 36) (h4 : i.op ≠ 37) : opR (stepP s i) = opR s := by
  rw [step_else h1 h2 h3 h4]
  unfold opR
  simp only
  congr 1
  apply List.map_congr_left
  intro b hb
  have := okO_le ho.opens b hb
  have e : (insP s.set i).take b.ahead = s.set.take b.ahead := by
    unfold insP
    split
    · rw [List.take_append_of_le_length this]
    · rfl
  unfold obR
  rw [e]
theorem opR_leave {s : Wk} {n : Nat} (ho : OkS n s) (h : 0 < s.opens.length) : opR (leaveP s) = (opR s).take (s.opens.length - 1) := by
  obtain ⟨S, O⟩ := s
  cases O with
  | nil => simp at h
  | cons b r =>
    rw [opR_cons]
    simp only [List.length_cons, Nat.add_sub_cancel]
    rw [List.take_append_of_le_length (by simp), List.take_of_length_le (by simp)]
    unfold opR leaveP
    simp only
    cases hb : b.loop
    · simp only [Bool.false_eq_true, if_false]
      congr 1
      apply List.map_congr_left
      intro a ha
      have := okO_le ho.opens.2 a ha
      unfold obR
      rw [List.take_take, Nat.min_eq_left this]
    · simp only [if_true]
theorem leave_set {s : Wk} (hl : inLoop s = false) {o : Ob} (h : (opR s)[s.opens.length - 1]? = some o) (h0 : 0 < s.opens.length) : (leaveP s).set = o.set := by
  obtain ⟨S, O⟩ := s
  cases O with
  | nil => simp at h0
  | cons b r =>
    rw [opR_cons] at h
    simp only [List.length_cons, Nat.add_sub_cancel] at h
    rw [List.getElem?_append_right (by simp)] at h
    simp at h
    subst h
    have : b.loop = false := hl
    simp [leaveP, this, obR]
theorem leave_setL {s : Wk} (hl : inLoop s = true) : (leaveP s).set = s.set := by
  obtain ⟨S, O⟩ := s
  cases O with
  | nil => rfl
  | cons b r =>
    have : b.loop = true := hl
    simp [leaveP, this]
theorem leave_opens (s : Wk) : (leaveP s).opens.length = s.opens.length - 1 := by
  obtain ⟨S, O⟩ := s
  cases O with
  | nil => rfl
  | cons b r => simp [leaveP]
theorem ParOK.step {c : Cd} {s : Wk} {i : Ins} (h : ParOK s) (t : takesP c s i = true) : ParOK (stepP s i) := by
  by_cases h1 : i.op = 34 ∨ i.op = 36
  · rw [step34r h1]
    intro b hb hl
    rcases List.mem_cons.1 hb with rfl | hb
    · have h36 : i.op = 36 := by simpa using hl
      obtain ⟨_, h2, _, _⟩ := takes_open t
      rw [h36] at h2
      unfold fitsC fitsRest at h2
      simp only [Bool.and_eq_true] at h2
      have h3 := h2.2.2.2.2
      rw [if_neg (show (rowP 36).n ≠ 7 by decide)] at h3
      simp only [Bool.and_eq_true] at h3
      have h4 : isPl i.n c.sign.length = true := h3.2
      exact (isPl_iff.1 h4).1
    · exact h b hb hl
  · by_cases h2 : i.op = 35 ∨ i.op = 37
    · rw [step35r h2]
      intro b hb hl
      refine h b ?_ hl
      unfold leaveP at hb
      split at hb
      · rename_i e; rw [e]; exact List.mem_cons_of_mem _ hb
      · exact hb
    · rw [step_else (by omega) (by omega) (by omega) (by omega)]
      exact h
theorem ParOK.start : ParOK ⟨[], []⟩ := fun b hb => by cases hb

end Go.Proofs.YtnlgkkbmbijndaaGreat
/- What IrBegins makes of lists: beginnings, tails, appends. -/
namespace Go.Proofs.YtnlgkkbmbijndaaGreat
open Go.RowKit
set_option linter.unusedVariables false
set_option linter.unusedSimpArgs false

end Go.Proofs.YtnlgkkbmbijndaaGreat
/- The worlds of IrBegins' walk. -/
namespace Go.Proofs.YtnlgkkbmbijndaaGreat
open Go.RowKit
set_option linter.unusedVariables false
set_option linter.unusedSimpArgs false

/-- A row of another type lies in another block. -/
theorem own_other {w : World} {B B' : Nat} {t t' : TypeId} {k k' n n' : Nat} {v v' : Value} {xs xs' : List Value} (h : w.ownsRow B t k v n xs) (h' : w.ownsRow B' t' k' v' n' xs') (ht : t ≠ t') : ∀ b, v.ownBlock = some b → v'.ownBlock ≠ some b := by
  intro b hb hb'
  rcases h.2 with ⟨rfl, _⟩ | ⟨g, cap, cur, rfl, _, hg, _⟩
  · exact absurd (show (none : Option Nat) = some b from hb) (by simp)
  rcases h'.2 with ⟨rfl, _⟩ | ⟨g', cap', cur', rfl, _, hg', _⟩
  · exact absurd (show (none : Option Nat) = some b from hb') (by simp)
  have e1 : g = b := Option.some.inj hb
  have e2 : g' = b := Option.some.inj hb'
  rw [e1] at hg
  rw [e2, hg] at hg'
  simp only [Option.some.injEq, Obj.cells.injEq] at hg'
  exact ht hg'.2.1

end Go.Proofs.YtnlgkkbmbijndaaGreat
/- The worlds of lathelaw16.preamble. -/
namespace Go.Proofs.YtnlgkkbmbijndaaGreat
open Go.RowKit
set_option linter.unusedVariables false
set_option linter.unusedSimpArgs false

end Go.Proofs.YtnlgkkbmbijndaaGreat
/- lathelaw16.preamble. -/
namespace Go.Proofs.YtnlgkkbmbijndaaGreat
open Go.RowKit
set_option linter.unusedVariables false
set_option linter.unusedSimpArgs false

end Go.Proofs.YtnlgkkbmbijndaaGreat
/- What lathelaw16.way makes of its row of Booleans. -/
namespace Go.Proofs.YtnlgkkbmbijndaaGreat
open Go.RowKit
set_option linter.unusedVariables false
set_option linter.unusedSimpArgs false

/-- What is set, as Booleans. -/
def setB (M : Nat) (X : List Nat) : List Value := (List.range M).map fun j => .bool (decide (j ∈ X))
theorem setB_len (M : Nat) (X : List Nat) : (setB M X).length = M := by simp [setB]
theorem setB_at {M : Nat} {X : List Nat} {j : Nat} (h : j < M) : (setB M X)[j]? = some (.bool (decide (j ∈ X))) := by
  unfold setB
  rw [List.getElem?_map, List.getElem?_range h]
  rfl
theorem setB_nil (M : Nat) : setB M [] = List.replicate M (.bool false) := by
  apply List.ext_getElem?
  intro j
  by_cases h : j < M
  · rw [setB_at h, List.getElem?_replicate, if_pos h]; simp
  · rw [List.getElem?_eq_none (by rw [setB_len]; omega), List.getElem?_eq_none (by simp; omega)]
theorem setB_ins {M : Nat} {X : List Nat} {i : Ins} (hd : (rowP i.op).d ≠ 0) (hl : i.d.toNat < M) : (setB M X).set i.d.toNat (.bool true) = setB M (insP X i) := by
  apply List.ext_getElem?
  intro j
  by_cases h : j < M
  · rw [setB_at h, List.getElem?_set]
    by_cases e : i.d.toNat = j
    · rw [if_pos e, if_pos (by rw [setB_len]; omega)]
      have : j ∈ insP X i := ins_mem.2 (.inr ⟨hd, e.symm⟩)
      simp [this]
    · rw [if_neg e, setB_at h]
      have : j ∈ insP X i ↔ j ∈ X := by
        rw [ins_mem]
        exact ⟨fun q => q.resolve_right fun q => e q.2.symm, .inl⟩
      simp [this]
  · rw [List.getElem?_eq_none (by rw [List.length_set, setB_len]; omega), List.getElem?_eq_none (by rw [setB_len]; omega)]
theorem setB_keep {M : Nat} {X : List Nat} {i : Ins} (hd : (rowP i.op).d = 0) : insP X i = X := by unfold insP; rw [if_neg (fun q => q.1 hd)]

theorem app_bool {B : Nat} {V : World} {p : Option Addr} {n q : Nat} {xs : List Value} (h : V.ownsRow B 4 1 (.slice p n q) n xs) (hB : B ≤ V.heap.size) (hn : n ≤ 140737488351232) :
    ∃ g c' w', (Builtin.append_ #[88, 88] 88 #[.slice p n q, .slice (some ⟨V.heap.size, 0, none⟩) 1 1]).run Tryz.prog (V.alloc (.cells #[.bool false] 4)) = .ok (.slice (some ⟨g, 0, none⟩) (n + 1) c') w' ∧ Below B V w' ∧ w'.ownsRow B 4 1 (.slice (some ⟨g, 0, none⟩) (n + 1) c') (n + 1) (xs ++ [.bool false]) := by
  obtain ⟨i0, hi0, hz0, hz1, hz2⟩ := info_parts info_Bool
  have hb0 : Below V.heap.size V (V.alloc (.cells #[.bool false] 4)) := bel_alloc _ _
  have hsz : (V.alloc (.cells #[.bool false] 4)).heap.size = V.heap.size + 1 := by simp
  have h0 := own_below h hb0
  obtain ⟨g, cap, w3, hr, hown, hgrow, hat, hlt⟩ := run_append_lies (P := Tryz.prog) (V.alloc (.cells #[.bool false] 4)) 88 88 B 4 i0 _ 1 1 Tryz.underlying88 hi0 hz0 hz1 hz2 rfl (by decide) (.slice p n q) n xs h0 ⟨V.heap.size, 0, none⟩ 1 1 [.bool false] rfl
    (World.news_of_block (cs := #[.bool false]) (t := 4) (fr := (0, 0)) (heap_alloc_new V _)) (by simp [Value.oneCell']) (by decide) (by unfold maxLen; omega) (by omega) (by simp; omega) _ rfl
  exact ⟨g, cap, w3, hr, (hb0.mono hB).grown hgrow (by omega) (fun q e => (h0.lt q e).1), hown⟩

end Go.Proofs.YtnlgkkbmbijndaaGreat
/- The reference of layer 16: its stack of blocks in memory. -/
namespace Go.Proofs.YtnlgkkbmbijndaaGreat
open Go.RowKit
set_option linter.unusedVariables false
set_option linter.unusedSimpArgs false

def obC (o : Ob) (u : Value) : List Value := [.int .i64 o.op, .int .i64 o.par, u]
def obsC : List Ob → List Value → List Value
  | o :: l, u :: us => obC o u ++ obsC l us
  | _, _ => []
theorem obsC_snoc (o : Ob) (u : Value) : ∀ {l : List Ob} {us : List Value}, l.length = us.length → obsC (l ++ [o]) (us ++ [u]) = obsC l us ++ obC o u
  | [], [], _ => by simp [obsC]
  | [], _ :: _, h => by simp at h
  | _ :: _, [], h => by simp at h
  | a :: l, b :: us, h => by simp only [List.cons_append, obsC]; rw [obsC_snoc o u (by simpa using h), List.append_assoc]
theorem obsC_take : ∀ (m : Nat) (l : List Ob) (us : List Value), (obsC l us).take (m * 3) = obsC (l.take m) (us.take m)
  | 0, l, us => by simp [obsC]
  | m + 1, [], us => by simp [obsC]
  | m + 1, a :: l, [] => by simp [obsC]
  | m + 1, a :: l, b :: us => by
    simp only [List.take_succ_cons, obsC]
    rw [show (m + 1) * 3 = (obC a b).length + m * 3 by simp [obC]; omega, List.take_length_add_append, obsC_take m l us]
theorem obsC_at (j : Nat) (hj : j < 3) : ∀ {l : List Ob} {us : List Value} {k : Nat} {o : Ob} {u : Value}, l[k]? = some o → us[k]? = some u → (obsC l us)[k * 3 + j]? = (obC o u)[j]?
  | [], us, k, o, u, h, _ => by simp at h
  | a :: l, [], k, o, u, _, h => by simp at h
  | a :: l, b :: us, 0, o, u, h, h' => by
    simp at h h'
    subst h h'
    simp only [obsC]
    rw [Nat.zero_mul, Nat.zero_add, List.getElem?_append_left (by simpa [obC] using hj)]
  | a :: l, b :: us, k + 1, o, u, h, h' => by
    simp only [obsC]
    rw [List.getElem?_append_right (by simp [obC]; omega)]
    have e : (k + 1) * 3 + j - (obC a b).length = k * 3 + j := by simp [obC]; omega
    rw [e]
    exact obsC_at j hj (by simpa using h) (by simpa using h')

theorem info_Open : (Tryz.prog.info? 93).map (fun i => (i.zero, i.size, i.bytes)) = some (some (.agg #[.int .i64 0, .int .i64 0, .slice none 0 0]), 3, 40) := by kernel_rfl

/-- What is set, and the blocks that are open, in memory: all one's own; what was set ahead of a block lies in a row of its own. -/
structure SK (B M : Nat) (v : World) (sv ov : Value) (s : Wk) (us : List Value) : Prop where
  hB : B ≤ v.heap.size
  set : v.ownsRow B 4 1 sv M (setB M s.set)
  opn : v.ownsRow B 93 3 ov s.opens.length (obsC (opR s) us)
  len : us.length = s.opens.length
  each : ∀ k (h : k < us.length) o, (opR s)[k]? = some o → v.ownsRow B 4 1 us[k] M (setB M o.set) ∧ ∀ b, sv.ownBlock = some b → us[k].ownBlock ≠ some b
section
variable {B M : Nat} {v v' : World} {sv ov : Value} {s : Wk} {us : List Value}
theorem SK.below (h : SK B M v sv ov s us) (k : Below v.heap.size v v') : SK B M v' sv ov s us :=
  ⟨Nat.le_trans h.hB k.size, own_below h.set k, own_below h.opn k, h.len, fun j hj o ho => ⟨own_below (h.each j hj o ho).1 k, (h.each j hj o ho).2⟩⟩
theorem types_ne : 93 ≠ 4 := by decide
/-- Another register is set. -/
theorem SK.ins {i : Ins} {g q n : Nat} (h : SK B M v (.slice (some ⟨g, 0, none⟩) M q) ov s us) (ok : OkS n s) (h1 : i.op ≠ 34) (h2 : i.op ≠ 35) (h3 : i.op ≠ 36) (h4 : i.op ≠ 37) (hd : (rowP i.op).d ≠ 0) (hl : i.d.toNat < M) :
    SK B M (v.setCell ⟨g, i.d.toNat, none⟩ (.bool true)) (.slice (some ⟨g, 0, none⟩) M q) ov (stepP s i) us := by
  have e1 := opR_same (i := i) ok h1 h2 h3 h4
  have e2 : (stepP s i).set = insP s.set i ∧ (stepP s i).opens = s.opens := by rw [step_else h1 h2 h3 h4]; exact ⟨rfl, rfl⟩
  have hne : ∀ b, b ≠ g → (v.setCell ⟨g, i.d.toNat, none⟩ (.bool true)).heap[b]? = v.heap[b]? := fun b hb => Below.heap_setCell _ _ _ _ hb
  refine ⟨by have := h.hB; simp; omega, ?_, ?_, by rw [e2.2]; exact h.len, fun k hk o ho => ?_⟩
  · rw [e2.1, ← setB_ins hd hl]
    exact (h.set.stored _ _).1
  · rw [e1, e2.2]
    exact own_keep h.opn fun b hb => hne b fun e => own_other h.opn h.set types_ne b hb (by rw [e]; rfl)
  · rw [e1] at ho
    obtain ⟨a1, a2⟩ := h.each k hk o ho
    exact ⟨own_keep a1 fun b hb => hne b fun e => a2 g rfl (by rw [← e]; exact hb), a2⟩
/-- Nothing is set. -/
theorem SK.keep {i : Ins} {n : Nat} (h : SK B M v sv ov s us) (ok : OkS n s) (h1 : i.op ≠ 34) (h2 : i.op ≠ 35) (h3 : i.op ≠ 36) (h4 : i.op ≠ 37) (hd : (rowP i.op).d = 0) : SK B M v sv ov (stepP s i) us := by
  have e : stepP s i = s := by rw [step_else h1 h2 h3 h4, setB_keep (M := 0) hd]
  rw [e]; exact h
theorem own_app {B : Nat} {V : World} {e t : TypeId} {z : Value} {sz by' : Nat} (ht : Tryz.prog.underlying t = some (.slice e)) (hi : (Tryz.prog.info? e).map (fun i => (i.zero, i.size, i.bytes)) = some (some z, sz, by')) (hzs : z.cells.size = sz) (hsz : 0 < sz) {p : Option Addr} {n q : Nat} {xs : List Value} (h : V.ownsRow B e sz (.slice p n q) n xs) (hB : B ≤ V.heap.size)
    (cs : Array Value) (hcs : cs.size = sz) (h1 : ∀ u ∈ cs.toList, u.oneCell' = true) (hn : n + 1 ≤ maxLen) (hb : (n + 1) * by' ≤ 140737488355328) (ty : TypeId) :
    ∃ g c' w', (Builtin.append_ #[t, t] ty #[.slice p n q, .slice (some ⟨V.heap.size, 0, none⟩) 1 1]).run Tryz.prog (V.alloc (.cells cs e)) = .ok (.slice (some ⟨g, 0, none⟩) (n + 1) c') w' ∧ Below B V w' ∧ w'.ownsRow B e sz (.slice (some ⟨g, 0, none⟩) (n + 1) c') (n + 1) (xs ++ cs.toList) ∧ ∀ b, b < V.heap.size → (Value.slice p n q).ownBlock ≠ some b → w'.heap[b]? = V.heap[b]? := by
  obtain ⟨i0, hi0, hz0, hz1, hz2⟩ := info_parts hi
  have hb0 : Below V.heap.size V (V.alloc (.cells cs e)) := bel_alloc _ _
  have hs : (V.alloc (.cells cs e)).heap.size = V.heap.size + 1 := by simp
  have h0 := own_below h hb0
  obtain ⟨g, cap, w3, hr, hown, hgrow, hat, hlt⟩ := run_append_lies (P := Tryz.prog) (V.alloc (.cells cs e)) t ty B e i0 _ sz by' ht hi0 hz0 hz1 hz2 hzs hsz (.slice p n q) n xs h0 ⟨V.heap.size, 0, none⟩ 1 1 cs.toList (by simp [hcs])
    (World.news_of_block (cs := cs) (t := e) (fr := (0, 0)) (heap_alloc_new V _)) h1 (by decide) hn hb (by omega) _ rfl
  refine ⟨g, cap, w3, hr, (hb0.mono hB).grown hgrow (by omega) (fun q e => (h0.lt q e).1), hown, fun b hb hne => ?_⟩
  rw [hgrow.block b (by omega) (Ne.symm hne)]
  exact hb0.block b hb
/-- A block is opened: what is set has been copied to u. -/
theorem SK.push {i : Ins} {p : Option Addr} {q : Nat} {u : Value} (h : SK B M v sv (.slice p s.opens.length q) s us) (k : Below v.heap.size v v') (hu : v'.ownsRow v.heap.size 4 1 u M (setB M s.set)) (hi : i.op = 34 ∨ i.op = 36) (hn : s.opens.length < 64) (ty : TypeId) :
    ∃ g c' w', (Builtin.append_ #[89, 89] ty #[.slice p s.opens.length q, .slice (some ⟨v'.heap.size, 0, none⟩) 1 1]).run Tryz.prog (v'.alloc (.cells #[.int .i64 i.op, .int .i64 i.n, u] 93)) = .ok (.slice (some ⟨g, 0, none⟩) (s.opens.length + 1) c') w' ∧ Below B v w' ∧ SK B M w' sv (.slice (some ⟨g, 0, none⟩) (s.opens.length + 1) c') (stepP s i) (us ++ [u]) ∧ ∀ b, b < v'.heap.size → (Value.slice p s.opens.length q).ownBlock ≠ some b → w'.heap[b]? = v'.heap[b]? := by
  have h' := h.below k
  have hone : u.oneCell' = true := by
    obtain ⟨p, c, rfl⟩ := own_len hu
    rfl
  obtain ⟨g, c', w', hr, hb, ho, hk⟩ := own_app (V := v') Tryz.underlying89 info_Open rfl (by decide) h'.opn h'.hB #[.int .i64 i.op, .int .i64 i.n, u] rfl (by intro x hx; simp at hx; rcases hx with rfl | rfl | rfl <;> first | rfl | exact hone) (by unfold maxLen; omega) (by omega) ty
  have hs : (stepP s i).set = s.set ∧ (stepP s i).opens.length = s.opens.length + 1 := by rw [step34r hi]; exact ⟨rfl, rfl⟩
  have eo := opR_open (s := s) hi
  have hsz := k.size
  refine ⟨g, c', w', hr, (k.mono h.hB).trans hb, ⟨Nat.le_trans h'.hB hb.size, ?_, ?_, by rw [hs.2, List.length_append, h.len]; rfl, fun j hj o ho' => ?_⟩, hk⟩
  · rw [hs.1]
    exact own_keep h'.set fun b hbb => hk b (h'.set.lt b hbb).2 (fun e => own_other h'.opn h'.set types_ne b e hbb)
  · rw [hs.2, eo, obsC_snoc _ _ (by rw [opR_len]; exact h.len.symm)]
    exact ho
  · rw [eo] at ho'
    by_cases hlt : j < us.length
    · rw [List.getElem?_append_left (by rw [opR_len, ← h.len]; exact hlt)] at ho'
      obtain ⟨a1, a2⟩ := h'.each j hlt o ho'
      rw [List.getElem_append_left hlt]
      exact ⟨own_keep a1 fun b hbb => hk b (a1.lt b hbb).2 (fun e => own_other h'.opn a1 types_ne b e hbb), a2⟩
    · have hj' : j = us.length := by simp at hj; omega
      subst hj'
      rw [List.getElem?_append_right (by rw [opR_len, h.len]; exact Nat.le_refl _)] at ho'
      have e0 : us.length - (opR s).length = 0 := by rw [opR_len, h.len]; omega
      rw [e0] at ho'
      simp at ho'
      subst ho'
      have e1 : (us ++ [u])[us.length]'hj = u := by simp
      rw [e1]
      refine ⟨own_mono (own_keep hu fun b hbb => hk b (hu.lt b hbb).2 (fun e => ?_)) h.hB, fun b hbb e => ?_⟩
      · exact own_other h'.opn hu types_ne b e hbb
      · have a1 := (hu.lt b e).1
        have a2 := (h.set.lt b hbb).2
        omega
/-- A loop is left. -/
theorem SK.pop {p : Option Addr} {q n : Nat} (h : SK B M v sv (.slice p s.opens.length q) s us) (ok : OkS n s) (h0 : 0 < s.opens.length) (hl : inLoop s = true) : SK B M v sv (.slice p (s.opens.length - 1) q) (leaveP s) (us.take (s.opens.length - 1)) := by
  refine ⟨h.hB, by rw [leave_setL hl]; exact h.set, ?_, by rw [leave_opens, List.length_take, h.len]; omega, fun k hk o ho => ?_⟩
  · rw [leave_opens, opR_leave ok h0, ← obsC_take]
    exact own_take h.opn (by omega)
  · rw [opR_leave ok h0] at ho
    have hk' : k < us.length := by simp at hk; omega
    rw [List.getElem?_take] at ho
    split at ho
    · obtain ⟨a1, a2⟩ := h.each k hk' o ho
      simp only [List.getElem_take]
      exact ⟨a1, a2⟩
    · simp at ho
/-- A block is left: what was set ahead of it has been copied to u. -/
theorem SK.back {p : Option Addr} {q n : Nat} {u : Value} {o : Ob} (h : SK B M v sv (.slice p s.opens.length q) s us) (ok : OkS n s) (h0 : 0 < s.opens.length) (hl : inLoop s = false) (k : Below v.heap.size v v') (ho : (opR s)[s.opens.length - 1]? = some o) (hu : v'.ownsRow v.heap.size 4 1 u M (setB M o.set)) :
    SK B M v' u (.slice p (s.opens.length - 1) q) (leaveP s) (us.take (s.opens.length - 1)) := by
  refine ⟨Nat.le_trans h.hB k.size, by rw [leave_set hl ho h0]; exact own_mono hu h.hB, ?_, by rw [leave_opens, List.length_take, h.len]; omega, fun j hj x hx => ?_⟩
  · rw [leave_opens, opR_leave ok h0, ← obsC_take]
    exact own_below (own_take h.opn (by omega)) k
  · rw [opR_leave ok h0] at hx
    have hk' : j < us.length := by simp at hj; omega
    rw [List.getElem?_take] at hx
    split at hx
    · obtain ⟨a1, a2⟩ := h.each j hk' x hx
      simp only [List.getElem_take]
      refine ⟨own_below a1 k, fun b hb e => ?_⟩
      have b1 := (hu.lt b hb).1
      have b2 := (a1.lt b e).2
      omega
    · simp at hx
/-- The cells of the block that was opened last. -/
theorem SK.last {g q : Nat} (h : SK B M v sv (.slice (some ⟨g, 0, none⟩) s.opens.length q) s us) (h0 : 0 < s.opens.length) : ∃ (X : List Nat) (u : Value), (opR s)[s.opens.length - 1]? = some ⟨if inLoop s then 36 else 34, innerP s, X⟩ ∧ v.ownsRow B 4 1 u M (setB M X) ∧ v.cell? ⟨g, (s.opens.length - 1) * 3, none⟩ = some (.int .i64 (if inLoop s then 36 else 34)) ∧ v.cell? ⟨g, (s.opens.length - 1) * 3 + 1, none⟩ = some (.int .i64 (innerP s)) ∧ v.cell? ⟨g, (s.opens.length - 1) * 3 + 2, none⟩ = some u := by
  obtain ⟨X, hX⟩ := opR_last h0
  have hu : s.opens.length - 1 < us.length := by rw [h.len]; omega
  obtain ⟨a1, a2⟩ := h.each _ hu _ hX
  have cl := fun (j : Nat) (hj : j < 3) => obsC_at j hj hX (List.getElem?_eq_getElem hu)
  have ca := fun (j : Nat) (hj : j < 3) => h.opn.cellAt ((s.opens.length - 1) * 3 + j) (by omega)
  refine ⟨X, _, hX, a1, ?_, ?_, ?_⟩
  · have := ca 0 (by decide); rw [cl 0 (by decide)] at this; exact this
  · have := ca 1 (by decide); rw [cl 1 (by decide)] at this; exact this
  · have := ca 2 (by decide); rw [cl 2 (by decide)] at this; exact this
theorem SK.start (w : World) (B : Nat) (h : B ≤ w.heap.size) {sv : Value} (hs : w.ownsRow B 4 1 sv M (setB M [])) : SK B M w sv (.slice none 0 0) ⟨[], []⟩ [] :=
  ⟨h, hs, World.ownsRow_nil _ _ _ 3, rfl, fun k hk => by simp at hk⟩
end

end Go.Proofs.YtnlgkkbmbijndaaGreat
/- The reference of layer 16: copied. -/
namespace Go.Proofs.YtnlgkkbmbijndaaGreat
open Go.RowKit
set_option linter.unusedVariables false
set_option linter.unusedSimpArgs false

theorem setB_one (M : Nat) (X : List Nat) : ∀ u ∈ setB M X, u.oneCell' = true := by
  intro u hu
  unfold setB at hu
  simp only [List.mem_map] at hu
  obtain ⟨j, -, rfl⟩ := hu
  rfl

theorem app_noneG {t e : TypeId} {z : Value} {sz by' : Nat} (ht : Tryz.prog.underlying t = some (.slice e)) (hi : (Tryz.prog.info? e).map (fun i => (i.zero, i.size, i.bytes)) = some (some z, sz, by')) (p : Option Addr) (n c : Nat) (x : Option Addr) (d : Nat) (hn : n ≤ c) (ty : TypeId) (w : World) : (Builtin.append_ #[t, t] ty #[.slice p n c, .slice x 0 d]).run Tryz.prog w = .ok (.slice p n c) w := by
  obtain ⟨i0, hi0, hz0, hz1, hz2⟩ := info_parts hi
  have h1 : ¬ c < n := by omega
  cases x with
  | none => cases p <;> simp [Builtin.append_, run_underlying ht, sizeOf, typeInfo, hi0, Builtin.lenOf, Builtin.firstCells, storeCells, loadCells, loadCellsFrom, hn, h1]
  | some a => cases p <;> simp [Builtin.append_, run_underlying ht, sizeOf, typeInfo, hi0, Builtin.lenOf, Builtin.firstCells, storeCells, loadCells, loadCellsFrom, hn, h1]

set_option maxRecDepth 100000 in
set_option maxHeartbeats 1000000 in
theorem rcopied_any {B M : Nat} {X : List Nat} (v : Value) (hM : M ≤ 16384) (w : World) (h : w.ownsRow B 4 1 v M (setB M X)) :
    Calls Tryz.prog 36 #[v] w fun e w' => ∃ u, e = .returned u ∧ w'.ownsRow w.heap.size 4 1 u M (setB M X) ∧ Below w.heap.size w w' := by
  obtain ⟨p, q, rfl⟩ := own_len h
  have key : ∃ u w', (Builtin.append_ #[88, 88] 88 #[.slice none 0 0, .slice p M q]).run Tryz.prog w = .ok u w' ∧ w'.ownsRow w.heap.size 4 1 u M (setB M X) ∧ Below w.heap.size w w' := by
    by_cases h0 : M = 0
    · subst h0
      refine ⟨.slice none 0 0, w, app_noneG Tryz.underlying88 info_Bool none 0 0 p q (Nat.le_refl _) _ _, ?_, bel0 _⟩
      have : setB 0 X = [] := by simp [setB]
      rw [this]
      exact World.ownsRow_nil _ _ _ 1
    · obtain ⟨g, c, e, hl, hg⟩ := h.form (by omega)
      simp only [Value.slice.injEq] at e
      obtain ⟨rfl, -, rfl⟩ := e
      obtain ⟨i0, hi0, hz0, hz1, hz2⟩ := info_parts info_Bool
      obtain ⟨g', cap, w', hr, hown, hgrow, hat, hlt⟩ := run_append_lies (P := Tryz.prog) w 88 88 w.heap.size 4 i0 _ 1 1 Tryz.underlying88 hi0 hz0 hz1 hz2 rfl (by decide) (.slice none 0 0) 0 [] (World.ownsRow_nil _ _ _ 1) ⟨g, 0, none⟩ M q (setB M X) (by rw [setB_len]; omega)
        (fun j u hu => by
          have hj : j < M := by have := (List.getElem?_eq_some_iff.1 hu).1; rw [setB_len] at this; exact this
          have e := h.cellAt j (by omega)
          have e2 : (⟨g, 0, none⟩ : Addr).add j = ⟨g, j, none⟩ := by simp [Addr.add]; omega
          rw [e2, e, hu]) (setB_one M X) (by omega) (by unfold maxLen; omega) (by omega) (Nat.le_refl _) _ rfl
      simp only [Nat.zero_add, List.nil_append] at hr hown
      exact ⟨_, w', hr, hown, (Below.refl _ _).grown hgrow (Nat.le_refl _) (fun k e => by simp [Value.ownBlock] at e)⟩
  obtain ⟨u, w', hr, ho, hb⟩ := key
  have HR : Hid ((Builtin.append_ #[88, 88] 88 #[.slice none 0 0, .slice p M q]).run Tryz.prog w = .ok u w') := hr
  have HO : Hid (w'.ownsRow w.heap.size 4 1 u M (setB M X) ∧ Below w.heap.size w w') := ⟨ho, hb⟩
  clear h hr ho hb
  go_enter Tryz.func36, Tryz.ntmps36
  go_wp2_with (at_builtin; refine wpList_app (by rfl) _ _ _ (by rfl) _ _ _ (by rfl) (by rfl) HR.out ?_)
  go_ret
  exact ⟨u, rfl, HO.out.1, HO.out.2⟩

/-- 'append' in a region that draws its order. -/
theorem ready_appR {P : Program} {w w' : World} {o : Oper} {a : Act} {K : Act → World → Prop} {Q : Exit → Act → World → Prop} (s x : Operand) (t : TypeId)
    (ho : o.op = .call { callee := .builtin .append, args := #[s, x], argTypes := #[t, t] }) (v v2 v' : Value) (hs : a.eval s = v) (hx : a.eval x = v2) (hr : (Builtin.append_ #[t, t] o.type #[v, v2]).run P w = .ok v' w')
    (h : K (a.put o.dst v') w') (y' : Bool) (hy : y' = true) : if y' = true then Oper.wp P o a w K Q else K (a.put o.dst undef) w := by
  rw [if_pos hy]
  unfold Oper.wp execOp
  simp only [ho, resolve, invoke, builtin, Sem.run_bind, Sem.run_pure, Result.andThen_ok, List.map_toArray, List.map_cons, List.map_nil, hs, hx, hr]
  exact h

end Go.Proofs.YtnlgkkbmbijndaaGreat
