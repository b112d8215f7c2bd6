import Derived.Test.YtgcmnkanjcfndaaGreatDoorTxt13
import Derived.Test.YtgcmnkanjcfndaaGreatDoorTxt12
import Derived.Test.YtgcmnkanjcfndaaGreatDoorTxt8
import Derived.Test.YtgcmnkanjcfndaaGreatDoorTxt9
import Derived.Deep.DeepCutAuto
namespace Go.Proofs.YtgcmnkanjcfndaaGreatDoor
set_option linter.unusedVariables false
set_option linter.unusedSimpArgs false
def tailS (s : Wk) (op : Int) : Bool := if op = 34 ∨ op = 36 then decide (s.opens.length < 64) else if op = 35 then decide (0 < s.opens.length) && !inLoop s else if op = 37 then inLoop s else true
def loopS (c : Cd) (s : Wk) (i : Ins) : Bool := inLoop s && (i.op != 37 && vecR c.regs (vecN i) != innerP s)
def ParOK (s : Wk) : Prop := ∀ b ∈ s.opens, b.loop = true → 0 ≤ b.par
theorem ParOK.inner {s : Wk} (h : ParOK s) (hl : inLoop s = true) : 0 ≤ innerP s := by
 obtain ⟨S, O⟩ := s
 cases O with
 | nil => exact Int.le_refl _
 | cons b r => exact h b (List.mem_cons_self ..) hl
theorem vecN_none {i : Ins} (h : loopedP i.op = false) : vecN i = -1 := by
 unfold loopedP at h
 simp only [Bool.or_eq_false_iff] at h
 have h1 : (i.op == 29) = false ∧ (i.op == 30) = false ∧ (i.op == 31) = false ∧ (i.op == 32) = false ∧ (i.op == 33) = false := by
  have := h.1
  simp only [Bool.and_eq_false_iff, decide_eq_false_iff_not] at this
  simp only [beq_eq_false_iff_ne, ne_eq]
  omega
 unfold vecN
 rw [h.2, h1.1, h1.2.1, h1.2.2.1, h1.2.2.2.1, h1.2.2.2.2]
 rfl
theorem vecN_main {i : Ins} (h : loopedP i.op = true) : vecN i = mainR i (rowP i.op) := by
 unfold loopedP elemP at h
 simp only [Bool.or_eq_true, Bool.and_eq_true, decide_eq_true_eq] at h
 obtain ⟨op, D, A, B, E, n, bb⟩ := i
 simp only at h ⊢
 have : op = 3 ∨ op = 4 ∨ op = 5 ∨ op = 6 ∨ op = 7 ∨ op = 8 ∨ op = 9 ∨ op = 10 ∨ op = 11 ∨ op = 12 ∨ op = 13 ∨ op = 14 ∨ op = 15 ∨ op = 29 ∨ op = 30 ∨ op = 31 ∨ op = 32 ∨ op = 33 := by omega
 rcases this with rfl | rfl | rfl | rfl | rfl | rfl | rfl | rfl | rfl | rfl | rfl | rfl | rfl | rfl | rfl | rfl | rfl | rfl <;> rfl
theorem vecR_none (rs : List Ty) : vecR rs (-1) = -1 := by unfold vecR isPl; simp
theorem vecR_eq {rs : List Ty} {n q : Int} (hq : 0 ≤ q) : (vecR rs n = q) ↔ regT rs n = ⟨3, q⟩ := by
 unfold vecR
 cases h : isPl n rs.length
 ·have : regT rs n = ⟨0, 0⟩ := by unfold regT; rw [h]; rfl
  rw [this]
  simp
  omega
 ·rw [Bool.true_and]
  generalize regT rs n = t
  obtain ⟨K, P⟩ := t
  simp only [Ty.mk.injEq]
  by_cases hk : K = 3
  ·subst hk; simp
  ·have : (K == 3) = false := by simpa using hk
   rw [this]
   constructor
   ·intro e; simp at e; omega
   ·intro e; exact absurd e.1 hk
theorem stand_ref {c : Cd} {s : Wk} {i : Ins} (hO : ParOK s) : mayStandP c s i (rowP i.op) = (!loopS c s i && tailS s i.op) := by
 have hO' := hO.inner
 unfold mayStandP loopS tailS
 by_cases h1 : i.op = 34 ∨ i.op = 36
 ·rw [if_pos h1, if_pos h1]
  have hv : vecR c.regs (vecN i) = -1 := by
   rw [vecN_none (by rcases h1 with e | e <;> rw [e] <;> decide), vecR_none]
  have h37 : (i.op != 37) = true := by rcases h1 with e | e <;> rw [e] <;> decide
  rw [hv, h37]
  cases hl : inLoop s
  ·rfl
  ·have := hO' hl
   have e : ((-1 : Int) != innerP s) = true := by simp; omega
   rw [e]; rfl
 ·rw [if_neg h1, if_neg h1]
  by_cases h2 : i.op = 35
  ·rw [if_pos h2, if_pos h2]
   have hv : vecR c.regs (vecN i) = -1 := by rw [vecN_none (by rw [h2]; decide), vecR_none]
   rw [hv, h2]
   have hE : (!s.opens.isEmpty) = decide (0 < s.opens.length) := by cases s.opens <;> simp
   rw [hE]
   cases hl : inLoop s
   ·simp
   ·have := hO' hl
    have e : ((-1 : Int) != innerP s) = true := by simp; omega
    rw [e]; simp
  ·rw [if_neg h2, if_neg h2]
   by_cases h3 : i.op = 37
   ·rw [if_pos h3, if_pos h3, h3]
    cases inLoop s <;> rfl
   ·rw [if_neg h3, if_neg h3]
    have h37 : (i.op != 37) = true := by simpa using h3
    rw [h37, Bool.true_and, Bool.and_true]
    cases hl : inLoop s
    ·rfl
    ·have hq := hO' hl
     rw [Bool.not_true, Bool.false_or, Bool.true_and]
     cases hlp : loopedP i.op
     ·rw [vecN_none hlp, vecR_none]
      have e : ((-1 : Int) != innerP s) = true := by simp; omega
      rw [e]; rfl
     ·rw [vecN_main hlp, Bool.true_and]
      unfold mainT
      rw [Bool.eq_iff_iff, decide_eq_true_eq, ← vecR_eq hq]
      simp
theorem takes_ref {c : Cd} {s : Wk} {i : Ins} (hT : typesMay c = true) (hO : ParOK s) : takesP c s i = ((knownP i.op && fitsR c i (ltR i.op)) && (!loopS c s i && (readOK s i (rowP i.op) && tailS s i.op))) := by
 unfold takesP
 rw [fitsR_eq hT, stand_ref hO]
 cases knownP i.op <;> cases fitsC c i (rowP i.op) <;> cases loopS c s i <;> cases tailS s i.op <;> simp
structure Ob where
 op : Int
 par : Int
 set : List Nat
def obR (S : List Nat) (b : Bk) : Ob := ⟨if b.loop then 36 else 34, b.par, S.take b.ahead⟩
def opR (s : Wk) : List Ob := (s.opens.map (obR s.set)).reverse
theorem opR_len (s : Wk) : (opR s).length = s.opens.length := by simp [opR]
theorem opR_cons (S : List Nat) (b : Bk) (r : List Bk) : opR ⟨S, b :: r⟩ = (r.map (obR S)).reverse ++ [obR S b] := by simp [opR]
theorem opR_last {s : Wk} (h : 0 < s.opens.length) : ∃ X, (opR s)[s.opens.length - 1]? = some ⟨if inLoop s then 36 else 34, innerP s, X⟩ := by
 obtain ⟨S, O⟩ := s
 cases O with
 | nil => simp at h
 | cons b r =>
  refine ⟨S.take b.ahead, ?_⟩
  rw [opR_cons]
  simp only [List.length_cons, Nat.add_sub_cancel]
  rw [List.getElem?_append_right (by simp)]
  simp only [List.length_reverse, List.length_map, Nat.sub_self]
  rfl
theorem step34r {s : Wk} {i : Ins} (h : i.op = 34 ∨ i.op = 36) : stepP s i = ⟨s.set, ⟨i.op == 36, i.n, s.set.length⟩ :: s.opens⟩ := by
 unfold stepP passP
 rw [addP_none (by rcases h with h | h <;> rw [h] <;> rfl)]
 unfold turnP
 rw [if_pos h]
theorem step35r {s : Wk} {i : Ins} (h : i.op = 35 ∨ i.op = 37) : stepP s i = leaveP s := by
 unfold stepP passP
 rw [addP_none (by rcases h with h | h <;> rw [h] <;> rfl)]
 unfold turnP
 rw [if_neg (by omega), if_pos h]
theorem step_else {s : Wk} {i : Ins} (h1 : i.op ≠ 34) (h2 : i.op ≠ 35) (h3 : i.op ≠ 36) (h4 : i.op ≠ 37) : stepP s i = ⟨insP s.set i, s.opens⟩ := by
 unfold stepP passP turnP
 rw [if_neg (by omega), if_neg (by omega)]
 unfold addP insP
 split <;> rfl
theorem opR_open {s : Wk} {i : Ins} (h : i.op = 34 ∨ i.op = 36) : opR (stepP s i) = opR s ++ [⟨i.op, i.n, s.set⟩] := by
 rw [step34r h, opR_cons]
 unfold opR obR
 simp only [List.take_length]
 rcases h with h | h <;> rw [h] <;> rfl
theorem opR_same {s : Wk} {i : Ins} {n : Nat} (ho : OkS n s) (h1 : i.op ≠ 34) (h2 : i.op ≠ 35) (h3 : i.op ≠ 36) (h4 : i.op ≠ 37) : opR (stepP s i) = opR s := by
 rw [step_else h1 h2 h3 h4]
 unfold opR
 simp only
 congr 1
 apply List.map_congr_left
 intro b hb
 have := okO_le ho.opens b hb
 have e : (insP s.set i).take b.ahead = s.set.take b.ahead := by
  unfold insP
  split
  ·rw [List.take_append_of_le_length this]
  ·rfl
 unfold obR
 rw [e]
theorem opR_leave {s : Wk} {n : Nat} (ho : OkS n s) (h : 0 < s.opens.length) : opR (leaveP s) = (opR s).take (s.opens.length - 1) := by
 obtain ⟨S, O⟩ := s
 cases O with
 | nil => simp at h
 | cons b r =>
  rw [opR_cons]
  simp only [List.length_cons, Nat.add_sub_cancel]
  rw [List.take_append_of_le_length (by simp), List.take_of_length_le (by simp)]
  unfold opR leaveP
  simp only
  cases hb : b.loop
  ·simp only [Bool.false_eq_true, if_false]
   congr 1
   apply List.map_congr_left
   intro a ha
   have := okO_le ho.opens.2 a ha
   unfold obR
   rw [List.take_take, Nat.min_eq_left this]
  ·simp only [if_true]
theorem leave_set {s : Wk} (hl : inLoop s = false) {o : Ob} (h : (opR s)[s.opens.length - 1]? = some o) (h0 : 0 < s.opens.length) : (leaveP s).set = o.set := by
 obtain ⟨S, O⟩ := s
 cases O with
 | nil => simp at h0
 | cons b r =>
  rw [opR_cons] at h
  simp only [List.length_cons, Nat.add_sub_cancel] at h
  rw [List.getElem?_append_right (by simp)] at h
  simp at h
  subst h
  have : b.loop = false := hl
  simp [leaveP, this, obR]
theorem leave_setL {s : Wk} (hl : inLoop s = true) : (leaveP s).set = s.set := by
 obtain ⟨S, O⟩ := s
 cases O with
 | nil => rfl
 | cons b r =>
  have : b.loop = true := hl
  simp [leaveP, this]
theorem leave_opens (s : Wk) : (leaveP s).opens.length = s.opens.length - 1 := by
 obtain ⟨S, O⟩ := s
 cases O with
 | nil => rfl
 | cons b r => simp [leaveP]
theorem ParOK.step {c : Cd} {s : Wk} {i : Ins} (h : ParOK s) (t : takesP c s i = true) : ParOK (stepP s i) := by
 by_cases h1 : i.op = 34 ∨ i.op = 36
 ·rw [step34r h1]
  intro b hb hl
  rcases List.mem_cons.1 hb with rfl | hb
  ·have h36 : i.op = 36 := by simpa using hl
   obtain ⟨_, h2, _, _⟩ := takes_open t
   rw [h36] at h2
   unfold fitsC fitsRest at h2
   simp only [Bool.and_eq_true] at h2
   have h3 := h2.2.2.2.2
   rw [if_neg (show (rowP 36).n ≠ 7 by decide)] at h3
   simp only [Bool.and_eq_true] at h3
   have h4 : isPl i.n c.sign.length = true := h3.2
   exact (isPl_iff.1 h4).1
  ·exact h b hb hl
 ·by_cases h2 : i.op = 35 ∨ i.op = 37
  ·rw [step35r h2]
   intro b hb hl
   refine h b ?_ hl
   unfold leaveP at hb
   split at hb
   ·rename_i e; rw [e]; exact List.mem_cons_of_mem _ hb
   ·exact hb
  ·rw [step_else (by omega) (by omega) (by omega) (by omega)]
   exact h
theorem ParOK.start : ParOK ⟨[], []⟩ := fun b hb => by cases hb
end Go.Proofs.YtgcmnkanjcfndaaGreatDoor
namespace Go.Proofs.YtgcmnkanjcfndaaGreatDoor
open Go.RowKit
set_option linter.unusedVariables false
set_option linter.unusedSimpArgs false
end Go.Proofs.YtgcmnkanjcfndaaGreatDoor
namespace Go.Proofs.YtgcmnkanjcfndaaGreatDoor
open Go.RowKit
set_option linter.unusedVariables false
set_option linter.unusedSimpArgs false
def setB (M : Nat) (X : List Nat) : List Value := (List.range M).map fun j => .bool (decide (j ∈ X))
theorem setB_len (M : Nat) (X : List Nat) : (setB M X).length = M := by simp [setB]
theorem setB_at {M : Nat} {X : List Nat} {j : Nat} (h : j < M) : (setB M X)[j]? = some (.bool (decide (j ∈ X))) := by
 unfold setB
 rw [List.getElem?_map, List.getElem?_range h]
 rfl
theorem setB_nil (M : Nat) : setB M [] = List.replicate M (.bool false) := by
 apply List.ext_getElem?
 intro j
 by_cases h : j < M
 ·rw [setB_at h, List.getElem?_replicate, if_pos h]; simp
 ·rw [List.getElem?_eq_none (by rw [setB_len]; omega), List.getElem?_eq_none (by simp; omega)]
theorem setB_ins {M : Nat} {X : List Nat} {i : Ins} (hd : (rowP i.op).d ≠ 0) (hl : i.d.toNat < M) : (setB M X).set i.d.toNat (.bool true) = setB M (insP X i) := by
 apply List.ext_getElem?
 intro j
 by_cases h : j < M
 ·rw [setB_at h, List.getElem?_set]
  by_cases e : i.d.toNat = j
  ·rw [if_pos e, if_pos (by rw [setB_len]; omega)]
   have : j ∈ insP X i := ins_mem.2 (.inr ⟨hd, e.symm⟩)
   simp [this]
  ·rw [if_neg e, setB_at h]
   have : j ∈ insP X i ↔ j ∈ X := by
    rw [ins_mem]
    exact ⟨fun q => q.resolve_right fun q => e q.2.symm, .inl⟩
   simp [this]
 ·rw [List.getElem?_eq_none (by rw [List.length_set, setB_len]; omega), List.getElem?_eq_none (by rw [setB_len]; omega)]
theorem setB_keep {M : Nat} {X : List Nat} {i : Ins} (hd : (rowP i.op).d = 0) : insP X i = X := by unfold insP; rw [if_neg (fun q => q.1 hd)]
theorem app_bool {B : Nat} {V : World} {p : Option Addr} {n q : Nat} {xs : List Value} (h : V.ownsRow B 4 1 (.slice p n q) n xs) (hB : B ≤ V.heap.size) (hn : n ≤ 140737488351232) :
  ∃ g c' w', (Builtin.append_ #[82, 82] 82 #[.slice p n q, .slice (some ⟨V.heap.size, 0, none⟩) 1 1]).run Tryz.prog (V.alloc (.cells #[.bool false] 4)) = .ok (.slice (some ⟨g, 0, none⟩) (n + 1) c') w' ∧ Below B V w' ∧ w'.ownsRow B 4 1 (.slice (some ⟨g, 0, none⟩) (n + 1) c') (n + 1) (xs ++ [.bool false]) := by
 obtain ⟨i0, hi0, hz0, hz1, hz2⟩ := info_parts info_Bool
 have hb0 : Below V.heap.size V (V.alloc (.cells #[.bool false] 4)) := bel_alloc _ _
 have hsz : (V.alloc (.cells #[.bool false] 4)).heap.size = V.heap.size + 1 := by simp
 have h0 := own_below h hb0
 obtain ⟨g, cap, w3, hr, hown, hgrow, hat, hlt⟩ := run_append_lies (P := Tryz.prog) (V.alloc (.cells #[.bool false] 4)) 82 82 B 4 i0 _ 1 1 Tryz.underlying82 hi0 hz0 hz1 hz2 rfl (by decide) (.slice p n q) n xs h0 ⟨V.heap.size, 0, none⟩ 1 1 [.bool false] rfl
  (World.news_of_block (cs := #[.bool false]) (t := 4) (fr := (0, 0)) (heap_alloc_new V _)) (by simp [Value.oneCell']) (by decide) (by unfold maxLen; omega) (by omega) (by simp; omega) _ rfl
 exact ⟨g, cap, w3, hr, (hb0.mono hB).grown hgrow (by omega) (fun q e => (h0.lt q e).1), hown⟩
end Go.Proofs.YtgcmnkanjcfndaaGreatDoor
namespace Go.Proofs.YtgcmnkanjcfndaaGreatDoor
open Go.RowKit
set_option linter.unusedVariables false
set_option linter.unusedSimpArgs false
def obC (o : Ob) (u : Value) : List Value := [.int .i64 o.op, .int .i64 o.par, u]
def obsC : List Ob → List Value → List Value
 | o :: l, u :: us => obC o u ++ obsC l us
 | _, _ => []
theorem obsC_snoc (o : Ob) (u : Value) : ∀ {l : List Ob} {us : List Value}, l.length = us.length → obsC (l ++ [o]) (us ++ [u]) = obsC l us ++ obC o u
 | [], [], _ => by simp [obsC]
 | [], _ :: _, h => by simp at h
 | _ :: _, [], h => by simp at h
 | a :: l, b :: us, h => by simp only [List.cons_append, obsC]; rw [obsC_snoc o u (by simpa using h), List.append_assoc]
theorem obsC_take : ∀ (m : Nat) (l : List Ob) (us : List Value), (obsC l us).take (m * 3) = obsC (l.take m) (us.take m)
 | 0, l, us => by simp [obsC]
 | m + 1, [], us => by simp [obsC]
 | m + 1, a :: l, [] => by simp [obsC]
 | m + 1, a :: l, b :: us => by
  simp only [List.take_succ_cons, obsC]
  rw [show (m + 1) * 3 = (obC a b).length + m * 3 by simp [obC]; omega, List.take_length_add_append, obsC_take m l us]
theorem obsC_at (j : Nat) (hj : j < 3) : ∀ {l : List Ob} {us : List Value} {k : Nat} {o : Ob} {u : Value}, l[k]? = some o → us[k]? = some u → (obsC l us)[k * 3 + j]? = (obC o u)[j]?
 | [], us, k, o, u, h, _ => by simp at h
 | a :: l, [], k, o, u, _, h => by simp at h
 | a :: l, b :: us, 0, o, u, h, h' => by
  simp at h h'
  subst h h'
  simp only [obsC]
  rw [Nat.zero_mul, Nat.zero_add, List.getElem?_append_left (by simpa [obC] using hj)]
 | a :: l, b :: us, k + 1, o, u, h, h' => by
  simp only [obsC]
  rw [List.getElem?_append_right (by simp [obC]; omega)]
  have e : (k + 1) * 3 + j - (obC a b).length = k * 3 + j := by simp [obC]; omega
  rw [e]
  exact obsC_at j hj (by simpa using h) (by simpa using h')
theorem info_Open : (Tryz.prog.info? 87).map (fun i => (i.zero, i.size, i.bytes)) = some (some (.agg #[.int .i64 0, .int .i64 0, .slice none 0 0]), 3, 40) := by kernel_rfl
structure SK (B M : Nat) (v : World) (sv ov : Value) (s : Wk) (us : List Value) : Prop where
 hB : B ≤ v.heap.size
 set : v.ownsRow B 4 1 sv M (setB M s.set)
 opn : v.ownsRow B 87 3 ov s.opens.length (obsC (opR s) us)
 len : us.length = s.opens.length
 each : ∀ k (h : k < us.length) o, (opR s)[k]? = some o → v.ownsRow B 4 1 us[k] M (setB M o.set) ∧ ∀ b, sv.ownBlock = some b → us[k].ownBlock ≠ some b
section
variable {B M : Nat} {v v' : World} {sv ov : Value} {s : Wk} {us : List Value}
theorem SK.below (h : SK B M v sv ov s us) (k : Below v.heap.size v v') : SK B M v' sv ov s us :=
 ⟨Nat.le_trans h.hB k.size, own_below h.set k, own_below h.opn k, h.len, fun j hj o ho => ⟨own_below (h.each j hj o ho).1 k, (h.each j hj o ho).2⟩⟩
theorem types_ne : 87 ≠ 4 := by decide
theorem SK.ins {i : Ins} {g q n : Nat} (h : SK B M v (.slice (some ⟨g, 0, none⟩) M q) ov s us) (ok : OkS n s) (h1 : i.op ≠ 34) (h2 : i.op ≠ 35) (h3 : i.op ≠ 36) (h4 : i.op ≠ 37) (hd : (rowP i.op).d ≠ 0) (hl : i.d.toNat < M) :
  SK B M (v.setCell ⟨g, i.d.toNat, none⟩ (.bool true)) (.slice (some ⟨g, 0, none⟩) M q) ov (stepP s i) us := by
 have e1 := opR_same (i := i) ok h1 h2 h3 h4
 have e2 : (stepP s i).set = insP s.set i ∧ (stepP s i).opens = s.opens := by rw [step_else h1 h2 h3 h4]; exact ⟨rfl, rfl⟩
 have hne : ∀ b, b ≠ g → (v.setCell ⟨g, i.d.toNat, none⟩ (.bool true)).heap[b]? = v.heap[b]? := fun b hb => Below.heap_setCell _ _ _ _ hb
 refine ⟨by have := h.hB; simp; omega, ?_, ?_, by rw [e2.2]; exact h.len, fun k hk o ho => ?_⟩
 ·rw [e2.1, ← setB_ins hd hl]
  exact (h.set.stored _ _).1
 ·rw [e1, e2.2]
  exact own_keep h.opn fun b hb => hne b fun e => own_other h.opn h.set types_ne b hb (by rw [e]; rfl)
 ·rw [e1] at ho
  obtain ⟨a1, a2⟩ := h.each k hk o ho
  exact ⟨own_keep a1 fun b hb => hne b fun e => a2 g rfl (by rw [← e]; exact hb), a2⟩
theorem SK.keep {i : Ins} {n : Nat} (h : SK B M v sv ov s us) (ok : OkS n s) (h1 : i.op ≠ 34) (h2 : i.op ≠ 35) (h3 : i.op ≠ 36) (h4 : i.op ≠ 37) (hd : (rowP i.op).d = 0) : SK B M v sv ov (stepP s i) us := by
 have e : stepP s i = s := by rw [step_else h1 h2 h3 h4, setB_keep (M := 0) hd]
 rw [e]; exact h
theorem own_app {B : Nat} {V : World} {e t : TypeId} {z : Value} {sz by' : Nat} (ht : Tryz.prog.underlying t = some (.slice e)) (hi : (Tryz.prog.info? e).map (fun i => (i.zero, i.size, i.bytes)) = some (some z, sz, by')) (hzs : z.cells.size = sz) (hsz : 0 < sz) {p : Option Addr} {n q : Nat} {xs : List Value} (h : V.ownsRow B e sz (.slice p n q) n xs) (hB : B ≤ V.heap.size)
  (cs : Array Value) (hcs : cs.size = sz) (h1 : ∀ u ∈ cs.toList, u.oneCell' = true) (hn : n + 1 ≤ maxLen) (hb : (n + 1) * by' ≤ 140737488355328) (ty : TypeId) :
  ∃ g c' w', (Builtin.append_ #[t, t] ty #[.slice p n q, .slice (some ⟨V.heap.size, 0, none⟩) 1 1]).run Tryz.prog (V.alloc (.cells cs e)) = .ok (.slice (some ⟨g, 0, none⟩) (n + 1) c') w' ∧ Below B V w' ∧ w'.ownsRow B e sz (.slice (some ⟨g, 0, none⟩) (n + 1) c') (n + 1) (xs ++ cs.toList) ∧ ∀ b, b < V.heap.size → (Value.slice p n q).ownBlock ≠ some b → w'.heap[b]? = V.heap[b]? := by
 obtain ⟨i0, hi0, hz0, hz1, hz2⟩ := info_parts hi
 have hb0 : Below V.heap.size V (V.alloc (.cells cs e)) := bel_alloc _ _
 have hs : (V.alloc (.cells cs e)).heap.size = V.heap.size + 1 := by simp
 have h0 := own_below h hb0
 obtain ⟨g, cap, w3, hr, hown, hgrow, hat, hlt⟩ := run_append_lies (P := Tryz.prog) (V.alloc (.cells cs e)) t ty B e i0 _ sz by' ht hi0 hz0 hz1 hz2 hzs hsz (.slice p n q) n xs h0 ⟨V.heap.size, 0, none⟩ 1 1 cs.toList (by simp [hcs])
  (World.news_of_block (cs := cs) (t := e) (fr := (0, 0)) (heap_alloc_new V _)) h1 (by decide) hn hb (by omega) _ rfl
 refine ⟨g, cap, w3, hr, (hb0.mono hB).grown hgrow (by omega) (fun q e => (h0.lt q e).1), hown, fun b hb hne => ?_⟩
 rw [hgrow.block b (by omega) (Ne.symm hne)]
 exact hb0.block b hb
theorem SK.push {i : Ins} {p : Option Addr} {q : Nat} {u : Value} (h : SK B M v sv (.slice p s.opens.length q) s us) (k : Below v.heap.size v v') (hu : v'.ownsRow v.heap.size 4 1 u M (setB M s.set)) (hi : i.op = 34 ∨ i.op = 36) (hn : s.opens.length < 64) (ty : TypeId) :
  ∃ g c' w', (Builtin.append_ #[83, 83] ty #[.slice p s.opens.length q, .slice (some ⟨v'.heap.size, 0, none⟩) 1 1]).run Tryz.prog (v'.alloc (.cells #[.int .i64 i.op, .int .i64 i.n, u] 87)) = .ok (.slice (some ⟨g, 0, none⟩) (s.opens.length + 1) c') w' ∧ Below B v w' ∧ SK B M w' sv (.slice (some ⟨g, 0, none⟩) (s.opens.length + 1) c') (stepP s i) (us ++ [u]) ∧ ∀ b, b < v'.heap.size → (Value.slice p s.opens.length q).ownBlock ≠ some b → w'.heap[b]? = v'.heap[b]? := by
 have h' := h.below k
 have hone : u.oneCell' = true := by
  obtain ⟨p, c, rfl⟩ := own_len hu
  rfl
 obtain ⟨g, c', w', hr, hb, ho, hk⟩ := own_app (V := v') Tryz.underlying83 info_Open rfl (by decide) h'.opn h'.hB #[.int .i64 i.op, .int .i64 i.n, u] rfl (by intro x hx; simp at hx; rcases hx with rfl | rfl | rfl <;> first | rfl | exact hone) (by unfold maxLen; omega) (by omega) ty
 have hs : (stepP s i).set = s.set ∧ (stepP s i).opens.length = s.opens.length + 1 := by rw [step34r hi]; exact ⟨rfl, rfl⟩
 have eo := opR_open (s := s) hi
 have hsz := k.size
 refine ⟨g, c', w', hr, (k.mono h.hB).trans hb, ⟨Nat.le_trans h'.hB hb.size, ?_, ?_, by rw [hs.2, List.length_append, h.len]; rfl, fun j hj o ho' => ?_⟩, hk⟩
 ·rw [hs.1]
  exact own_keep h'.set fun b hbb => hk b (h'.set.lt b hbb).2 (fun e => own_other h'.opn h'.set types_ne b e hbb)
 ·rw [hs.2, eo, obsC_snoc _ _ (by rw [opR_len]; exact h.len.symm)]
  exact ho
 ·rw [eo] at ho'
  by_cases hlt : j < us.length
  ·rw [List.getElem?_append_left (by rw [opR_len, ← h.len]; exact hlt)] at ho'
   obtain ⟨a1, a2⟩ := h'.each j hlt o ho'
   rw [List.getElem_append_left hlt]
   exact ⟨own_keep a1 fun b hbb => hk b (a1.lt b hbb).2 (fun e => own_other h'.opn a1 types_ne b e hbb), a2⟩
  ·have hj' : j = us.length := by simp at hj; omega
   subst hj'
   rw [List.getElem?_append_right (by rw [opR_len, h.len]; exact Nat.le_refl _)] at ho'
   have e0 : us.length - (opR s).length = 0 := by rw [opR_len, h.len]; omega
   rw [e0] at ho'
   simp at ho'
   subst ho'
   have e1 : (us ++ [u])[us.length]'hj = u := by simp
   rw [e1]
   refine ⟨own_mono (own_keep hu fun b hbb => hk b (hu.lt b hbb).2 (fun e => ?_)) h.hB, fun b hbb e => ?_⟩
   ·exact own_other h'.opn hu types_ne b e hbb
   ·have a1 := (hu.lt b e).1
    have a2 := (h.set.lt b hbb).2
    omega
theorem SK.pop {p : Option Addr} {q n : Nat} (h : SK B M v sv (.slice p s.opens.length q) s us) (ok : OkS n s) (h0 : 0 < s.opens.length) (hl : inLoop s = true) : SK B M v sv (.slice p (s.opens.length - 1) q) (leaveP s) (us.take (s.opens.length - 1)) := by
 refine ⟨h.hB, by rw [leave_setL hl]; exact h.set, ?_, by rw [leave_opens, List.length_take, h.len]; omega, fun k hk o ho => ?_⟩
 ·rw [leave_opens, opR_leave ok h0, ← obsC_take]
  exact own_take h.opn (by omega)
 ·rw [opR_leave ok h0] at ho
  have hk' : k < us.length := by simp at hk; omega
  rw [List.getElem?_take] at ho
  split at ho
  ·obtain ⟨a1, a2⟩ := h.each k hk' o ho
   simp only [List.getElem_take]
   exact ⟨a1, a2⟩
  ·simp at ho
theorem SK.back {p : Option Addr} {q n : Nat} {u : Value} {o : Ob} (h : SK B M v sv (.slice p s.opens.length q) s us) (ok : OkS n s) (h0 : 0 < s.opens.length) (hl : inLoop s = false) (k : Below v.heap.size v v') (ho : (opR s)[s.opens.length - 1]? = some o) (hu : v'.ownsRow v.heap.size 4 1 u M (setB M o.set)) :
  SK B M v' u (.slice p (s.opens.length - 1) q) (leaveP s) (us.take (s.opens.length - 1)) := by
 refine ⟨Nat.le_trans h.hB k.size, by rw [leave_set hl ho h0]; exact own_mono hu h.hB, ?_, by rw [leave_opens, List.length_take, h.len]; omega, fun j hj x hx => ?_⟩
 ·rw [leave_opens, opR_leave ok h0, ← obsC_take]
  exact own_below (own_take h.opn (by omega)) k
 ·rw [opR_leave ok h0] at hx
  have hk' : j < us.length := by simp at hj; omega
  rw [List.getElem?_take] at hx
  split at hx
  ·obtain ⟨a1, a2⟩ := h.each j hk' x hx
   simp only [List.getElem_take]
   refine ⟨own_below a1 k, fun b hb e => ?_⟩
   have b1 := (hu.lt b hb).1
   have b2 := (a1.lt b e).2
   omega
  ·simp at hx
theorem SK.last {g q : Nat} (h : SK B M v sv (.slice (some ⟨g, 0, none⟩) s.opens.length q) s us) (h0 : 0 < s.opens.length) : ∃ (X : List Nat) (u : Value), (opR s)[s.opens.length - 1]? = some ⟨if inLoop s then 36 else 34, innerP s, X⟩ ∧ v.ownsRow B 4 1 u M (setB M X) ∧ v.cell? ⟨g, (s.opens.length - 1) * 3, none⟩ = some (.int .i64 (if inLoop s then 36 else 34)) ∧ v.cell? ⟨g, (s.opens.length - 1) * 3 + 1, none⟩ = some (.int .i64 (innerP s)) ∧ v.cell? ⟨g, (s.opens.length - 1) * 3 + 2, none⟩ = some u := by
 obtain ⟨X, hX⟩ := opR_last h0
 have hu : s.opens.length - 1 < us.length := by rw [h.len]; omega
 obtain ⟨a1, a2⟩ := h.each _ hu _ hX
 have cl := fun (j : Nat) (hj : j < 3) => obsC_at j hj hX (List.getElem?_eq_getElem hu)
 have ca := fun (j : Nat) (hj : j < 3) => h.opn.cellAt ((s.opens.length - 1) * 3 + j) (by omega)
 refine ⟨X, _, hX, a1, ?_, ?_, ?_⟩
 ·have := ca 0 (by decide); rw [cl 0 (by decide)] at this; exact this
 ·have := ca 1 (by decide); rw [cl 1 (by decide)] at this; exact this
 ·have := ca 2 (by decide); rw [cl 2 (by decide)] at this; exact this
theorem SK.start (w : World) (B : Nat) (h : B ≤ w.heap.size) {sv : Value} (hs : w.ownsRow B 4 1 sv M (setB M [])) : SK B M w sv (.slice none 0 0) ⟨[], []⟩ [] :=
 ⟨h, hs, World.ownsRow_nil _ _ _ 3, rfl, fun k hk => by simp at hk⟩
end
end Go.Proofs.YtgcmnkanjcfndaaGreatDoor
namespace Go.Proofs.YtgcmnkanjcfndaaGreatDoor
open Go.RowKit
set_option linter.unusedVariables false
set_option linter.unusedSimpArgs false
theorem own_rowV {w : World} {B : Nat} {t t' : TypeId} {k n n' b : Nat} {v : Value} {xs : List Value} {f : Nat → Value} (h : w.ownsRow B t k v n xs) (h' : w.rowIs b t' n' f) (ht : t ≠ t') : v.ownBlock ≠ some b := by
 intro hb
 rcases h.2 with ⟨rfl, _⟩ | ⟨g, cap, cur, rfl, _, hg, _⟩
 ·exact absurd (show (none : Option Nat) = some b from hb) (by simp)
 obtain ⟨c, hc, -⟩ := h'
 have e1 : g = b := Option.some.inj hb
 rw [e1, hc] at hg
 simp only [Option.some.injEq, Obj.cells.injEq] at hg
 exact ht hg.2.1.symm
theorem own_putV {w w' : World} {B C : Nat} {t t' : TypeId} {k n n' : Nat} {v : Value} {xs : List Value} {f : Nat → Value} (h : w.ownsRow B t k v n xs) (h' : w.rowIs C t' n' f) (ht : t ≠ t') (p : PutR C w w') : w'.ownsRow B t k v n xs :=
 own_keep h fun g hg => p.oth g fun e => own_rowV h h' ht (e ▸ hg)
end Go.Proofs.YtgcmnkanjcfndaaGreatDoor
namespace Go.Proofs.YtgcmnkanjcfndaaGreatDoor
open Go.RowKit
set_option linter.unusedVariables false
set_option linter.unusedSimpArgs false
structure MapsA (E : Nat) (w : World) (m0 m1 m2 m3 m4 : Nat) : Prop where
 sorts : MeanM w m0 (meanA sortL 3) ∧ E ≤ m0
 kinds : MeanM w m1 (meanA kindL 3) ∧ E ≤ m1
 types : MeanM w m2 (meanA typeL 4) ∧ E ≤ m2
 keeps : MeanM w m3 (meanA keepL 2) ∧ E ≤ m3
 ops : MeanM w m4 (meanA opsB 38) ∧ E ≤ m4
theorem MeanM.lt {w : World} {C : Nat} {g : Bs → Option Nat} (h : MeanM w C g) : C < w.heap.size := by obtain ⟨n, h⟩ := h; exact h.lt
theorem MeanM.keep {w w' : World} {C : Nat} {g : Bs → Option Nat} (h : MeanM w C g) (k : w'.heap[C]? = w.heap[C]?) : MeanM w' C g := by obtain ⟨n, h⟩ := h; exact ⟨n, h.block k⟩
theorem MeanM.below {w w' : World} {C : Nat} {g : Bs → Option Nat} (h : MeanM w C g) (k : Below w.heap.size w w') : MeanM w' C g := h.keep (k.block C h.lt)
theorem MeanM.no {w : World} {C b n : Nat} {t : TypeId} {f : Nat → Value} {g : Bs → Option Nat} (h : MeanM w C g) (r : w.rowIs b t (n + 1) f) : C ≠ b := by
 obtain ⟨_, h⟩ := h
 exact fun e => h.cell (r.cell (i := 0) (Nat.succ_pos n)) e.symm
theorem MapsA.keep {E : Nat} {w w' : World} {m0 m1 m2 m3 m4 : Nat} (h : MapsA E w m0 m1 m2 m3 m4) (k : ∀ (C : Nat) (g : Bs → Option Nat), MeanM w C g → w'.heap[C]? = w.heap[C]?) : MapsA E w' m0 m1 m2 m3 m4 :=
 ⟨⟨h.sorts.1.keep (k _ _ h.sorts.1), h.sorts.2⟩, ⟨h.kinds.1.keep (k _ _ h.kinds.1), h.kinds.2⟩, ⟨h.types.1.keep (k _ _ h.types.1), h.types.2⟩, ⟨h.keeps.1.keep (k _ _ h.keeps.1), h.keeps.2⟩, ⟨h.ops.1.keep (k _ _ h.ops.1), h.ops.2⟩⟩
structure RdA (E B m0 m1 m2 m3 m4 : Nat) (w : World) (c : Cd) (ln st : Int) (u0 u1 u2 u3 : Value) : Prop where
 le : E ≤ B
 row : w.rowIs B 67 11 (g11 u0 u1 u2 u3 (.int .i64 ln) (.int .i64 st) (.map (some m0)) (.map (some m1)) (.map (some m2)) (.map (some m3)) (.map (some m4)))
 own : Own4 E w u0 u1 u2 u3 c
 maps : MapsA E w m0 m1 m2 m3 m4
theorem RdA.below {E B m0 m1 m2 m3 m4 : Nat} {w w' : World} {c : Cd} {ln st : Int} {u0 u1 u2 u3 : Value} (h : RdA E B m0 m1 m2 m3 m4 w c ln st u0 u1 u2 u3) (k : Below w.heap.size w w') : RdA E B m0 m1 m2 m3 m4 w' c ln st u0 u1 u2 u3 :=
 ⟨h.le, h.row.of_block (k.block _ h.row.lt), ⟨own_below h.own.sign k, own_below h.own.regs k, own_below h.own.slots k, own_below h.own.list k⟩, h.maps.keep fun C g hm => k.block C hm.lt⟩
theorem RdA.ofB {E B WB m0 m1 m2 m3 m4 : Nat} {w w' : World} {c : Cd} {ln st : Int} {u0 u1 u2 u3 : Value} {f : Nat → Value} (h : RdA E B m0 m1 m2 m3 m4 w c ln st u0 u1 u2 u3) (hw : w.rowIs WB 151 3 f) (k : OfB WB w w') : RdA E B m0 m1 m2 m3 m4 w' c ln st u0 u1 u2 u3 := by
 have hne : B ≠ WB := fun e => by
  obtain ⟨x, hx, -⟩ := h.row
  obtain ⟨y, hy, -⟩ := hw
  rw [e, hy] at hx
  have := (Obj.cells.inj (Option.some.inj hx)).2.1
  exact absurd this (by decide)
 refine ⟨h.le, h.row.of_block (k.oth _ h.row.lt hne), ⟨?_, ?_, ?_, ?_⟩, h.maps.keep fun C g hm => k.oth C hm.lt (hm.no hw)⟩
 ·exact own_keep h.own.sign fun b hb => k.oth b (h.own.sign.lt b hb).2 fun e => own_rowV h.own.sign hw (by decide) (e ▸ hb)
 ·exact own_keep h.own.regs fun b hb => k.oth b (h.own.regs.lt b hb).2 fun e => own_rowV h.own.regs hw (by decide) (e ▸ hb)
 ·exact own_keep h.own.slots fun b hb => k.oth b (h.own.slots.lt b hb).2 fun e => own_rowV h.own.slots hw (by decide) (e ▸ hb)
 ·exact own_keep h.own.list fun b hb => k.oth b (h.own.list.lt b hb).2 fun e => own_rowV h.own.list hw (by decide) (e ▸ hb)
set_option maxRecDepth 100000 in
set_option maxHeartbeats 4000000 in
theorem newR_any (w : World) : Calls Tryz.prog 22 #[] w fun e w' => ∃ B m0 m1 m2 m3 m4, e = .returned (.pointer (some ⟨B, 0, none⟩)) ∧ RdA w.heap.size B m0 m1 m2 m3 m4 w' ⟨[], [], [], []⟩ 0 0 (.slice none 0 0) (.slice none 0 0) (.slice none 0 0) (.slice none 0 0) ∧ Below w.heap.size w w' := by
 have M0 := hidC (fun p v hr => mean_any p sortL (by decide) (by decide) v hr)
 have M1 := hidC (fun p v hr => mean_any p kindL (by decide) (by decide) v hr)
 have M2 := hidC (fun p v hr => mean_any p typeL (by decide) (by decide) v hr)
 have M3 := hidC (fun p v hr => mean_any p keepL (by decide) (by decide) v hr)
 have M4 := hidC (fun p v hr => mean_any p opsB (by decide) (by decide) v hr)
 have l0 : sortL.length = 3 := rfl
 have l1 : kindL.length = 3 := rfl
 have l2 : typeL.length = 4 := rfl
 have l3 : keepL.length = 2 := rfl
 have l4 : opsB.length = 38 := by decide
 rw [l0] at M0
 rw [l1] at M1
 rw [l2] at M2
 rw [l3] at M3
 rw [l4] at M4
 clear l0 l1 l2 l3 l4
 go_enter Tryz.func22, Tryz.ntmps22
 go_wp2_with (first
  | (go_at_call 38; (with_reducible refine (sortWords_any _).mono ?_); rintro e w1 ⟨p1, rfl, q1, r1, b1⟩)
  | (go_at_call 39; (with_reducible refine (kindWords_any _).mono ?_); rintro e w3 ⟨p3, rfl, q3, r3, b3⟩)
  | (go_at_call 40; (with_reducible refine (typeWords_any _).mono ?_); rintro e w5 ⟨p5, rfl, q5, r5, b5⟩)
  | (go_at_call 41; (with_reducible refine (keepWords_any _).mono ?_); rintro e w7 ⟨p7, rfl, q7, r7, b7⟩)
  | (go_at_call 42; (with_reducible refine (opWords_any _).mono ?_); rintro e w9 ⟨p9, rfl, q9, r9, b9⟩)
  | (go_at_call 55; (with_reducible refine (M0.out _ _ r1).mono ?_); rintro e w2 ⟨m0, rfl, n0, g0, b2⟩)
  | (go_at_call 55; (with_reducible refine (M1.out _ _ r3).mono ?_); rintro e w4 ⟨m1, rfl, n1, g1, b4⟩)
  | (go_at_call 55; (with_reducible refine (M2.out _ _ r5).mono ?_); rintro e w6 ⟨m2, rfl, n2, g2, b6⟩)
  | (go_at_call 55; (with_reducible refine (M3.out _ _ r7).mono ?_); rintro e w8 ⟨m3, rfl, n3, g3, b8⟩)
  | (go_at_call 55; (with_reducible refine (M4.out _ _ r9).mono ?_); rintro e w10 ⟨m4, rfl, n4, g4, b10⟩))
 go_ret
 have b11 := bel_alloc w10 (.cells #[.slice none 0 0, .slice none 0 0, .slice none 0 0, .slice none 0 0, .int .i64 0, .int .i64 0, .map (some m0), .map (some m1), .map (some m2), .map (some m3), .map (some m4)] 67)
 have s1 := b1.size
 have s2 := b2.size
 have s3 := b3.size
 have s4 := b4.size
 have s5 := b5.size
 have s6 := b6.size
 have s7 := b7.size
 have s8 := b8.size
 have s9 := b9.size
 have s10 := b10.size
 have c8 := bel b9 b10
 have c6 := bel (bel b7 b8) c8
 have c4 := bel (bel b5 b6) c6
 have c2 := bel (bel b3 b4) c4
 have c0 := bel (bel b1 b2) c2
 refine ⟨_, m0, m1, m2, m3, m4, rfl, ⟨by omega, q11_new _ _ _ _ _ _ _ _ _ _ _ _ _, ⟨⟨rfl, .inl ⟨rfl, rfl⟩⟩, ⟨rfl, .inl ⟨rfl, rfl⟩⟩, ⟨rfl, .inl ⟨rfl, rfl⟩⟩, ⟨rfl, .inl ⟨rfl, rfl⟩⟩⟩, ?_⟩, bel c0 b11⟩
 exact ⟨⟨(g0.below c2).below b11, by omega⟩, ⟨(g1.below c4).below b11, by omega⟩, ⟨(g2.below c6).below b11, by omega⟩, ⟨(g3.below c8).below b11, by omega⟩, ⟨g4.below b11, by omega⟩⟩
end Go.Proofs.YtgcmnkanjcfndaaGreatDoor
namespace Go.Proofs.YtgcmnkanjcfndaaGreatDoor
open Go.RowKit
set_option linter.unusedVariables false
set_option linter.unusedSimpArgs false
theorem OfB.putN {B C : Nat} {w w' w'' : World} (h : OfB B w w') (p : PutR C w' w'') (hC : w.heap.size ≤ C) : OfB B w w'' :=
 ⟨fun b h1 h2 => (p.oth b (fun e => by omega)).trans (h.oth b h1 h2), fun E h1 h2 => (h.bel E h1 h2).trans (p.bel E (Nat.le_trans h2 hC)), Nat.le_trans h.size (p.bel 0 (Nat.zero_le _)).size⟩
theorem WdM.putN {B C : Nat} {ws : List Bs} {b : Bool} {w w' : World} (h : WdM B ws b w) (p : PutR C w w') (hC : B ≠ C) : WdM B ws b w' := by
 obtain ⟨T, h1, h2, h3⟩ := h.row
 exact ⟨⟨T, h1, h2, h3.of_block (p.oth _ hC)⟩, h.no⟩
theorem type_mean (x : Bs) : meanA typeL 4 x = if x = numberB then some 1 else if x = wholeT then some 2 else if x = vectorB then some 3 else none := by
 by_cases h1 : x = numberB
 ·subst h1; decide
 by_cases h2 : x = wholeT
 ·subst h2; decide
 by_cases h3 : x = vectorB
 ·subst h3; decide
 simp [meanA, typeL, h1, h2, h3]
def TakT {α : Type} (b : Bool) (o : Option (α × List Bs)) (a : α) (ws' : List Bs) (b' : Bool) : Prop :=
 match o with
 | some (x, r) => b' = b ∧ a = x ∧ ws' = r
 | none => b' = true
theorem typ_end {ws : List Bs} {b b1 : Bool} {n : Int} (hn : (((meanA typeL 4 (nxW ws).1).getD 0 : Nat) : Int) = n) (hb : (b || !(meanA typeL 4 (nxW ws).1).isSome) = b1) (hn3 : ¬ n = 3) : TakT b (typLn ws) ⟨n, 0⟩ (nxW ws).2 b1 := by
 rw [type_mean] at hn hb
 rw [typ_take]
 by_cases h1 : (nxW ws).1 = numberB
 ·rw [if_pos h1] at hn hb ⊢
  exact ⟨by rw [← hb]; simp, by rw [← hn]; rfl, rfl⟩
 rw [if_neg h1] at hn hb ⊢
 by_cases h2 : (nxW ws).1 = wholeT
 ·rw [if_pos h2] at hn hb ⊢
  exact ⟨by rw [← hb]; simp, by rw [← hn]; rfl, rfl⟩
 rw [if_neg h2] at hn hb ⊢
 by_cases h3 : (nxW ws).1 = vectorB
 ·rw [if_pos h3] at hn
  exact absurd hn.symm hn3
 rw [if_neg h3] at hb ⊢
 show b1 = true
 rw [← hb]; simp
theorem typ_end3 {ws : List Bs} {b b1 : Bool} {m : Int} (hn : (((meanA typeL 4 (nxW ws).1).getD 0 : Nat) : Int) = 3) (hb : (b || !(meanA typeL 4 (nxW ws).1).isSome) = b1)
  (hm : ∀ x, numW (nxW (nxW ws).2).1 = some x → m = x) : TakT b (typLn ws) ⟨3, m⟩ (nxW (nxW ws).2).2 (b1 || !(numW (nxW (nxW ws).2).1).isSome) := by
 rw [type_mean] at hn hb
 rw [typ_take]
 by_cases h1 : (nxW ws).1 = numberB
 ·rw [if_pos h1] at hn; exact absurd hn (by decide)
 rw [if_neg h1] at hn hb ⊢
 by_cases h2 : (nxW ws).1 = wholeT
 ·rw [if_pos h2] at hn; exact absurd hn (by decide)
 rw [if_neg h2] at hn hb ⊢
 by_cases h3 : (nxW ws).1 = vectorB
 ·rw [if_pos h3] at hb ⊢
  cases e : numW (nxW (nxW ws).2).1 with
  | none => show (b1 || !false) = true; simp
  | some x => exact ⟨by rw [← hb]; simp, by rw [hm x e], rfl⟩
 rw [if_neg h3] at hn
 exact absurd hn (by decide)
end Go.Proofs.YtgcmnkanjcfndaaGreatDoor
namespace Go.Proofs.YtgcmnkanjcfndaaGreatDoor
open Go.RowKit
set_option linter.unusedVariables false
set_option linter.unusedSimpArgs false
theorem c2g {w : World} {b : Nat} {t : TypeId} {a0 a1 : Value} (h : w.rowIs b t 2 (g2 a0 a1)) : w.cell? ⟨b, 0, none⟩ = some a0 ∧ w.cell? ⟨b, 1, none⟩ = some a1 := ⟨h.cell (i := 0) (by decide), h.cell (i := 1) (by decide)⟩
theorem z2g {w : World} {b n : Nat} {t : TypeId} {f : Nat → Value} (h : w.rowIs b t n f) : w.frozen? ⟨b, 0, none⟩ = false ∧ w.frozen? ⟨b, 1, none⟩ = false := ⟨h.frozen 0, h.frozen 1⟩
set_option maxRecDepth 100000 in
set_option maxHeartbeats 4000000 in
theorem typed_any (E B WB m0 m1 m2 m3 m4 : Nat) (c : Cd) (ln st : Int) (u0 u1 u2 u3 : Value) (ws : List Bs) (b : Bool) (w : World) (hL : LaidE E w) (hE : E ≤ WB) (h : RdA E B m0 m1 m2 m3 m4 w c ln st u0 u1 u2 u3) (hw : WdM WB ws b w) :
  Calls Tryz.prog 123 #[.pointer (some ⟨B, 0, none⟩), .pointer (some ⟨WB, 0, none⟩)] w fun e w' => ∃ (t : Ty) (ws' : List Bs) (b' : Bool), e = .returned (.agg #[.int .i64 t.kind, .int .i64 t.par]) ∧ WdM WB ws' b' w' ∧ OfB WB w w' ∧ TakT b (typLn ws) t ws' b' := by
 have hLt := hw.lt
 obtain ⟨G, hG⟩ : ∃ G, w.heap.size = G := ⟨_, rfl⟩
 obtain ⟨W, hW⟩ : ∃ W, w.alloc (.cells #[.int .i64 0, .int .i64 0] 50) = W := ⟨_, rfl⟩
 have HB0 : Hid (Below w.heap.size w W) := by rw [← hW]; exact bel_alloc _ _
 have HR0 : Hid (W.rowIs G 50 2 (g2 (.int .i64 0) (.int .i64 0))) := by rw [← hW, ← hG]; exact q2_new _ _ _ _
 have hwW := hw.below HB0.out
 have hLW := hL.below (HB0.out.mono hL.le)
 have hhW := h.below HB0.out
 have K1 := hidC (wmean_any WB m2 ws b (meanA typeL 4) W hLW.laid hwW hhW.maps.types.1)
 have HC8 := hidC (hhW.row.cell (i := 8) (by decide))
 obtain ⟨n, hn⟩ : ∃ n : Int, (((meanA typeL 4 (nxW ws).1).getD 0 : Nat) : Int) = n := ⟨_, rfl⟩
 obtain ⟨b1, hb1⟩ : ∃ b1 : Bool, (b || !(meanA typeL 4 (nxW ws).1).isSome) = b1 := ⟨_, rfl⟩
 rw [hn, hb1] at K1
 have HN := hidC (And.intro hn hb1)
 have HX := hidC (And.intro hLt (And.intro hE (And.intro hL hG)))
 clear h hw hL hwW hLW hhW hE hn hb1 hLt
 have v7 : W.cell? ⟨B, 8, none⟩ = some (.map (some m2)) := HC8.out
 go_enter Tryz.func123, Tryz.ntmps123
 go_upto_region 1 with fail
 clear hG hW
 go_upto_region 2 with (go_at_call 120; (with_reducible refine K1.out.mono ?_); rintro e w1 ⟨rfl, h1, k1⟩; have H1 := hidC (And.intro h1 k1); clear h1 k1; clear v7)
 obtain ⟨V, hV⟩ : ∃ V, w1.alloc (.cells #[.int .i64 n, .int .i64 0] 50) = V := ⟨_, rfl⟩
 rw [hV]
 have hp := q2_new w1 50 (.int .i64 n) (.int .i64 0)
 have hb := bel_alloc w1 (.cells #[.int .i64 n, .int .i64 0] 50)
 rw [hV] at hp hb
 have l1 := H1.out.2.size
 have l0 := HB0.out.size
 have lG : G < w1.heap.size := by have := HR0.out.lt; omega
 have HO : Hid (OfB WB w V) := ((OfB.of HB0.out).trans H1.out.2).trans (OfB.of hb)
 have HWD : Hid (WdM WB (nxW ws).2 b1 V) := H1.out.1.below hb
 have HRT : Hid (V.rowIs w1.heap.size 50 2 (g2 (.int .i64 n) (.int .i64 0))) := hp
 have HRG : Hid (V.rowIs G 50 2 (g2 (.int .i64 0) (.int .i64 0))) := by
  have eG := HX.out.2.2.2
  have r1 := HR0.out.of_block (H1.out.2.oth _ HR0.out.lt (by have := HX.out.1; omega))
  exact r1.of_block (hb.block _ r1.lt)
 obtain ⟨Z, hZ⟩ : ∃ Z, w1.heap.size = Z := ⟨_, rfl⟩
 rw [hZ] at HRT lG
 have HGZ := hidC lG
 simp only [hZ]
 clear hp hb hV l1 l0 lG hZ
 obtain ⟨t0, t1⟩ := c2g HRT.out
 obtain ⟨g0, g1⟩ := c2g HRG.out
 by_cases hn3 : n = 3
 ·subst hn3
  have HL := hidC (HX.out.2.2.1.ofB HX.out.2.1 HO.out)
  have KN := hidC (wnum_any WB (nxW ws).2 b1 V HL.out.laid HWD.out (fun v k => (HL.out.ofB HX.out.2.1 k).laid))
  go_upto_region 4 with (go_at_call 121; (with_reducible refine KN.out.mono ?_); rintro e w3 ⟨m, rfl, hm, h3, k3⟩; have H3 := hidC (And.intro h3 (And.intro k3 hm)); clear h3 k3 hm; have y1 := HRT.out.of_block (H3.out.2.1.oth _ HRT.out.lt (by have := HX.out.1; have := HGZ.out; have := HX.out.2.2.2; omega)); have HY1 := hidC y1; clear t0 t1 g0 g1; obtain ⟨t0, t1⟩ := c2g y1; obtain ⟨f0, f1⟩ := z2g y1; clear y1)
  have hq := put2_1 HY1.out (.int .i64 m)
  have HQ := hidC hq
  obtain ⟨q0, q1⟩ := c2g hq.1
  have yg := (HRG.out.of_block (H3.out.2.1.oth _ HRG.out.lt (by have := HX.out.1; have := HX.out.2.2.2; omega))).of_block (hq.2.oth _ (by have := HGZ.out; omega))
  have HYG := hidC yg
  have yg3 := HRG.out.of_block (H3.out.2.1.oth _ HRG.out.lt (by have := HX.out.1; have := HX.out.2.2.2; omega))
  obtain ⟨g0, g1⟩ := c2g yg3
  obtain ⟨i0, i1⟩ := z2g yg3
  have nZ : ¬ Z = G := by have := HGZ.out; omega
  have nG : ¬ G = Z := by have := HGZ.out; omega
  have hs := put2r yg (.int .i64 3) (.int .i64 m)
  have HS := hidC hs
  obtain ⟨s0, s1⟩ := c2g hs.1
  obtain ⟨j0, j1⟩ := z2g yg
  clear hq yg hs yg3
  go_wp2_with fail
  refine bodyPost_ret (v := .agg #[.int .i64 3, .int .i64 m]) (by simp [results, Tryz.results123, go_sem, s0, s1]) rfl ?_
  refine ⟨⟨3, m⟩, _, _, rfl, ?_, ?_, typ_end3 HN.out.1 HN.out.2 H3.out.2.2⟩
  ·exact (H3.out.1.putN HQ.out.2 (by have := HX.out.1; have := HGZ.out; have := HX.out.2.2.2; omega)).putN HS.out.2 (by have := HX.out.1; have := HX.out.2.2.2; omega)
  ·exact ((HO.out.trans H3.out.2.1).putN HQ.out.2 (by have := HGZ.out; have := HX.out.2.2.2; omega)).putN HS.out.2 (by have := HX.out.2.2.2; omega)
 ·have e3 : (n == 3) = false := by simpa using hn3
  have hs := put2r HRG.out (.int .i64 n) (.int .i64 0)
  have HS := hidC hs
  obtain ⟨s0, s1⟩ := c2g hs.1
  obtain ⟨j0, j1⟩ := z2g HRG.out
  clear hs
  go_wp2_with fail
  refine bodyPost_ret (v := .agg #[.int .i64 n, .int .i64 0]) (by simp [results, Tryz.results123, go_sem, s0, s1]) rfl ?_
  refine ⟨⟨n, 0⟩, _, _, rfl, ?_, ?_, typ_end HN.out.1 HN.out.2 hn3⟩
  ·exact HWD.out.putN HS.out.2 (by have := HX.out.1; have := HX.out.2.2.2; omega)
  ·exact HO.out.putN HS.out.2 (by have := HX.out.2.2.2; omega)
end Go.Proofs.YtgcmnkanjcfndaaGreatDoor
namespace Go.Proofs.YtgcmnkanjcfndaaGreatDoor
open Go.RowKit
set_option linter.unusedVariables false
set_option linter.unusedSimpArgs false
theorem own_map {w : World} {B C : Nat} {t : TypeId} {k n : Nat} {v : Value} {xs : List Value} {g : Bs → Option Nat} (h : w.ownsRow B t k v n xs) (h' : MeanM w C g) : v.ownBlock ≠ some C := by
 intro hb
 rcases h.2 with ⟨rfl, _⟩ | ⟨y, cap, cur, rfl, _, hg, _⟩
 ·exact absurd (show (none : Option Nat) = some C from hb) (by simp)
 have e1 : y = C := Option.some.inj hb
 obtain ⟨_, hm⟩ := h'
 obtain ⟨es, ck, ho⟩ := hm.obj
 rw [e1, ho] at hg
 simp at hg
theorem RdA.reg {E B WB m0 m1 m2 m3 m4 : Nat} {w : World} {c : Cd} {ln st : Int} {u0 u1 u2 u3 : Value} {ws : List Bs} {b : Bool} (h : RdA E B m0 m1 m2 m3 m4 w c ln st u0 u1 u2 u3) (hw : WdM WB ws b w) (s : Ty) (hl : c.regs.length * 16 ≤ 140737488351232) (ty : TypeId) :
  ∃ g q w', (Builtin.append_ #[23, 23] ty #[u1, .slice (some ⟨w.heap.size, 0, none⟩) 1 1]).run Tryz.prog (w.alloc (.cells (tyC s).toArray 50)) = .ok (.slice (some ⟨g, 0, none⟩) (c.regs.length + 1) q) w' ∧ w'.rowIs B 67 11 (g11 u0 u1 u2 u3 (.int .i64 ln) (.int .i64 st) (.map (some m0)) (.map (some m1)) (.map (some m2)) (.map (some m3)) (.map (some m4))) ∧ RdA E B m0 m1 m2 m3 m4 (w'.setCell ⟨B, 1, none⟩ (.slice (some ⟨g, 0, none⟩) (c.regs.length + 1) q)) ⟨c.sign, c.regs ++ [s], c.slots, c.list⟩ ln st u0 (.slice (some ⟨g, 0, none⟩) (c.regs.length + 1) q) u2 u3 ∧ WdM WB ws b (w'.setCell ⟨B, 1, none⟩ (.slice (some ⟨g, 0, none⟩) (c.regs.length + 1) q)) ∧ Below E w (w'.setCell ⟨B, 1, none⟩ (.slice (some ⟨g, 0, none⟩) (c.regs.length + 1) q)) := by
 have hsz : E ≤ w.heap.size := by have := h.le; have := h.row.lt; omega
 obtain ⟨p, q, rfl⟩ := own_len h.own.regs
 obtain ⟨g, c', w', h1, h2, h3, h4⟩ := own_app (t := 23) (e := 50) Tryz.underlying23 info_Type (by rfl) (by decide) h.own.regs hsz (tyC s).toArray rfl (by intro u hu; exact tyC_one s u (by simpa using hu)) (by unfold maxLen; omega) (by omega) ty
 have hr := h.row.of_block (h4 _ h.row.lt (own_rowV h.own.regs h.row (by decide)))
 have k0 := own_keep h.own.sign fun b hb => h4 b (h.own.sign.lt b hb).2 fun e => own_other h.own.sign h.own.regs (by decide) b hb e
 have k2 := own_keep h.own.slots fun b hb => h4 b (h.own.slots.lt b hb).2 fun e => own_other h.own.slots h.own.regs (by decide) b hb e
 have k3 := own_keep h.own.list fun b hb => h4 b (h.own.list.lt b hb).2 fun e => own_other h.own.list h.own.regs (by decide) b hb e
 have km : MapsA E w' m0 m1 m2 m3 m4 := h.maps.keep fun C g hm => h4 C hm.lt (own_map h.own.regs hm)
 have hp := put11_1 hr (.slice (some ⟨g, 0, none⟩) (c.regs.length + 1) c')
 obtain ⟨T, w1, w2, w3⟩ := hw.row
 have hr3 := w3.of_block (h4 _ w3.lt (own_rowV h.own.regs w3 (by decide)))
 have hne : WB ≠ B := fun e => by
  obtain ⟨x, hx, -⟩ := h.row
  obtain ⟨y, hy, -⟩ := w3
  rw [e, hx] at hy
  have := (Obj.cells.inj (Option.some.inj hy)).2.1
  exact absurd this (by decide)
 refine ⟨g, c', w', h1, hr, ⟨h.le, hp.1, ⟨own_putV k0 hr (by decide) hp.2, ?_, own_putV k2 hr (by decide) hp.2, own_putV k3 hr (by decide) hp.2⟩, km.keep fun C g hm => hp.2.oth C (hm.no hr)⟩, ⟨⟨T, w1, w2, hr3.of_block (hp.2.oth _ hne)⟩, hw.no⟩, h2.trans (hp.2.bel E h.le)⟩
 show World.ownsRow _ _ _ _ _ (c.regs ++ [s]).length (flat tyC (c.regs ++ [s]))
 rw [List.length_append, List.length_singleton, flat_append, show flat tyC [s] = tyC s by simp [flat]]
 exact own_putV (by simpa using h3) hr (by decide) hp.2
end Go.Proofs.YtgcmnkanjcfndaaGreatDoor
namespace Go.Proofs.YtgcmnkanjcfndaaGreatDoor
open Go.RowKit
set_option linter.unusedVariables false
set_option linter.unusedSimpArgs false
def RegT (ws : List Bs) (n : Int) (c c' : Cd) (ws' : List Bs) (b' : Bool) : Prop :=
 match regLn n ws with
 | some t => ws' = [] ∧ b' = false ∧ c' = ⟨c.sign, c.regs ++ [t], c.slots, c.list⟩
 | none => ¬ (ws' = [] ∧ b' = false)
theorem reg_end {ws : List Bs} {n m : Int} {c : Cd} {t : Ty} {ws' : List Bs} {b' : Bool} (ha : (nxW ws).1 = regB) (hm : ∀ x, numW (nxW (nxW ws).2).1 = some x → m = x)
  (ht : TakT ((false || !(numW (nxW (nxW ws).2).1).isSome) || !(m == n)) (typLn (nxW (nxW ws).2).2) t ws' b') : RegT ws n c ⟨c.sign, c.regs ++ [t], c.slots, c.list⟩ ws' b' := by
 unfold RegT
 rw [reg_take ha]
 unfold TakT at ht
 by_cases hn : numW (nxW (nxW ws).2).1 = some n
 ·rw [if_pos hn]
  have e := hm n hn
  subst e
  rw [hn] at ht
  cases ht2 : typLn (nxW (nxW ws).2).2 with
  | none =>
   rw [ht2] at ht
   simp only at ht
   rw [ht]
   simp
  | some p =>
   obtain ⟨t', r⟩ := p
   rw [ht2] at ht
   simp only at ht
   obtain ⟨h1, h2, h3⟩ := ht
   subst h2 h3
   rw [Option.bind_some, all_take]
   by_cases hr : ws' = []
   ·rw [if_pos hr]
    exact ⟨hr, by rw [h1]; simp, rfl⟩
   ·rw [if_neg hr]
    exact fun q => hr q.1
 ·rw [if_neg hn]
  have hf : ((false || !(numW (nxW (nxW ws).2).1).isSome) || !(m == n)) = true := by
   cases e : numW (nxW (nxW ws).2).1 with
   | none => simp
   | some x =>
    have := hm x e
    subst this
    have : ¬ m = n := fun q => hn (by rw [e, q])
    simp [this]
  rw [hf] at ht
  have hb : b' = true := by
   cases ht2 : typLn (nxW (nxW ws).2).2 with
   | none => rw [ht2] at ht; exact ht
   | some p =>
    obtain ⟨t', r⟩ := p
    rw [ht2] at ht
    exact ht.1
  rw [hb]
  simp
end Go.Proofs.YtgcmnkanjcfndaaGreatDoor
namespace Go.Proofs.YtgcmnkanjcfndaaGreatDoor
set_option linter.unusedVariables false
set_option linter.unusedSimpArgs false
def SayT (o : Option Cd) (c' : Cd) (ws' : List Bs) (b' : Bool) : Prop :=
 match o with
 | some x => ws' = [] ∧ b' = false ∧ c' = x
 | none => ¬ (ws' = [] ∧ b' = false)
theorem SayT.bad (o : Option Cd) {c' : Cd} {ws' : List Bs} {b' : Bool} (h : o = none) (hb : b' = true) : SayT o c' ws' b' := by
 subst h hb
 exact fun h => by cases h.2
theorem reg_say {ws : List Bs} {n : Int} {c c' : Cd} {ws' : List Bs} {b' : Bool} (h : RegT ws n c c' ws' b') : SayT ((regLn n ws).map fun t => ⟨c.sign, c.regs ++ [t], c.slots, c.list⟩) c' ws' b' := by
 unfold RegT at h
 cases e : regLn n ws with
 | none => rw [e] at h; exact h
 | some t => rw [e] at h; exact h
theorem keep_mean (x : Bs) : meanA keepL 2 x = if x = keepB then some 1 else if x = localB then some 0 else none := by
 by_cases h1 : x = keepB
 ·subst h1; decide
 by_cases h2 : x = localB
 ·subst h2; decide
 simp [meanA, keepL, h1, h2]
theorem kind_mean (x : Bs) : meanA kindL 3 x = if x = complexB then some 2 else if x = realB then some 1 else none := by
 by_cases h1 : x = complexB
 ·subst h1; decide
 by_cases h2 : x = realB
 ·subst h2; decide
 simp [meanA, kindL, h1, h2]
theorem TakT.on {α : Type} {o : Option (α × List Bs)} {a : α} {ws' : List Bs} {b' : Bool} (h : TakT true o a ws' b') : b' = true := by
 unfold TakT at h
 cases o with
 | none => exact h
 | some p => exact h.1
theorem slot_end {ws : List Bs} {n m : Int} {c : Cd} {t : Ty} {s : Sl} {ws4 ws' : List Bs} {b4 b' : Bool} (ha : (nxW ws).1 = slotB) (hm : ∀ x, numW (nxW (nxW ws).2).1 = some x → m = x)
  (ht : TakT (((false || !(numW (nxW (nxW ws).2).1).isSome) || !(m == n)) || !(meanA keepL 2 (nxW (nxW (nxW ws).2).2).1).isSome) (typLn (nxW (nxW (nxW ws).2).2).2) t ws4 b4)
  (hs : s.ty = t) (hk : s.keep = decide ((meanA keepL 2 (nxW (nxW (nxW ws).2).2).1).getD 0 = 1))
  (hv : if t.kind = 2 then (∀ x, numW (nxW ws4).1 = some x → s.int_ = x) ∧ s.bits = 0 ∧ ws' = (nxW ws4).2 ∧ b' = (b4 || !(numW (nxW ws4).1).isSome) else (∀ x, hexW (nxW ws4).1 = some x → s.bits = x) ∧ s.int_ = 0 ∧ ws' = (nxW ws4).2 ∧ b' = (b4 || !(hexW (nxW ws4).1).isSome)) :
  SayT ((slotLn n ws).map fun l => ⟨c.sign, c.regs, c.slots ++ [l], c.list⟩) ⟨c.sign, c.regs, c.slots ++ [s], c.list⟩ ws' b' := by
 rw [slot_take ha]
 generalize (nxW (nxW (nxW ws).2).2).1 = K at *
 generalize (nxW (nxW (nxW ws).2).2).2 = R at *
 generalize numW (nxW (nxW ws).2).1 = N at *
 have hbb : b4 = true → b' = true := fun h => by
  by_cases q : t.kind = 2
  ·rw [if_pos q] at hv; rw [hv.2.2.2, h]; rfl
  ·rw [if_neg q] at hv; rw [hv.2.2.2, h]; rfl
 by_cases h1 : N = some n ∧ (K = keepB ∨ K = localB)
 ·rw [if_pos h1]
  obtain ⟨h1, h2⟩ := h1
  have hmn := hm n h1
  have hkm : (meanA keepL 2 K).isSome = true ∧ decide ((meanA keepL 2 K).getD 0 = 1) = decide (K = keepB) := by
   rw [keep_mean]
   rcases h2 with rfl | rfl
   ·decide
   ·decide
  rw [h1, hmn, hkm.1] at ht
  have e0 : ((false || !(some n : Option Int).isSome) || !(n == n) || !true) = false := by simp
  rw [e0] at ht
  rw [hkm.2] at hk
  cases hT : typLn R with
  | none =>
   rw [hT] at ht
   exact SayT.bad _ rfl (hbb ht)
  | some p =>
   obtain ⟨t', r⟩ := p
   rw [hT] at ht
   obtain ⟨g1, g2, g3⟩ := ht
   subst g1 g2 g3
   rw [Option.bind_some, slo_take]
   obtain ⟨st, sk, sb, si⟩ := s
   simp only at hs hk hv
   subst hs hk
   by_cases q : st.kind = 2
   ·rw [if_pos q] at hv ⊢
    obtain ⟨v1, v2, v3, v4⟩ := hv
    subst v2 v3
    by_cases hr : (nxW ws4).2 = []
    ·rw [if_pos hr]
     cases hN : numW (nxW ws4).1 with
     | none => rw [hN] at v4; exact SayT.bad _ rfl (by rw [v4]; rfl)
     | some x => rw [hN] at v4; rw [v1 x hN]; exact ⟨hr, by rw [v4]; rfl, rfl⟩
    ·rw [if_neg hr]
     exact fun h => hr h.1
   ·rw [if_neg q] at hv ⊢
    obtain ⟨v1, v2, v3, v4⟩ := hv
    subst v2 v3
    by_cases hr : (nxW ws4).2 = []
    ·rw [if_pos hr]
     cases hN : hexW (nxW ws4).1 with
     | none => rw [hN] at v4; exact SayT.bad _ rfl (by rw [v4]; rfl)
     | some x => rw [hN] at v4; rw [v1 x hN]; exact ⟨hr, by rw [v4]; rfl, rfl⟩
    ·rw [if_neg hr]
     exact fun h => hr h.1
 ·rw [if_neg h1]
  have hf : ((false || !N.isSome) || !(m == n) || !(meanA keepL 2 K).isSome) = true := by
   by_cases h2 : N = some n
   ·have h3 : ¬ (K = keepB ∨ K = localB) := fun e => h1 ⟨h2, e⟩
    have : meanA keepL 2 K = none := by rw [keep_mean, if_neg (fun e => h3 (.inl e)), if_neg (fun e => h3 (.inr e))]
    rw [this]; simp
   ·cases e : N with
    | none => simp
    | some x =>
     have hx := hm x e
     subst hx
     have : ¬ m = n := fun q => h2 (by rw [e, q])
     simp [this]
  rw [hf] at ht
  exact SayT.bad _ rfl (hbb ht.on)
theorem check_one (p : Par) : (checkP [p] = 0) ↔ mayP p = true := by
 unfold checkP
 cases h : mayP p with
 | false => simp [h]
 | true =>
  have hl : p.len ≤ 4096 ∧ (p.kind = 1 ∨ p.kind = 2) := by
   unfold mayP at h
   simp only [Bool.and_eq_true, Bool.or_eq_true, decide_eq_true_eq, beq_iff_eq] at h
   exact ⟨h.2.2, h.1.2⟩
  have ht : totP [p] ≤ 65536 := by
   have := (num_bounds p).2
   show numP p + 0 ≤ 65536
   omega
  simp [h, twiceP]
  omega
theorem par_name {p : ByteArray} {n : Bs} (h : bs p = n) : p = ⟨n.toArray⟩ := by subst h; cases p; simp [bs]
theorem par_end {ws : List Bs} {m kv : Int} {c : Cd} {p : Par} {ws' : List Bs} {b' : Bool} (h4 : 4 ≤ ws.length) (ha : (nxW ws).1 = paramB)
  (hn : bs p.name = (nxW (nxW ws).2).1) (hk : p.kind = (((meanA kindL 3 (nxW (nxW (nxW ws).2).2).1).getD 0 : Nat) : Int)) (hm : ∀ x, numW (nxW (nxW (nxW (nxW ws).2).2).2).1 = some x → p.len = x)
  (hw : ws' = (nxW (nxW (nxW (nxW ws).2).2).2).2) (hb : b' = (((false || !(meanA kindL 3 (nxW (nxW (nxW ws).2).2).1).isSome) || !(numW (nxW (nxW (nxW (nxW ws).2).2).2).1).isSome) || !(decide (checkP [p] = 0)))) :
  SayT ((parLn ws).map fun p => ⟨c.sign ++ [p], c.regs, c.slots, c.list⟩) ⟨c.sign ++ [p], c.regs, c.slots, c.list⟩ ws' b' := by
 have hpt := fun m => par_take h4 ha m _ _ _ _ rfl rfl rfl rfl
 have hpar : ∀ q, parLn ws = some q → ∃ m, q = parOf (nxW (nxW ws).2).1 (nxW (nxW (nxW ws).2).2).1 m := fun q hq => by
  unfold parLn at hq
  split at hq
  ·rename_i a n k l
   by_cases hc : a = paramB ∧ (k = realB ∨ k = complexB)
   ·rw [if_pos hc, Option.bind_eq_some_iff] at hq
    obtain ⟨m', -, h⟩ := hq
    by_cases hp : mayP (parOf n k m') = true
    ·rw [if_pos hp] at h
     exact ⟨m', (Option.some.inj h).symm⟩
    ·rw [if_neg hp] at h; cases h
   ·rw [if_neg hc] at hq; cases hq
  ·cases hq
 generalize (nxW (nxW ws).2).1 = n at *
 generalize (nxW (nxW (nxW ws).2).2).1 = k at *
 generalize (nxW (nxW (nxW (nxW ws).2).2).2).1 = l at *
 generalize (nxW (nxW (nxW (nxW ws).2).2).2).2 = r at *
 obtain ⟨pn, pk, pl⟩ := p
 simp only at hn hk hm
 have hpn := par_name hn
 by_cases hc : (k = realB ∨ k = complexB) ∧ (numW l).isSome = true
 ·obtain ⟨hc, hl⟩ := hc
  obtain ⟨x, hx⟩ := Option.isSome_iff_exists.1 hl
  have hlen := hm x hx
  subst hlen
  have hkk : (meanA kindL 3 k).isSome = true ∧ pk = if k = complexB then 2 else 1 := by
   rw [hk, kind_mean]
   rcases hc with rfl | rfl
   ·decide
   ·decide
  have hpo : (⟨pn, pk, pl⟩ : Par) = parOf n k pl := by unfold parOf; rw [hpn, hkk.2]
  rw [hkk.1, hx, hpo] at hb
  have hb2 : b' = !(decide (checkP [parOf n k pl] = 0)) := by rw [hb]; simp
  have hd : decide (checkP [parOf n k pl] = 0) = mayP (parOf n k pl) := by
   have := check_one (parOf n k pl)
   cases h : mayP (parOf n k pl) with
   | true => rw [h] at this; simpa using this
   | false => rw [h] at this; simpa using this
  rw [hd] at hb2
  rw [hpo]
  by_cases hr : mayP (parOf n k pl) = true ∧ r = []
  ·rw [(hpt pl).2 ⟨hc, hx, hr.1, hr.2⟩]
   exact ⟨by rw [hw, hr.2], by rw [hb2, hr.1]; rfl, rfl⟩
  ·have hno : parLn ws = none := none_or fun q hq => by
    obtain ⟨m', rfl⟩ := hpar q hq
    obtain ⟨_, g1, g2, g3⟩ := (hpt m').1 hq
    rw [hx] at g1
    have := Option.some.inj g1
    subst this
    exact hr ⟨g2, g3⟩
   rw [hno]
   intro h
   refine hr ⟨?_, by rw [← hw]; exact h.1⟩
   rw [hb2] at h
   simpa using h.2
 ·have hno : parLn ws = none := none_or fun q hq => by
   obtain ⟨m', rfl⟩ := hpar q hq
   obtain ⟨g0, g1, -, -⟩ := (hpt m').1 hq
   exact hc ⟨g0, by rw [g1]; rfl⟩
  refine SayT.bad _ (by rw [hno]; rfl) ?_
  rw [hb]
  by_cases h1 : k = realB ∨ k = complexB
  ·have h2 : (numW l).isSome = false := by
    cases e : (numW l).isSome with
    | false => rfl
    | true => exact absurd ⟨h1, e⟩ hc
   rw [h2]; simp
  ·have : meanA kindL 3 k = none := by rw [kind_mean, if_neg (fun e => h1 (.inr e)), if_neg (fun e => h1 (.inl e))]
   rw [this]; simp
end Go.Proofs.YtgcmnkanjcfndaaGreatDoor
