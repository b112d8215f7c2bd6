import Derived.Test.YtholhpmnicibgaaGreatMark20
import Derived.Test.YtholhpmnicibgaaGreatMark1
/- Layer 17, plainly: the state stays well through a step. -/
namespace Go.Proofs.YtholhpmnicibgaaGreat
open Go.RowKit
set_option linter.unusedVariables false
set_option linter.unusedSimpArgs false

/-- Which instruction it is. -/
theorem op_cases {op : Int} (h : knownP op = true) : isNum op = true ∨ isWhole op = true ∨ op = 29 ∨ op = 30 ∨ op = 31 ∨ op = 32 ∨ op = 33 ∨ (34 ≤ op ∧ op ≤ 37) ∨ elemP op = true := by
  unfold knownP at h
  unfold isNum isWhole elemP
  simp only [Bool.and_eq_true, Bool.or_eq_true, decide_eq_true_eq, beq_iff_eq] at h ⊢
  omega
theorem elem_not {op : Int} (h : elemP op = true) : isNum op = false ∧ isWhole op = false ∧ op ≠ 29 ∧ op ≠ 30 ∧ op ≠ 31 ∧ op ≠ 32 ∧ op ≠ 33 ∧ ¬ (34 ≤ op ∧ op ≤ 37) := by
  unfold elemP at h
  simp only [Bool.and_eq_true, decide_eq_true_eq] at h
  have : op = 3 ∨ op = 4 ∨ op = 5 ∨ op = 6 ∨ op = 7 ∨ op = 8 ∨ op = 9 ∨ op = 10 ∨ op = 11 ∨ op = 12 ∨ op = 13 ∨ op = 14 ∨ op = 15 := by omega
  rcases this with rfl | rfl | rfl | rfl | rfl | rfl | rfl | rfl | rfl | rfl | rfl | rfl | rfl <;> decide
theorem whole_not {op : Int} (h : isWhole op = true) : isNum op = false ∧ op ≠ 29 ∧ op ≠ 30 ∧ op ≠ 31 ∧ op ≠ 32 ∧ op ≠ 33 ∧ ¬ (34 ≤ op ∧ op ≤ 37) := by
  unfold isWhole at h
  simp only [Bool.or_eq_true, Bool.and_eq_true, beq_iff_eq, decide_eq_true_eq] at h
  have : op = 2 ∨ op = 18 ∨ op = 21 ∨ op = 22 ∨ op = 23 ∨ op = 24 ∨ op = 25 ∨ op = 26 ∨ op = 27 ∨ op = 28 := by omega
  rcases this with rfl | rfl | rfl | rfl | rfl | rfl | rfl | rfl | rfl | rfl <;> decide
section
variable {c : Cd} {G P : List (List Int)} {f : Fr} {i : Ins}
theorem do_is_num (h : isNum i.op = true) : doI c G P f i = { f with nums := putN f.nums i.d.toNat (numI f i) } := by unfold doI; rw [if_pos h]
theorem do_is_whole (h : isWhole i.op = true) : doI c G P f i = { f with whs := putN f.whs i.d.toNat (wholeI f i) } := by
  unfold doI; rw [(whole_not h).1, if_neg (by decide), if_pos h]
theorem do_is_29 (h : i.op = 29) : doI c G P f i = { f with vecs := putN f.vecs i.d.toNat (partP c G i) } := by
  unfold doI
  rw [h, if_neg (by decide), if_neg (by decide), if_pos rfl]
theorem do_is_30 (h : i.op = 30) : doI c G P f i = { f with vecs := putN f.vecs i.d.toNat (partP c P i) } := by
  unfold doI
  rw [h, if_neg (by decide), if_neg (by decide), if_neg (by decide), if_pos rfl]
theorem do_is_31 (h : i.op = 31) : doI c G P f i = { f with outs := outP f.outs (regT c.regs i.a).par.toNat (apartP c (regT c.regs i.a).par) i.n.toNat (f.vecs i.a.toNat) } := by
  unfold doI
  rw [h, if_neg (by decide), if_neg (by decide), if_neg (by decide), if_neg (by decide), if_pos rfl]
theorem do_is_32 (h : i.op = 32) : doI c G P f i = stP c f i.d ((f.slots[i.n.toNat]?).getD ⟨[], 0⟩) := by
  unfold doI
  rw [h, if_neg (by decide), if_neg (by decide), if_neg (by decide), if_neg (by decide), if_neg (by decide), if_pos rfl]
theorem do_is_33 (h : i.op = 33) : doI c G P f i = { f with slots := f.slots.set i.n.toNat (rdP c f i.a) } := by
  unfold doI
  rw [h, if_neg (by decide), if_neg (by decide), if_neg (by decide), if_neg (by decide), if_neg (by decide), if_neg (by decide), if_pos rfl]
theorem do_is_mark (h : 34 ≤ i.op ∧ i.op ≤ 37) : doI c G P f i = f := by
  have h0 : isNum i.op = false ∧ isWhole i.op = false := by
    have : i.op = 34 ∨ i.op = 35 ∨ i.op = 36 ∨ i.op = 37 := by omega
    rcases this with e | e | e | e <;> rw [e] <;> decide
  unfold doI
  rw [h0.1, h0.2, if_neg (by decide), if_neg (by decide), if_neg (by omega), if_neg (by omega), if_neg (by omega), if_neg (by omega), if_neg (by omega), if_pos h]
theorem do_is_elem (h : elemP i.op = true) : doI c G P f i = elemI c f i := by
  obtain ⟨h1, h2, h3, h4, h5, h6, h7, h8⟩ := elem_not h
  unfold doI
  rw [h1, h2, if_neg (by decide), if_neg (by decide), if_neg h3, if_neg h4, if_neg h5, if_neg h6, if_neg h7, if_neg h8]
end
theorem num_isP {f : Fr} {c : Cd} (ok : OkF c f) {i : Ins} (hb : IsP i.bits) : IsP (numI f i) := by
  unfold numI
  refine isP_ite (fpow_lo _ _ (ok.nums _).1 (ok.nums _).2) (isP_ite (ffrom_lo _) (isP_ite (isP_sum _ _ (isP_atL (ok.vecs _))) (isP_ite (isP_least' _ _ (isP_atL (ok.vecs _))) hb)))
theorem one01_ok (b : Bool) : 0 ≤ one01 b ∧ one01 b ≤ 2147483647 := by cases b <;> decide
theorem ite_ok {p : Prop} [Decidable p] {x y : Int} (h : p → 0 ≤ x ∧ x ≤ 2147483647) (k : ¬ p → 0 ≤ y ∧ y ≤ 2147483647) : 0 ≤ (if p then x else y) ∧ (if p then x else y) ≤ 2147483647 := by
  split
  · rename_i e; exact h e
  · rename_i e; exact k e
theorem whole_ok {f : Fr} {c : Cd} (ok : OkF c f) {i : Ins} (hw : isWhole i.op = true) (hn : i.op = 2 → 0 ≤ i.n ∧ i.n ≤ 2147483647) : 0 ≤ wholeI f i ∧ wholeI f i ≤ 2147483647 := by
  have a := ok.whs i.a.toNat
  have b := ok.whs i.b.toNat
  have d := ok.whs i.c.toNat
  unfold isWhole at hw
  simp only [Bool.or_eq_true, Bool.and_eq_true, beq_iff_eq, decide_eq_true_eq] at hw
  unfold wholeI
  refine ite_ok (fun _ => one01_ok _) fun h1 => ite_ok (fun _ => by omega) fun h2 => ite_ok (fun _ => one01_ok _) fun h3 => ite_ok (fun _ => one01_ok _) fun h4 => ite_ok (fun _ => one01_ok _) fun h5 => ite_ok (fun _ => one01_ok _) fun h6 => ite_ok (fun _ => ite_ok (fun _ => d) fun _ => b) fun h7 => ite_ok (fun _ => by omega) fun h8 => ite_ok (fun _ => ite_ok (fun _ => by decide) fun _ => ⟨Int.ediv_nonneg a.1 b.1, ?_⟩) fun h9 => hn (by omega)
  have := Int.ediv_le_self (f.whs i.b.toNat) a.1
  omega

/-- The state behind an instruction that is done. -/
theorem do_ok {c : Cd} {G P : List (List Int)} {f : Fr} {i : Ins} (hg : Good c) (ok : OkF c f) (hk : knownP i.op = true) (hb : IsP i.bits) (nd : NeedI c f i) (fg : FitV c G) (fp : FitV c P) : OkF c (doI c G P f i) := by
  have pl : ∀ L : List (List Int), FitV c L → (∀ y ∈ partP c L i, IsP y) ∧ (partP c L i).length ≤ 4096 := fun L hL => by
    refine ⟨fun y hy => ?_, by unfold partP; simp only [List.length_map, List.length_range]; exact hg.lenOf _⟩
    unfold partP at hy
    simp only [List.mem_map] at hy
    obtain ⟨k, _, rfl⟩ := hy
    refine isP_canon _ (isP_atL ?_ _)
    unfold vecAt
    cases e : L[(regT c.regs i.d).par.toNat]? with
    | none => intro y hy; cases hy
    | some l => exact hL.isP l (List.mem_of_getElem? e)
  rcases op_cases hk with h | h | h | h | h | h | h | h | h
  · rw [do_is_num h]; exact ⟨putN_all ok.nums (num_isP ok hb), ok.whs, ok.vecs, ok.vecsL, ok.slotsL, ok.slots⟩
  · rw [do_is_whole h]
    exact ⟨ok.nums, putN_all (Q := fun y : Int => 0 ≤ y ∧ y ≤ 2147483647) ok.whs (whole_ok ok h (nd.whole h).2.2.2.2.2.2), ok.vecs, ok.vecsL, ok.slotsL, ok.slots⟩
  · rw [do_is_29 h]; exact ⟨ok.nums, ok.whs, putN_all (Q := fun l : List Int => ∀ y ∈ l, IsP y) ok.vecs (pl G fg).1, putN_all (Q := fun l : List Int => l.length ≤ 4096) ok.vecsL (pl G fg).2, ok.slotsL, ok.slots⟩
  · rw [do_is_30 h]; exact ⟨ok.nums, ok.whs, putN_all (Q := fun l : List Int => ∀ y ∈ l, IsP y) ok.vecs (pl P fp).1, putN_all (Q := fun l : List Int => l.length ≤ 4096) ok.vecsL (pl P fp).2, ok.slotsL, ok.slots⟩
  · rw [do_is_31 h]; exact ⟨ok.nums, ok.whs, ok.vecs, ok.vecsL, ok.slotsL, ok.slots⟩
  · rw [do_is_32 h]
    obtain ⟨d0, d1, n0, n1, ht⟩ := nd.load h
    have hn : i.n.toNat < c.slots.length := by omega
    have hn2 : i.n.toNat < f.slots.length := by rw [ok.slotsL]; exact hn
    have hh := ok.slots i.n.toNat hn hn2
    rw [List.getElem?_eq_getElem hn2, Option.getD_some]
    exact st_ok ok hh.2.1 (by rw [hh.1]; exact hg.width _) hh.2.2
  · rw [do_is_33 h]
    obtain ⟨a0, a1, n0, n1, ht, hs⟩ := nd.store h
    have hh := rd_ok hg ok a0 a1 hs
    refine ⟨ok.nums, ok.whs, ok.vecs, ok.vecsL, by simp [ok.slotsL], fun j h1 h2 => ?_⟩
    simp only [List.getElem_set]
    split
    · rename_i e
      subst e
      have : slotT c.slots i.n = c.slots[i.n.toNat].ty := by unfold slotT; rw [List.getElem?_eq_getElem h1]; rfl
      rw [← this, ht]
      exact hh
    · exact ok.slots j h1 (by simpa using h2)
  · rw [do_is_mark h]; exact ok
  · rw [do_is_elem h]
    obtain ⟨d0, d1, a1, _⟩ := nd.elem h
    unfold elemI
    by_cases h2 : (regT c.regs i.d).kind = 2
    · rw [if_pos h2]; exact ⟨ok.nums, putN_all (Q := fun y : Int => 0 ≤ y ∧ y ≤ 2147483647) ok.whs (ok.whs _), ok.vecs, ok.vecsL, ok.slotsL, ok.slots⟩
    · rw [if_neg h2]
      obtain ⟨s1, s2⟩ := elem_shape hg ok h nd h2
      have hw := hg.width (regT c.regs i.d)
      refine st_ok ok ?_ ?_ ⟨Int.le_refl _, by show (0 : Int) ≤ 2147483647; decide⟩
      · intro y hy
        dsimp only at hy
        split at hy
        · unfold fillP at hy
          rw [List.eq_of_mem_replicate hy]
          exact isP_canon _ (isP_head s2)
        · exact s2 y hy
      · dsimp only
        split
        · unfold fillP; rw [List.length_replicate]; exact hw
        · omega
/-- What is set stays set. -/
theorem do_set {c : Cd} {G P : List (List Int)} {f : Fr} {i : Ins} (hg : Good c) (ok : OkF c f) (hk : knownP i.op = true) (nd : NeedI c f i) {r : Nat} (hr : ((rowP i.op).d = 0 ∨ r ≠ i.d.toNat) → SetOK c f r) : SetOK c (doI c G P f i) r := by
  have pl : ∀ L : List (List Int), (partP c L i).length = lenOf c (regT c.regs i.d).par := fun L => by unfold partP; simp
  have other : ∀ (f' : Fr), f'.vecs = f.vecs → ((rowP i.op).d ≠ 0 → (regT c.regs i.d).kind ≠ 3 ∧ 0 ≤ i.d) → SetOK c f' r := fun f' hv hk3 h3 => by
    rw [hv]
    refine hr ?_ h3
    by_cases e : (rowP i.op).d = 0
    · exact .inl e
    · refine .inr fun e2 => (hk3 e).1 ?_
      have := (hk3 e).2
      have e3 : (r : Int) = i.d := by omega
      rw [e3] at h3
      exact h3
  have vec : ∀ L : List (List Int), 0 ≤ i.d → (rowP i.op).d ≠ 0 → SetOK c { f with vecs := putN f.vecs i.d.toNat (partP c L i) } r := fun L h0 hd h3 => by
    by_cases e : r = i.d.toNat
    · have e3 : (r : Int) = i.d := by omega
      rw [e3]
      show (putN f.vecs i.d.toNat (partP c L i) r).length = _
      rw [e, putN_at, pl]
    · show (putN f.vecs i.d.toNat (partP c L i) r).length = _
      rw [putN_ne _ _ e]
      exact hr (.inr e) h3
  rcases op_cases hk with h | h | h | h | h | h | h | h | h
  · rw [do_is_num h]; exact other _ rfl fun _ => ⟨by rw [(nd.num h).2.2.2.2]; decide, (nd.num h).1⟩
  · rw [do_is_whole h]; exact other _ rfl fun _ => ⟨by rw [(nd.whole h).2.2.2.2.2.1]; decide, (nd.whole h).1⟩
  · rw [do_is_29 h]; exact vec G (nd.part (.inl h)).r0 (by rw [h]; decide)
  · rw [do_is_30 h]; exact vec P (nd.part (.inr h)).r0 (by rw [h]; decide)
  · rw [do_is_31 h]; exact other _ rfl fun e => absurd (by rw [h]; decide) e
  · rw [do_is_32 h]
    obtain ⟨d0, d1, n0, n1, ht⟩ := nd.load h
    have hn : i.n.toNat < c.slots.length := by omega
    have hn2 : i.n.toNat < f.slots.length := by rw [ok.slotsL]; exact hn
    have hh := ok.slots i.n.toNat hn hn2
    rw [List.getElem?_eq_getElem hn2, Option.getD_some]
    refine st_set d0 (fun h3 => ?_) fun e => hr (.inr e)
    have : slotT c.slots i.n = c.slots[i.n.toNat].ty := by unfold slotT; rw [List.getElem?_eq_getElem hn]; rfl
    rw [hh.1, ← this, ht]
    exact (good_width1 hg d0 d1 h3).2
  · rw [do_is_33 h]; exact other _ rfl fun e => absurd (by rw [h]; decide) e
  · rw [do_is_mark h]
    refine hr (.inl ?_)
    have : i.op = 34 ∨ i.op = 35 ∨ i.op = 36 ∨ i.op = 37 := by omega
    rcases this with e | e | e | e <;> rw [e] <;> decide
  · rw [do_is_elem h]
    obtain ⟨d0, d1, a1, _⟩ := nd.elem h
    unfold elemI
    by_cases h2 : (regT c.regs i.d).kind = 2
    · rw [if_pos h2]; exact other _ rfl fun _ => ⟨by rw [h2]; decide, d0⟩
    · rw [if_neg h2]
      obtain ⟨s1, s2⟩ := elem_shape hg ok h nd h2
      refine st_set d0 (fun h3 => ?_) fun e => hr (.inr e)
      have hw := (good_width1 hg d0 d1 h3)
      dsimp only
      rw [hw.2] at s1 ⊢
      split
      · unfold fillP; rw [List.length_replicate]; exact hw.2
      · omega

end Go.Proofs.YtholhpmnicibgaaGreat
/- Layer 17: blocks that are left out; one instruction, whichever it is. -/
namespace Go.Proofs.YtholhpmnicibgaaGreat
open Go.RowKit
set_option linter.unusedVariables false
set_option linter.unusedSimpArgs false

/-- What is known to be set where k blocks are left out. -/
def SkipOK (c : Cd) (s : Wk) (f : Fr) (k : Nat) : Prop :=
  (k = 0 ∧ ∀ r ∈ s.set, SetOK c f r) ∨ (∃ pre b rest, s.opens = pre ++ b :: rest ∧ b.loop = false ∧ k = (pre.filter fun x => !x.loop).length + 1 ∧ ∀ r ∈ s.set.take b.ahead, SetOK c f r)
theorem okO_at : ∀ {pre : List Bk} {b : Bk} {rest : List Bk} {n : Nat}, okO n (pre ++ b :: rest) → b.ahead ≤ n ∧ ∀ p ∈ pre, b.ahead ≤ p.ahead
  | [], b, rest, n, h => ⟨h.1, fun p hp => by cases hp⟩
  | q :: pre, b, rest, n, h => by
    obtain ⟨h1, h2⟩ := okO_at h.2
    refine ⟨Nat.le_trans h1 h.1, fun p hp => ?_⟩
    rcases List.mem_cons.1 hp with e | e
    · rw [e]; exact h1
    · exact h2 p e
theorem iaddP_none {s : Wk} {i : Ins} {r : Rw} (h : r.d = 0) : addP s i r = s := by unfold addP; rw [if_neg (fun e => e.1 h)]
theorem turn_other {s : Wk} {i : Ins} (h1 : i.op ≠ 34) (h2 : i.op ≠ 35) (h3 : i.op ≠ 36) (h4 : i.op ≠ 37) : turnP s i = s := by
  unfold turnP; rw [if_neg (by omega), if_neg (by omega)]
theorem mem_add {s : Wk} {i : Ins} {r : Rw} {x : Nat} (h : x ∈ (addP s i r).set) : x ∈ s.set ∨ (r.d ≠ 0 ∧ x = i.d.toNat) := by
  unfold addP at h
  split at h
  · rename_i e
    rcases List.mem_append.1 h with h | h
    · exact .inl h
    · simp at h; exact .inr ⟨e.1, h⟩
  · exact .inl h
theorem add_take {s : Wk} {i : Ins} {r : Rw} {n : Nat} (h : n ≤ s.set.length) : (addP s i r).set.take n = s.set.take n ∧ (addP s i r).opens = s.opens := by
  unfold addP
  split
  · exact ⟨List.take_append_of_le_length h, rfl⟩
  · exact ⟨rfl, rfl⟩
theorem step34 {s : Wk} {i : Ins} (h : i.op = 34) : stepP s i = ⟨s.set, ⟨false, i.n, s.set.length⟩ :: s.opens⟩ := by
  unfold stepP passP
  rw [iaddP_none (by rw [h]; rfl)]
  unfold turnP
  rw [if_pos (.inl h), h]
  rfl
theorem step36 {s : Wk} {i : Ins} (h : i.op = 36) : stepP s i = ⟨s.set, ⟨true, i.n, s.set.length⟩ :: s.opens⟩ := by
  unfold stepP passP
  rw [iaddP_none (by rw [h]; rfl)]
  unfold turnP
  rw [if_pos (.inr h), h]
  rfl
theorem step35 {s : Wk} {i : Ins} (h : i.op = 35 ∨ i.op = 37) : stepP s i = leaveP s := by
  unfold stepP passP
  rw [iaddP_none (by rcases h with h | h <;> rw [h] <;> rfl)]
  unfold turnP
  rw [if_neg (by omega), if_pos h]
theorem step_other {s : Wk} {i : Ins} (h1 : i.op ≠ 34) (h2 : i.op ≠ 35) (h3 : i.op ≠ 36) (h4 : i.op ≠ 37) : stepP s i = addP s i (rowP i.op) := by
  unfold stepP passP
  rw [turn_other h1 h2 h3 h4]
theorem leave_sub {s : Wk} {r : Nat} (h : r ∈ (leaveP s).set) : r ∈ s.set := by
  unfold leaveP at h
  split at h
  · dsimp only at h
    split at h
    · exact h
    · exact List.mem_of_mem_take h
  · exact h
theorem next_ok {c : Cd} {G P : List (List Int)} {s : Wk} {f : Fr} {k : Nat} {i : Ins} (hg : Good c) (oks : OkS c.regs.length s) (t : takesP c s i = true) (ok : OkF c f) (hb : IsP i.bits) (fg : FitV c G) (fp : FitV c P) (sk : SkipOK c s f k) :
    OkF c (nextI c G P (f, k) i).1 ∧ SkipOK c (stepP s i) (nextI c G P (f, k) i).1 (nextI c G P (f, k) i).2 := by
  obtain ⟨hkn, _, hst, _⟩ := takes_open t
  rcases sk with ⟨rfl, hs⟩ | ⟨pre, b, rest, ho, hbl, rfl, hs⟩
  · have nd := need_of t hs
    have hdo : OkF c (doI c G P f i) := do_ok hg ok hkn hb nd fg fp
    by_cases h34 : i.op = 34
    · rw [step34 h34]
      by_cases hz : f.whs i.a.toNat = 0
      · have e : nextI c G P (f, 0) i = (f, 1) := by
          unfold nextI
          rw [if_neg (by omega), if_pos ⟨h34, .inr hz⟩]
        rw [e]
        refine ⟨ok, .inr ⟨[], ⟨false, i.n, s.set.length⟩, s.opens, rfl, rfl, rfl, fun r hr => hs r ?_⟩⟩
        exact List.mem_of_mem_take hr
      · have e : nextI c G P (f, 0) i = (f, 0) := by
          unfold nextI
          rw [if_neg (by omega), if_neg (by simp [hz]), if_pos rfl, do_is_mark (by omega)]
        rw [e]
        exact ⟨ok, .inl ⟨rfl, hs⟩⟩
    · have e : nextI c G P (f, 0) i = (doI c G P f i, 0) := by
        unfold nextI
        rw [if_neg (by omega), if_neg (by omega), if_pos rfl]
      rw [e]
      refine ⟨hdo, .inl ⟨rfl, fun r hr => ?_⟩⟩
      by_cases h35 : i.op = 35 ∨ i.op = 37
      · rw [step35 h35] at hr
        rw [do_is_mark (by omega)]
        exact hs r (leave_sub hr)
      · by_cases h36 : i.op = 36
        · rw [step36 h36] at hr
          rw [do_is_mark (by omega)]
          exact hs r hr
        · rw [step_other h34 (by omega) h36 (by omega)] at hr
          refine do_set hg ok hkn nd fun hr2 => ?_
          rcases mem_add hr with h | ⟨h, h'⟩
          · exact hs r h
          · rcases hr2 with q | q
            · exact absurd q h
            · exact absurd h' q
  · obtain ⟨hah, hpre⟩ := okO_at (by have := oks.opens; rw [ho] at this; exact this)
    obtain ⟨K, hK⟩ : ∃ K, (pre.filter fun x => !x.loop).length = K := ⟨_, rfl⟩
    rw [hK]
    by_cases h34 : i.op = 34
    · have e : nextI c G P (f, K + 1) i = (f, K + 2) := by
        unfold nextI
        rw [if_neg (by omega), if_pos ⟨h34, .inl (by show 0 < K + 1; omega)⟩]
      rw [e, step34 h34]
      refine ⟨ok, .inr ⟨⟨false, i.n, s.set.length⟩ :: pre, b, rest, by rw [ho]; rfl, hbl, ?_, hs⟩⟩
      rw [List.filter_cons_of_pos rfl, List.length_cons, hK]
    · by_cases h35 : i.op = 35
      · have e : nextI c G P (f, K + 1) i = (f, K) := by
          unfold nextI
          rw [if_pos ⟨by show 0 < K + 1; omega, h35⟩]
          rfl
        rw [e, step35 (.inl h35)]
        refine ⟨ok, ?_⟩
        have hnl : inLoop s = false := by
          unfold mayStandP at hst
          rw [if_neg (by omega), if_pos h35] at hst
          simp only [Bool.and_eq_true, Bool.not_eq_true'] at hst
          exact hst.2
        unfold inLoop at hnl
        unfold leaveP
        rw [ho] at hnl ⊢
        cases pre with
        | nil =>
          simp only [List.nil_append] at hnl ⊢
          simp at hK
          refine .inl ⟨hK.symm, fun r hr => hs r ?_⟩
          rw [hbl] at hr
          simpa using hr
        | cons p pre =>
          simp only [List.cons_append] at hnl ⊢
          have hp := hpre p (by simp)
          refine .inr ⟨pre, b, rest, rfl, hbl, ?_, fun r hr => hs r ?_⟩
          · rw [List.filter_cons_of_pos (by rw [hnl]; rfl), List.length_cons] at hK
            omega
          · rw [hnl] at hr
            simp only [Bool.false_eq_true, if_false, List.take_take] at hr
            rw [Nat.min_eq_left hp] at hr
            exact hr
      · have e : nextI c G P (f, K + 1) i = (f, K + 1) := by
          unfold nextI
          rw [if_neg (by omega), if_neg (by omega), if_neg (by show ¬ (K + 1 = 0); omega)]
        rw [e]
        refine ⟨ok, ?_⟩
        by_cases h36 : i.op = 36
        · rw [step36 h36]
          refine .inr ⟨⟨true, i.n, s.set.length⟩ :: pre, b, rest, by rw [ho]; rfl, hbl, ?_, hs⟩
          rw [List.filter_cons_of_neg (by simp), hK]
        · by_cases h37 : i.op = 37
          · rw [step35 (.inr h37)]
            have hnl : inLoop s = true := by
              unfold mayStandP at hst
              rw [if_neg (by omega), if_neg (by omega), if_pos h37] at hst
              exact hst
            unfold inLoop at hnl
            unfold leaveP
            rw [ho] at hnl ⊢
            cases pre with
            | nil =>
              simp only [List.nil_append] at hnl
              rw [hbl] at hnl
              cases hnl
            | cons p pre =>
              simp only [List.cons_append] at hnl ⊢
              refine .inr ⟨pre, b, rest, rfl, hbl, ?_, fun r hr => hs r ?_⟩
              · rw [List.filter_cons_of_neg (by rw [hnl]; decide)] at hK
                omega
              · rw [hnl] at hr
                simpa using hr
          · rw [step_other h34 h35 h36 h37]
            obtain ⟨h1, h2⟩ := add_take (i := i) (r := rowP i.op) hah
            exact .inr ⟨pre, b, rest, by rw [h2]; exact ho, hbl, by rw [hK], fun r hr => hs r (by rw [h1] at hr; exact hr)⟩

theorem do_any {T : Nat → Prop} {E E' : Nat} {a : Lay} {c : Cd} {G P : List (List Int)} {X : Nat → Value} {M : Nat} {m : Nat → Option Value} {f : Fr} (w : World) (x : FX T E E' a c G P w) (h : FV T E E' a c w X M m f) (hg : Good c) (ok : OkF c f) (hM : M ≤ 1000000) (ib io : Nat) (i : Ins) (hi : InsT (mutT T E E') w ib io i)
    (hk : knownP i.op = true) (nd : NeedI c f i) (fg : FitV c G) (fp : FitV c P) :
    Calls Tryz.prog 48 #[.pointer (some ⟨a.FR, 0, none⟩), .pointer (some ⟨ib, io, none⟩)] w fun e w' => e = .returned (.tuple #[]) ∧ StepOK T E E' a c G P M (doI c G P f i) w w' := by
  rcases op_cases hk with e | e | e | e | e | e | e | e | e
  · obtain ⟨h1, h2, h3, h4, _⟩ := nd.num e
    rw [do_is_num e]; exact do_num w x h hg ok ib io i hi e h1 h2 h3 h4
  · obtain ⟨h1, h2, h3, h4, h5, _⟩ := nd.whole e
    rw [do_is_whole e]; exact do_whole w x h hg ok ib io i hi e h1 h2 h3 h4 h5
  · rw [do_is_29 e]; exact do_grad w x h hg ok hM ib io i hi e fg (nd.part (.inl e))
  · rw [do_is_30 e]; exact do_param w x h hg ok hM ib io i hi e fp (nd.part (.inr e))
  · rw [do_is_31 e]; exact do_out w x h hg ok hM ib io i hi e (nd.out e).1 (nd.out e).2
  · obtain ⟨h1, h2, h3, h4, h5⟩ := nd.load e
    rw [do_is_32 e]
    refine do_load w x h hg ok hM ib io i hi e h1 h2 h3 h4 fun k1 hh he => ?_
    have hn : i.n.toNat < c.slots.length := by omega
    have hn2 : i.n.toNat < f.slots.length := by rw [ok.slotsL]; exact hn
    have hq := ok.slots i.n.toNat hn hn2
    rw [List.getElem?_eq_getElem hn2] at he
    have : slotT c.slots i.n = c.slots[i.n.toNat].ty := by unfold slotT; rw [List.getElem?_eq_getElem hn]; rfl
    rw [← this, h5] at hq
    intro e2
    have h9 := hq.1
    unfold widthP at h9
    rw [if_neg (by omega), if_pos k1] at h9
    simp only [Option.some.injEq] at he
    rw [he, e2] at h9
    cases h9
  · obtain ⟨h1, h2, h3, h4, h5, h6⟩ := nd.store e
    rw [do_is_33 e]; exact do_store w x h hg ok hM ib io i hi e h1 h2 h3 h4
  · rw [do_is_mark e]; exact do_mark w x h hg ok hM ib io i hi e
  · rw [do_is_elem e]
    obtain ⟨h1, h2, h3, _⟩ := nd.elem e
    by_cases hk2 : (regT c.regs i.d).kind = 2
    · exact do_elem w x h hg ok hM ib io i hi e _ (elem_whole w x h hg ib io i hi h1 h2 h3.1 h3.2 hk2)
    · obtain ⟨h4, h5, _⟩ := elem_args hg ok e nd hk2
      exact do_elem w x h hg ok hM ib io i hi e _ (elem_rest w x h hg ok hM ib io i hi e h1 h2 hk2 h4 h5)

end Go.Proofs.YtholhpmnicibgaaGreat
/- Layer 16, plainly: beginnings; an instruction that is left out. No program in it. -/
namespace Go.Proofs.YtholhpmnicibgaaGreat
set_option linter.unusedVariables false
set_option linter.unusedSimpArgs false

def runP : Wk → List Ins → Wk
  | s, [] => s
  | s, i :: r => runP (stepP s i) r
def takenP (c : Cd) : Wk → List Ins → Bool
  | _, [] => true
  | s, i :: r => takesP c s i && takenP c (stepP s i) r
theorem goP_ok {c : Cd} : ∀ {l : List Ins} {s : Wk} {k : Nat}, (goP c s k l).1 = 0 ↔ takenP c s l = true ∧ (runP s l).opens.isEmpty = true
  | [], s, k => by
    simp only [goP, takenP, runP, true_and]
    by_cases h : s.opens.isEmpty = true
    · simp [h]
    · simp [h]
  | i :: l, s, k => by
    simp only [goP, takenP, runP, Bool.and_eq_true]
    by_cases h : takesP c s i = true
    · rw [if_pos h, goP_ok (k := k + 1)]
      simp [h]
    · rw [if_neg h]
      simp [h]
theorem takenP_list (c : Cd) (x : List Ins) : ∀ (l : List Ins) (s : Wk), takenP ⟨c.sign, c.regs, c.slots, x⟩ s l = takenP c s l
  | [], s => rfl
  | i :: l, s => by simp only [takenP, takenP_list c x l]; rfl
/-- A code that is taken: what stands ahead is well, every instruction is taken, no block is open. -/
theorem checkC_ok {c : Cd} : (checkC c).1 = 0 ↔ aheadP c = 0 ∧ takenP c ⟨[], []⟩ c.list = true ∧ (runP ⟨[], []⟩ c.list).opens.isEmpty = true := by
  unfold checkC
  by_cases h : aheadP c = 0
  · rw [if_neg (by simp [h]), goP_ok]; simp [h]
  · rw [if_pos h]; simp [h]

end Go.Proofs.YtholhpmnicibgaaGreat
