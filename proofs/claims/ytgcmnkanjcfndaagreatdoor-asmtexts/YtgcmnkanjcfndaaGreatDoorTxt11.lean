import Derived.Test.YtgcmnkanjcfndaaGreatDoorTxt10
import Derived.Shelf.LaysM
import Derived.Shelf.LaysC
import Derived.Shelf.Strconv.Itoa3
import Derived.Shelf.Strconv.AtoiAll
import Derived.Shelf.Strings.Cut
import Derived.Shelf.Strings.Split
import Derived.Test.YtgcmnkanjcfndaaGreatDoorProg
import Derived.Test.YtgcmnkanjcfndaaGreatDoorTxt7
import Derived.WalkSmall
namespace Go.Proofs.YtgcmnkanjcfndaaGreatDoor
set_option linter.unusedVariables false
set_option linter.unusedSimpArgs false
def regsT : Nat → List Ty → List (List Bs)
 | _, [] => []
 | n, t :: r => regWs (n : Int) t :: regsT (n + 1) r
def slotsT : Nat → List Sl → List (List Bs)
 | _, [] => []
 | n, s :: r => slotWs (n : Int) s :: slotsT (n + 1) r
theorem regsT_snoc : ∀ (l : List Ty) (n : Nat) (t : Ty), regsT n (l ++ [t]) = regsT n l ++ [regWs ((n + l.length : Nat) : Int) t]
 | [], n, t => by simp [regsT]
 | a :: l, n, t => by
  simp only [List.cons_append, regsT, regsT_snoc l (n + 1) t, List.length_cons]
  rw [show n + 1 + l.length = n + (l.length + 1) by omega]
theorem slotsT_snoc : ∀ (l : List Sl) (n : Nat) (t : Sl), slotsT n (l ++ [t]) = slotsT n l ++ [slotWs ((n + l.length : Nat) : Int) t]
 | [], n, t => by simp [slotsT]
 | a :: l, n, t => by
  simp only [List.cons_append, slotsT, slotsT_snoc l (n + 1) t, List.length_cons]
  rw [show n + 1 + l.length = n + (l.length + 1) by omega]
def bodyW (c : Cd) : List (List Bs) := c.sign.map parWs ++ (regsT 0 c.regs ++ (slotsT 0 c.slots ++ c.list.map insWs))
def textL (c : Cd) : List Bs := headB :: (bodyW c).map joinW
def textA (c : Cd) : Bs := (textL c).flatMap fun x => x ++ [10]
def orLn {α β : Type} (x : Option α) (f : α → β) (y : Option β) : Option β := match x with | some a => some (f a) | none => y
def stepW (s : Nat × Cd) (w : List Bs) : Option (Nat × Cd) :=
 orLn (if s.1 = 0 then parLn w else none) (fun p => (0, ⟨s.2.sign ++ [p], s.2.regs, s.2.slots, s.2.list⟩))
 (orLn (if s.1 ≤ 1 then regLn (s.2.regs.length : Int) w else none) (fun t => (1, ⟨s.2.sign, s.2.regs ++ [t], s.2.slots, s.2.list⟩))
 (orLn (if s.1 ≤ 2 then slotLn (s.2.slots.length : Int) w else none) (fun l => (2, ⟨s.2.sign, s.2.regs, s.2.slots ++ [l], s.2.list⟩))
 (orLn (insLn w) (fun i => (3, ⟨s.2.sign, s.2.regs, s.2.slots, s.2.list ++ [i]⟩)) none)))
def goA : Nat × Cd → Nat → List Bs → Except Nat (Nat × Cd)
 | s, _, [] => .ok s
 | s, n, l :: r => match stepW s (wordsA [] l) with | some s' => goA s' (n + 1) r | none => .error n
def noC : Cd := ⟨[], [], [], []⟩
def lineA (L : Int) (c : Cd) (p : Int) : Int := if isPl p c.list.length = true then L - (c.list.length : Int) + p + 1 else 0
def endA (ls : List Bs) (rest : Bs) : Except Nat (Nat × Cd) → Cd × Int × Int
 | .error n => (noC, 250, (n : Int))
 | .ok s => if rest ≠ [] then (noC, 250, (ls.length : Int) + 2) else if (checkC s.2).1 ≠ 0 then (noC, 160, lineA ((ls.length : Int) + 1) s.2 (checkC s.2).2) else (s.2, 0, 0)
def afterA (rest : Bs) : List Bs → Cd × Int × Int
 | [] => (noC, 250, 1)
 | h :: ls => if h ≠ headB then (noC, 250, 1) else endA ls rest (goA (0, noC) 2 ls)
def parseA (t : Bs) : Cd × Int × Int := if 4194304 < t.length then (noC, 2, 0) else afterA (cutN [] t).2 (cutN [] t).1
theorem WordB.of {s : Bs} (h : s.all (fun b => nb b != 32 && nb b != 10) = true) : WordB s := fun b hb => by
 have := List.all_eq_true.1 h b hb
 simpa using this
theorem par_words {p : Par} (h : mayP p = true) : ∀ w ∈ parWs p, WordB w := by
 obtain ⟨⟨_, hn⟩, hk, _, _⟩ := par_parts h
 intro w hw
 simp only [parWs, List.mem_cons, List.not_mem_nil, or_false] at hw
 rcases hw with rfl | rfl | rfl | rfl
 ·exact WordB.of (by decide)
 ·exact fun b hb => ⟨(pin_ne (hn b hb)).1, (pin_ne (hn b hb)).2.1⟩
 ·unfold kindT
  split
  ·exact WordB.of (by decide)
  ·exact WordB.of (by decide)
 ·exact num_word _
theorem typ_words (t : Ty) : ∀ w ∈ typWs t, WordB w := by
 intro w hw
 unfold typWs at hw
 split at hw
 ·rw [List.mem_singleton.1 hw]; exact WordB.of (by decide)
 ·split at hw
  ·rw [List.mem_singleton.1 hw]; exact WordB.of (by decide)
  ·simp only [List.mem_cons, List.not_mem_nil, or_false] at hw
   rcases hw with rfl | rfl
   ·exact WordB.of (by decide)
   ·exact num_word _
theorem reg_words (n : Int) (t : Ty) : ∀ w ∈ regWs n t, WordB w := by
 intro w hw
 rcases List.mem_cons.1 hw with rfl | hw
 ·exact WordB.of (by decide)
 rcases List.mem_cons.1 hw with rfl | hw
 ·exact num_word _
 ·exact typ_words t w hw
theorem slot_words (n : Int) (s : Sl) : ∀ w ∈ slotWs n s, WordB w := by
 intro w hw
 rcases List.mem_cons.1 hw with rfl | hw
 ·exact WordB.of (by decide)
 rcases List.mem_cons.1 hw with rfl | hw
 ·exact num_word _
 rcases List.mem_cons.1 hw with rfl | hw
 ·split
  ·exact WordB.of (by decide)
  ·exact WordB.of (by decide)
 rcases List.mem_append.1 hw with hw | hw
 ·exact typ_words _ w hw
 ·rw [List.mem_singleton.1 hw]
  split
  ·exact num_word _
  ·exact hex_word _
theorem rg_word (n : Int) : WordB (rgT n) := fun b hb => by
 rcases List.mem_cons.1 hb with rfl | hb
 ·exact ⟨by decide, by decide⟩
 ·exact num_word n b hb
theorem fld_words (l n : Int) : ∀ w ∈ fldWs l n, WordB w := by
 intro w hw
 unfold fldWs at hw
 split at hw
 ·cases hw
 ·rw [List.mem_singleton.1 hw]; exact rg_word n
theorem end_words (l n b : Int) : ∀ w ∈ endWs l n b, WordB w := by
 intro w hw
 unfold endWs at hw
 split at hw
 ·rw [List.mem_singleton.1 hw]; exact hex_word b
 ·split at hw
  ·cases hw
  ·rw [List.mem_singleton.1 hw]; exact num_word n
theorem ins_words {i : Ins} (h : okIn i) : ∀ w ∈ insWs i, WordB w := by
 obtain ⟨⟨h1, h2⟩, _⟩ := h
 intro w hw
 rcases List.mem_cons.1 hw with rfl | hw
 ·obtain ⟨k, hk⟩ : ∃ k : Nat, i.op = (k : Int) + 1 := ⟨(i.op - 1).toNat, by omega⟩
  rw [hk]
  exact WordB.of (op_word k (by omega))
 rcases List.mem_append.1 hw with hw | hw
 ·exact fld_words _ _ w hw
 rcases List.mem_append.1 hw with hw | hw
 ·exact fld_words _ _ w hw
 rcases List.mem_append.1 hw with hw | hw
 ·exact fld_words _ _ w hw
 rcases List.mem_append.1 hw with hw | hw
 ·exact fld_words _ _ w hw
 ·exact end_words _ _ _ w hw
theorem op_not : ∀ k : Nat, k < 37 → opT ((k : Int) + 1) ≠ regB ∧ opT ((k : Int) + 1) ≠ slotB ∧ (opT ((k : Int) + 1) = paramB → k = 29) := by decide +kernel
theorem none_or {α : Type} {x : Option α} (h : ∀ a, x ≠ some a) : x = none := by
 cases x with
 | none => rfl
 | some a => exact absurd rfl (h a)
theorem reg_par (n : Int) (t : Ty) : parLn (regWs n t) = none := none_or fun p h => by
 have e := (par_out h).2
 unfold regWs parWs at e
 exact absurd (List.cons.inj e).1 (by decide)
theorem slot_par (n : Int) (s : Sl) : parLn (slotWs n s) = none := none_or fun p h => by
 have e := (par_out h).2
 unfold slotWs parWs at e
 exact absurd (List.cons.inj e).1 (by decide)
theorem slot_reg (n m : Int) (s : Sl) : regLn m (slotWs n s) = none := none_or fun p h => by
 have e := (reg_out h).2
 unfold slotWs regWs at e
 exact absurd (List.cons.inj e).1 (by decide)
theorem ins_par {i : Ins} (hi : okIn i) : parLn (insWs i) = none := none_or fun p h => by
 have e := (par_out h).2
 obtain ⟨⟨h1, h2⟩, _⟩ := hi
 obtain ⟨k, hk⟩ : ∃ k : Nat, i.op = (k : Int) + 1 := ⟨(i.op - 1).toNat, by omega⟩
 unfold insWs parWs at e
 obtain ⟨e1, e2⟩ := List.cons.inj e
 rw [hk] at e1 e2
 have h3 := (op_not k (by omega)).2.2 e1
 subst h3
 have hr : rowP (((29 : Nat) : Int) + 1) = ⟨3, 0, 0, 0, 9⟩ := by decide
 have h4 := congrArg List.length e2
 rw [hr] at h4
 simp [fldWs, endWs] at h4
theorem ins_reg {i : Ins} (n : Int) (hi : okIn i) : regLn n (insWs i) = none := none_or fun p h => by
 have e := (reg_out h).2
 obtain ⟨⟨h1, h2⟩, _⟩ := hi
 obtain ⟨k, hk⟩ : ∃ k : Nat, i.op = (k : Int) + 1 := ⟨(i.op - 1).toNat, by omega⟩
 unfold insWs regWs at e
 have e1 := (List.cons.inj e).1
 rw [hk] at e1
 exact (op_not k (by omega)).1 e1
theorem ins_slot {i : Ins} (n : Int) (hi : okIn i) : slotLn n (insWs i) = none := none_or fun p h => by
 have e := (slot_out h).2
 obtain ⟨⟨h1, h2⟩, _⟩ := hi
 obtain ⟨k, hk⟩ : ∃ k : Nat, i.op = (k : Int) + 1 := ⟨(i.op - 1).toNat, by omega⟩
 unfold insWs slotWs at e
 have e1 := (List.cons.inj e).1
 rw [hk] at e1
 exact (op_not k (by omega)).2.1 e1
theorem go_app : ∀ (l m : List Bs) (s s' : Nat × Cd) (n : Nat), goA s n l = .ok s' → goA s n (l ++ m) = goA s' (n + l.length) m
 | [], m, s, s', n, h => by cases h; rfl
 | a :: l, m, s, s', n, h => by
  have h : (match stepW s (wordsA [] a) with | some s' => goA s' (n + 1) l | none => .error n) = .ok s' := h
  show (match stepW s (wordsA [] a) with | some s' => goA s' (n + 1) (l ++ m) | none => .error n) = _
  cases hs : stepW s (wordsA [] a) with
  | none => rw [hs] at h; cases h
  | some s1 =>
   rw [hs] at h
   show goA s1 (n + 1) (l ++ m) = _
   rw [go_app l m s1 s' (n + 1) h, List.length_cons, show n + 1 + l.length = n + (l.length + 1) by omega]
theorem go_one {s s' : Nat × Cd} {w : List Bs} {r : List Bs} {n : Nat} (h0 : w ≠ []) (hw : ∀ x ∈ w, WordB x) (h : stepW s w = some s') : goA s n (joinW w :: r) = goA s' (n + 1) r := by
 show (match stepW s (wordsA [] (joinW w)) with | some s' => goA s' (n + 1) r | none => .error n) = _
 rw [words_join w h0 hw, h]
theorem go_pars : ∀ (ps : List Par) (c : Cd) (n : Nat), (∀ p ∈ ps, mayP p = true) → goA (0, c) n ((ps.map parWs).map joinW) = .ok (0, ⟨c.sign ++ ps, c.regs, c.slots, c.list⟩)
 | [], c, n, _ => by rw [List.append_nil]; rfl
 | p :: ps, c, n, h => by
  have hp := h p (by simp)
  rw [List.map_cons, List.map_cons, go_one (s' := (0, ⟨c.sign ++ [p], c.regs, c.slots, c.list⟩)) (by simp [parWs]) (par_words hp) (by unfold stepW; rw [if_pos rfl, par_in hp]; rfl), go_pars ps _ (n + 1) (fun q hq => h q (List.mem_cons_of_mem _ hq))]
  simp
theorem go_regs : ∀ (ts : List Ty) (st : Nat) (c : Cd) (n : Nat), st ≤ 1 → c.regs.length + ts.length ≤ 2147483647 → (∀ t ∈ ts, okTy t) → ∃ st', st' ≤ 1 ∧ goA (st, c) n ((regsT c.regs.length ts).map joinW) = .ok (st', ⟨c.sign, c.regs ++ ts, c.slots, c.list⟩)
 | [], st, c, n, hs, _, _ => ⟨st, hs, by rw [List.append_nil]; rfl⟩
 | t :: ts, st, c, n, hs, hl, h => by
  rw [List.length_cons] at hl
  obtain ⟨st', h1, h2⟩ := go_regs ts 1 ⟨c.sign, c.regs ++ [t], c.slots, c.list⟩ (n + 1) (by omega) (by simp only [List.length_append, List.length_singleton]; omega) (fun q hq => h q (List.mem_cons_of_mem _ hq))
  refine ⟨st', h1, ?_⟩
  have hst : stepW (st, c) (regWs (c.regs.length : Int) t) = some (1, ⟨c.sign, c.regs ++ [t], c.slots, c.list⟩) := by
   unfold stepW
   rw [reg_par]
   simp only [ite_self]
   rw [if_pos hs, reg_in (by omega) (by omega) (h t (by simp))]
   rfl
  simp only [regsT, List.map_cons]
  rw [go_one (by simp [regWs]) (reg_words _ t) hst]
  have e : (c.regs ++ [t]).length = c.regs.length + 1 := by simp
  simp only [e] at h2
  rw [h2]
  simp
theorem go_slots : ∀ (ts : List Sl) (st : Nat) (c : Cd) (n : Nat), st ≤ 2 → c.slots.length + ts.length ≤ 2147483647 → (∀ t ∈ ts, okSl t) → ∃ st', st' ≤ 2 ∧ goA (st, c) n ((slotsT c.slots.length ts).map joinW) = .ok (st', ⟨c.sign, c.regs, c.slots ++ ts, c.list⟩)
 | [], st, c, n, hs, _, _ => ⟨st, hs, by rw [List.append_nil]; rfl⟩
 | t :: ts, st, c, n, hs, hl, h => by
  rw [List.length_cons] at hl
  obtain ⟨st', h1, h2⟩ := go_slots ts 2 ⟨c.sign, c.regs, c.slots ++ [t], c.list⟩ (n + 1) (by omega) (by simp only [List.length_append, List.length_singleton]; omega) (fun q hq => h q (List.mem_cons_of_mem _ hq))
  refine ⟨st', h1, ?_⟩
  have hst : stepW (st, c) (slotWs (c.slots.length : Int) t) = some (2, ⟨c.sign, c.regs, c.slots ++ [t], c.list⟩) := by
   unfold stepW
   rw [slot_par, slot_reg]
   simp only [ite_self]
   rw [if_pos hs, slot_in (by omega) (by omega) (h t (by simp))]
   rfl
  simp only [slotsT, List.map_cons]
  rw [go_one (by simp [slotWs]) (slot_words _ t) hst]
  have e : (c.slots ++ [t]).length = c.slots.length + 1 := by simp
  simp only [e] at h2
  rw [h2]
  simp
theorem go_list : ∀ (is_ : List Ins) (st : Nat) (c : Cd) (n : Nat), (∀ i ∈ is_, okIn i) → ∃ st', goA (st, c) n ((is_.map insWs).map joinW) = .ok (st', ⟨c.sign, c.regs, c.slots, c.list ++ is_⟩)
 | [], st, c, n, _ => ⟨st, by rw [List.append_nil]; rfl⟩
 | i :: r, st, c, n, h => by
  have hi := h i (by simp)
  obtain ⟨st', h2⟩ := go_list r 3 ⟨c.sign, c.regs, c.slots, c.list ++ [i]⟩ (n + 1) (fun q hq => h q (List.mem_cons_of_mem _ hq))
  refine ⟨st', ?_⟩
  have hst : stepW (st, c) (insWs i) = some (3, ⟨c.sign, c.regs, c.slots, c.list ++ [i]⟩) := by
   unfold stepW
   rw [ins_par hi, ins_reg _ hi, ins_slot _ hi]
   simp only [ite_self]
   rw [ins_in hi]
   rfl
  rw [List.map_cons, List.map_cons, go_one (by simp [insWs]) (ins_words hi) hst, h2]
  simp
end Go.Proofs.YtgcmnkanjcfndaaGreatDoor
namespace Go.Proofs.YtgcmnkanjcfndaaGreatDoor
open Go.Lib (decDigits)
set_option linter.unusedVariables false
set_option linter.unusedSimpArgs false
theorem ok_ty {t : Ty} {n : Nat} (h : typeMay t n = true) (hn : n ≤ 1000000) : okTy t := by
 unfold typeMay at h
 by_cases h1 : t.kind = 1 ∨ t.kind = 2
 ·rw [if_pos h1] at h
  have hp : t.par = 0 := by simpa using h
  rcases h1 with q | q
  ·exact .inl ⟨q, hp⟩
  ·exact .inr (.inl ⟨q, hp⟩)
 ·rw [if_neg h1] at h
  by_cases h3 : t.kind = 3
  ·rw [if_pos h3] at h
   have := isPl_v.1 h
   exact .inr (.inr ⟨h3, by omega, by omega⟩)
  ·rw [if_neg h3] at h; cases h
theorem ok_sl {s : Sl} {n : Nat} (h : slotMay s n = true) (hn : n ≤ 1000000) (hb : 0 ≤ s.bits ∧ s.bits < 4294967296) : okSl s := by
 unfold slotMay begins at h
 simp only [Bool.and_eq_true] at h
 refine ⟨ok_ty h.1 hn, ?_⟩
 have h2 := h.2
 by_cases hk : s.ty.kind = 2
 ·rw [if_pos hk] at h2 ⊢
  unfold Go.Proofs.YtgcmnkanjcfndaaGreatDoor.wholeB at h2
  simpa using h2
 ·rw [if_neg hk] at h2 ⊢
  simp only [Bool.and_eq_true, beq_iff_eq] at h2
  exact ⟨h2.1, hb⟩
theorem ok_f {rs : List Ty} {l n : Int} {m : Ty} (h : fitsReg rs l n m = true) (hl : rs.length ≤ 1000000) : okF l n := by
 unfold okF
 by_cases h0 : l = 0
 ·rw [if_pos h0]
  unfold fitsReg at h
  rw [if_pos h0] at h
  simpa using h
 ·rw [if_neg h0]
  have := isPl_v.1 (fits_d h h0)
  omega
theorem row_n : ∀ n : Nat, n < 38 → (rowP (n : Int)).n = 0 ∨ (rowP (n : Int)).n = 7 ∨ (rowP (n : Int)).n = 8 ∨ (rowP (n : Int)).n = 9 ∨ (rowP (n : Int)).n = 10 ∨ (rowP (n : Int)).n = 11 := by decide +kernel
theorem ok_e {c : Cd} {i : Ins} {l : Int} {m : Ty} (hl : l = 0 ∨ l = 7 ∨ l = 8 ∨ l = 9 ∨ l = 10 ∨ l = 11) (h : fitsRest c i l m = true) (h1 : c.slots.length ≤ 1000000) (h2 : c.sign.length ≤ 1000000) (hb : 0 ≤ i.bits ∧ i.bits < 4294967296) : okE l i.n i.bits := by
 unfold fitsRest at h
 unfold okE
 by_cases h7 : l = 7
 ·rw [if_pos h7] at h ⊢
  simp only [Bool.and_eq_true, beq_iff_eq] at h
  exact ⟨h.1, hb⟩
 ·rw [if_neg h7] at h ⊢
  simp only [Bool.and_eq_true, beq_iff_eq] at h
  obtain ⟨hz, hf⟩ := h
  unfold fitsN at hf
  by_cases h0 : l = 0
  ·rw [if_pos h0]
   rw [if_neg (by omega), if_neg (by omega), if_neg (by omega), if_neg (by omega)] at hf
   exact ⟨by simpa using hf, hz⟩
  ·rw [if_neg h0]
   refine ⟨hz, ?_⟩
   rcases hl with q | q | q | q | q | q
   ·exact absurd q h0
   ·exact absurd q h7
   ·rw [if_pos q] at hf
    unfold Go.Proofs.YtgcmnkanjcfndaaGreatDoor.wholeB at hf
    simpa using hf
   ·rw [if_neg (by omega), if_pos q] at hf
    simp only [Bool.or_eq_true, Bool.and_eq_true, beq_iff_eq] at hf
    omega
   ·rw [if_neg (by omega), if_neg (by omega), if_pos q] at hf
    simp only [Bool.and_eq_true] at hf
    have := isPl_v.1 hf.1
    omega
   ·rw [if_neg (by omega), if_neg (by omega), if_neg (by omega), if_pos q] at hf
    have := isPl_v.1 hf
    omega
theorem ok_in {c : Cd} {s : Wk} {i : Ins} (h : Tk c s i) (hA : Ah c) (hs : c.sign.length ≤ 1000000) (hb : 0 ≤ i.bits ∧ i.bits < 4294967296) : okIn i := by
 have h1 := hA.regs
 have h2 := hA.slots
 obtain ⟨N, hN⟩ : ∃ N : Nat, i.op = (N : Int) := ⟨i.op.toNat, by have := h.known; omega⟩
 exact ⟨h.known, ok_f h.d (by omega), ok_f h.a (by omega), ok_f h.b (by omega), ok_f h.e (by omega), ok_e (by rw [hN]; exact row_n N (by have := h.known; omega)) h.n (by omega) hs hb⟩
theorem ok_ins (c : Cd) (hA : Ah c) (hs : c.sign.length ≤ 1000000) : ∀ (l : List Ins) (s : Wk), takenP c s l = true → (∀ i ∈ l, 0 ≤ i.bits ∧ i.bits < 4294967296) → ∀ i ∈ l, okIn i
 | [], _, _, _, i, hi => by cases hi
 | j :: l, s, h, hb, i, hi => by
  simp only [takenP, Bool.and_eq_true] at h
  rcases List.mem_cons.1 hi with rfl | hi
  ·exact ok_in (tk_iff.1 h.1) hA hs (hb _ (by simp))
  ·exact ok_ins c hA hs l _ h.2 (fun k hk => hb k (List.mem_cons_of_mem _ hk)) i hi
def wl (ws : List Bs) : Nat := (ws.map fun w => w.length + 1).sum
theorem join_len : ∀ ws : List Bs, (joinW ws).length ≤ wl ws
 | [] => Nat.zero_le _
 | [a] => by simp [joinW, wl]
 | a :: b :: r => by
  have := join_len (b :: r)
  simp only [joinW, List.length_append, List.length_cons, wl, List.map_cons, List.sum_cons] at this ⊢
  omega
theorem wl_app (a b : List Bs) : wl (a ++ b) = wl a + wl b := by simp [wl]
theorem wl_cons (a : Bs) (b : List Bs) : wl (a :: b) = a.length + 1 + wl b := by simp [wl]
theorem text_len : ∀ (ls : List (List Bs)) (B : Nat), (∀ w ∈ ls, wl w ≤ B) → ((ls.map joinW).flatMap fun x => x ++ [10]).length ≤ ls.length * (B + 1)
 | [], B, _ => by simp
 | w :: ls, B, h => by
  have h1 := text_len ls B (fun x hx => h x (List.mem_cons_of_mem _ hx))
  have h2 := join_len w
  have h3 := h w (by simp)
  rw [List.map_cons, List.flatMap_cons, List.length_append, List.length_append, List.length_singleton, List.length_cons, Nat.add_mul, Nat.one_mul]
  omega
theorem num_len {n : Int} (h1 : n ≤ 2147483647) : (numT n).length ≤ 10 := dec_length 9 n.toNat (by omega)
theorem hex_len (a : Int) : (hexT a).length = 8 := rfl
theorem typ_len {t : Ty} (h : okTy t) : wl (typWs t) ≤ 18 := by
 unfold typWs
 split
 ·exact (by decide : wl [numberB] ≤ 18)
 ·split
  ·exact (by decide : wl [wholeT] ≤ 18)
  ·have hp : t.par ≤ 2147483647 := by rcases h with ⟨_, q⟩ | ⟨_, q⟩ | ⟨_, _, q⟩ <;> omega
   have := num_len hp
   rw [wl_cons, wl_cons]
   have : vectorB.length = 6 := rfl
   have : wl [] = 0 := rfl
   omega
theorem par_len {p : Par} (h : mayP p = true) : wl (parWs p) ≤ 90 := by
 obtain ⟨_, hk, h1, h2⟩ := par_parts h
 have h3 := num_len (n := p.len) (by omega)
 have h4 : p.name.size ≤ 64 := by
  unfold mayP namedP at h
  simp only [Bool.and_eq_true, decide_eq_true_eq] at h
  exact h.1.1.1.2
 have h5 : (bs p.name).length = p.name.size := bs_length _
 have h6 : (kindT p.kind).length ≤ 7 := by unfold kindT; split <;> decide
 have h7 : paramB.length = 5 := rfl
 have h8 : wl [] = 0 := rfl
 unfold parWs
 rw [wl_cons, wl_cons, wl_cons, wl_cons]
 omega
theorem reg_len {n : Nat} {t : Ty} (hn : n ≤ 1000000) (h : okTy t) : wl (regWs (n : Int) t) ≤ 33 := by
 have h1 := typ_len h
 have h2 := num_len (n := (n : Int)) (by omega)
 have h3 : regB.length = 3 := rfl
 unfold regWs
 rw [wl_cons, wl_cons]
 omega
theorem slot_len {n : Nat} {s : Sl} (hn : n ≤ 1000000) (h : okSl s) : wl (slotWs (n : Int) s) ≤ 51 := by
 have h1 := typ_len h.1
 have h2 := num_len (n := (n : Int)) (by omega)
 have h3 : slotB.length = 4 := rfl
 have h4 : (if s.keep = true then keepB else localB).length ≤ 5 := by split <;> decide
 have h5 : (if s.ty.kind = 2 then numT s.int_ else hexT s.bits).length ≤ 10 := by
  have h9 := h.2
  by_cases hk : s.ty.kind = 2
  ·rw [if_pos hk] at h9 ⊢
   exact num_len h9.2.2
  ·rw [if_neg hk, hex_len]; omega
 have h6 : wl [] = 0 := rfl
 unfold slotWs
 rw [wl_cons, wl_cons, wl_cons, wl_app, wl_cons]
 omega
theorem fld_len {l n : Int} (h : okF l n) : wl (fldWs l n) ≤ 12 := by
 unfold okF at h
 unfold fldWs
 by_cases h0 : l = 0
 ·rw [if_pos h0]; exact Nat.zero_le _
 ·rw [if_neg h0] at h ⊢
  have h1 := num_len h.2
  have h2 : (rgT n).length = (numT n).length + 1 := rfl
  have h6 : wl [] = 0 := rfl
  rw [wl_cons]
  omega
theorem end_len {l n b : Int} (h : okE l n b) : wl (endWs l n b) ≤ 11 := by
 unfold okE at h
 unfold endWs
 have h6 : wl [] = 0 := rfl
 by_cases h7 : l = 7
 ·rw [if_pos h7, wl_cons, hex_len]; omega
 ·rw [if_neg h7] at h ⊢
  by_cases h0 : l = 0
  ·rw [if_pos h0]; omega
  ·rw [if_neg h0] at h ⊢
   have := num_len h.2.2
   rw [wl_cons]
   omega
theorem op_length : ∀ k : Nat, k < 37 → (opT ((k : Int) + 1)).length ≤ 6 := by decide +kernel
theorem ins_len {i : Ins} (h : okIn i) : wl (insWs i) ≤ 66 := by
 obtain ⟨⟨h1, h2⟩, hd, ha, hb, hc, he⟩ := h
 obtain ⟨k, hk⟩ : ∃ k : Nat, i.op = (k : Int) + 1 := ⟨(i.op - 1).toNat, by omega⟩
 have h3 : (opT i.op).length ≤ 6 := by rw [hk]; exact op_length k (by omega)
 have := fld_len hd
 have := fld_len ha
 have := fld_len hb
 have := fld_len hc
 have := end_len he
 unfold insWs
 rw [wl_cons, wl_app, wl_app, wl_app, wl_app]
 omega
theorem regsT_mem : ∀ (l : List Ty) (n : Nat) (w : List Bs), w ∈ regsT n l → ∃ (k : Nat) (t : Ty), k < n + l.length ∧ t ∈ l ∧ w = regWs (k : Int) t
 | [], n, w, h => by cases h
 | t :: l, n, w, h => by
  rcases List.mem_cons.1 h with rfl | h
  ·exact ⟨n, t, by rw [List.length_cons]; omega, by simp, rfl⟩
  ·obtain ⟨k, t', h1, h2, h3⟩ := regsT_mem l (n + 1) w h
   exact ⟨k, t', by rw [List.length_cons]; omega, List.mem_cons_of_mem _ h2, h3⟩
theorem slotsT_mem : ∀ (l : List Sl) (n : Nat) (w : List Bs), w ∈ slotsT n l → ∃ (k : Nat) (t : Sl), k < n + l.length ∧ t ∈ l ∧ w = slotWs (k : Int) t
 | [], n, w, h => by cases h
 | t :: l, n, w, h => by
  rcases List.mem_cons.1 h with rfl | h
  ·exact ⟨n, t, by rw [List.length_cons]; omega, by simp, rfl⟩
  ·obtain ⟨k, t', h1, h2, h3⟩ := slotsT_mem l (n + 1) w h
   exact ⟨k, t', by rw [List.length_cons]; omega, List.mem_cons_of_mem _ h2, h3⟩
theorem regsT_len : ∀ (l : List Ty) (n : Nat), (regsT n l).length = l.length
 | [], n => rfl
 | t :: l, n => by simp [regsT, regsT_len l (n + 1)]
theorem slotsT_len : ∀ (l : List Sl) (n : Nat), (slotsT n l).length = l.length
 | [], n => rfl
 | t :: l, n => by simp [slotsT, slotsT_len l (n + 1)]
structure OkA (c : Cd) : Prop where
 sign : ∀ p ∈ c.sign, mayP p = true
 regs : ∀ t ∈ c.regs, okTy t
 slots : ∀ s ∈ c.slots, okSl s
 list : ∀ i ∈ c.list, okIn i
 s : c.sign.length ≤ 64
 r : c.regs.length ≤ 16384
 l : c.slots.length ≤ 4096
 i : c.list.length ≤ 32768
theorem okA_of {c : Cd} (hc : (checkC c).1 = 0) (hs : ∀ s ∈ c.slots, 0 ≤ s.bits ∧ s.bits < 4294967296) (hi : ∀ i ∈ c.list, 0 ≤ i.bits ∧ i.bits < 4294967296) : OkA c := by
 obtain ⟨h1, h2, h3⟩ := checkC_ok.1 hc
 have hA := ah_iff.1 h1
 have hsl := check_len hA.sign
 exact ⟨sign_may hA.sign, fun t ht => ok_ty (List.all_eq_true.1 hA.types t ht) (by omega), fun s hs' => ok_sl (List.all_eq_true.1 hA.begun s hs') (by omega) (hs s hs'), ok_ins c hA (by omega) c.list _ h2 hi, hsl, hA.regs, hA.slots, hA.list⟩
theorem body_words {c : Cd} (h : OkA c) : ∀ w ∈ bodyW c, w ≠ [] ∧ ∀ x ∈ w, WordB x := by
 intro w hw
 unfold bodyW at hw
 rcases List.mem_append.1 hw with hw | hw
 ·obtain ⟨p, hp, rfl⟩ := List.mem_map.1 hw
  exact ⟨by simp [parWs], par_words (h.sign p hp)⟩
 rcases List.mem_append.1 hw with hw | hw
 ·obtain ⟨k, t, _, _, rfl⟩ := regsT_mem _ _ _ hw
  exact ⟨by simp [regWs], reg_words _ t⟩
 rcases List.mem_append.1 hw with hw | hw
 ·obtain ⟨k, t, _, _, rfl⟩ := slotsT_mem _ _ _ hw
  exact ⟨by simp [slotWs], slot_words _ t⟩
 ·obtain ⟨i, hi, rfl⟩ := List.mem_map.1 hw
  exact ⟨by simp [insWs], ins_words (h.list i hi)⟩
theorem join_no10 : ∀ ws : List Bs, (∀ w ∈ ws, WordB w) → ∀ b ∈ joinW ws, nb b ≠ 10
 | [], _, b, hb => by cases hb
 | [a], h, b, hb => (h a (by simp) b hb).2
 | a :: c :: r, h, b, hb => by
  rcases List.mem_append.1 hb with hb | hb
  ·exact (h a (by simp) b hb).2
  ·rcases List.mem_cons.1 hb with rfl | hb
   ·decide
   ·exact join_no10 (c :: r) (fun w hw => h w (List.mem_cons_of_mem _ hw)) b hb
theorem textL_no10 {c : Cd} (h : OkA c) : ∀ l ∈ textL c, ∀ b ∈ l, nb b ≠ 10 := by
 intro l hl
 rcases List.mem_cons.1 hl with rfl | hl
 ·decide
 ·obtain ⟨w, hw, rfl⟩ := List.mem_map.1 hl
  exact join_no10 w (body_words h w hw).2
theorem go_all {c : Cd} (h : OkA c) : ∃ st, goA (0, noC) 2 ((bodyW c).map joinW) = .ok (st, c) := by
 unfold bodyW
 rw [List.map_append, List.map_append, List.map_append]
 have h1 := go_pars c.sign noC 2 h.sign
 rw [go_app _ _ _ _ _ h1]
 obtain ⟨s2, b2, h2⟩ := go_regs c.regs 0 ⟨noC.sign ++ c.sign, noC.regs, noC.slots, noC.list⟩ (2 + ((c.sign.map parWs).map joinW).length) (by decide) (by have := h.r; show 0 + c.regs.length ≤ _; omega) h.regs
 have h2 : goA (0, ⟨noC.sign ++ c.sign, noC.regs, noC.slots, noC.list⟩) (2 + ((c.sign.map parWs).map joinW).length) ((regsT 0 c.regs).map joinW) = .ok (s2, ⟨noC.sign ++ c.sign, noC.regs ++ c.regs, noC.slots, noC.list⟩) := h2
 rw [go_app _ _ _ _ _ h2]
 obtain ⟨s3, b3, h3⟩ := go_slots c.slots s2 ⟨noC.sign ++ c.sign, noC.regs ++ c.regs, noC.slots, noC.list⟩ (2 + ((c.sign.map parWs).map joinW).length + ((regsT 0 c.regs).map joinW).length) (by omega) (by have := h.l; show 0 + c.slots.length ≤ _; omega) h.slots
 have h3 : goA (s2, ⟨noC.sign ++ c.sign, noC.regs ++ c.regs, noC.slots, noC.list⟩) (2 + ((c.sign.map parWs).map joinW).length + ((regsT 0 c.regs).map joinW).length) ((slotsT 0 c.slots).map joinW) = .ok (s3, ⟨noC.sign ++ c.sign, noC.regs ++ c.regs, noC.slots ++ c.slots, noC.list⟩) := h3
 rw [go_app _ _ _ _ _ h3]
 obtain ⟨s4, h4⟩ := go_list c.list s3 ⟨noC.sign ++ c.sign, noC.regs ++ c.regs, noC.slots ++ c.slots, noC.list⟩ (2 + ((c.sign.map parWs).map joinW).length + ((regsT 0 c.regs).map joinW).length + ((slotsT 0 c.slots).map joinW).length) h.list
 exact ⟨s4, h4⟩
theorem text_short {c : Cd} (h : OkA c) : (textA c).length ≤ 3000000 := by
 have e : textA c = headB ++ [10] ++ (((c.sign.map parWs).map joinW).flatMap (fun x => x ++ [10]) ++ (((regsT 0 c.regs).map joinW).flatMap (fun x => x ++ [10]) ++ (((slotsT 0 c.slots).map joinW).flatMap (fun x => x ++ [10]) ++ ((c.list.map insWs).map joinW).flatMap (fun x => x ++ [10])))) := by
  unfold textA textL bodyW
  rw [List.flatMap_cons, List.map_append, List.map_append, List.map_append, List.flatMap_append, List.flatMap_append, List.flatMap_append]
 have h1 := text_len (c.sign.map parWs) 90 (fun w hw => by obtain ⟨p, hp, rfl⟩ := List.mem_map.1 hw; exact par_len (h.sign p hp))
 have h2 := text_len (regsT 0 c.regs) 33 (fun w hw => by obtain ⟨k, t, hk, ht, rfl⟩ := regsT_mem _ _ _ hw; exact reg_len (by have := h.r; omega) (h.regs t ht))
 have h3 := text_len (slotsT 0 c.slots) 51 (fun w hw => by obtain ⟨k, t, hk, ht, rfl⟩ := slotsT_mem _ _ _ hw; exact slot_len (by have := h.l; omega) (h.slots t ht))
 have h4 := text_len (c.list.map insWs) 66 (fun w hw => by obtain ⟨i, hi, rfl⟩ := List.mem_map.1 hw; exact ins_len (h.list i hi))
 rw [List.length_map] at h1 h4
 rw [regsT_len] at h2
 rw [slotsT_len] at h3
 rw [e]
 simp only [List.length_append]
 have := h.s
 have := h.r
 have := h.l
 have := h.i
 have h5 : headB.length = 7 := rfl
 have h6 : ([10] : Bs).length = 1 := rfl
 omega
theorem parse_back {c : Cd} (hc : (checkC c).1 = 0) (h : OkA c) : parseA (textA c) = (c, 0, 0) := by
 have hs := text_short h
 unfold parseA
 rw [if_neg (by omega)]
 have hcut : cutN [] (textA c) = (textL c, []) := cut_text (textL c) (textL_no10 h)
 rw [hcut]
 show (if headB ≠ headB then (noC, (250 : Int), (1 : Int)) else endA ((bodyW c).map joinW) [] (goA (0, noC) 2 ((bodyW c).map joinW))) = _
 rw [if_neg (fun e => e rfl)]
 obtain ⟨st, hg⟩ := go_all h
 rw [hg]
 simp only [endA, hc, ne_eq, not_true_eq_false, if_false]
end Go.Proofs.YtgcmnkanjcfndaaGreatDoor
namespace Go.Proofs.YtgcmnkanjcfndaaGreatDoor
open Go.Lib (atoiAll itoa decDigits parseUint10 parseMag NumEnd)
set_option linter.unusedVariables false
set_option linter.unusedSimpArgs false
theorem itoa_num {n : Int} (h : 0 ≤ n) : itoa n = numT n := by unfold itoa numT; rw [if_neg (by omega)]
theorem num_atoi {s : Bs} {n : Int} (h : numW s = some n) : atoiAll s = .ok n := by
 obtain ⟨⟨h0, h1⟩, rfl⟩ := num_out h
 obtain ⟨d1, d2, _, d4⟩ := dec_facts n.toNat
 have hl : (numT n).length ≤ 10 := num_len h1
 have hu := pu10 (numT n) 0 0 (by decide) (by omega) d2
 have hv : valA 0 (numT n) = n := by unfold numT; rw [d4]; omega
 cases hn : numT n with
 | nil => exact absurd hn d1
 | cons c r =>
  have hc := d2 c (by show c ∈ numT n; rw [hn]; simp)
  unfold dig at hc
  rw [hn] at hu hv
  unfold atoiAll
  simp only
  rw [if_neg (by omega), parseMag, if_neg (by simp), hu]
  simp only
  have e : ((valA ((0 : Nat) : Int) (c :: r)).toNat : Int) = n := by
   have : valA ((0 : Nat) : Int) (c :: r) = valA 0 (c :: r) := rfl
   omega
  rw [if_neg (by omega), if_neg (by omega), if_neg (by omega), e]
theorem num_asked {s : Bs} {n : Int} (h : atoiAll s = .ok n) : numW s = some n ↔ (0 ≤ n ∧ n ≤ 2147483647) ∧ itoa n = s := by
 constructor
 ·intro h1
  obtain ⟨h2, h3⟩ := num_out h1
  exact ⟨h2, by rw [itoa_num h2.1, h3]⟩
 ·rintro ⟨h1, h2⟩
  exact num_iff.2 ⟨h1, by rw [← h2, itoa_num h1.1]⟩
theorem num_other {s : Bs} {n m : Int} (h : atoiAll s = .ok n) (h1 : numW s = some m) : m = n := by
 have := num_atoi h1
 rw [h] at this
 simpa using this.symm
theorem num_none {s : Bs} (h : ∀ n, atoiAll s ≠ .ok n) : numW s = none := none_or fun n hn => h n (num_atoi hn)
def nxW : List Bs → Bs × List Bs
 | [] => ([], [])
 | w :: r => (w, r)
theorem num_nil : numW [] = none := rfl
theorem hex_nil : hexW [] = none := rfl
theorem par_take {ws : List Bs} (h0 : 4 ≤ ws.length) (ha : (nxW ws).1 = paramB) (m : Int)
  (n k l : Bs) (r : List Bs) (e1 : n = (nxW (nxW ws).2).1) (e2 : k = (nxW (nxW (nxW ws).2).2).1) (e3 : l = (nxW (nxW (nxW (nxW ws).2).2).2).1) (e4 : r = (nxW (nxW (nxW (nxW ws).2).2).2).2) :
  (parLn ws = some (parOf n k m) ↔ (k = realB ∨ k = complexB) ∧ numW l = some m ∧ mayP (parOf n k m) = true ∧ r = []) := by
 match ws, h0 with
 | a :: b :: c :: d :: q, _ =>
  simp only [nxW] at ha e1 e2 e3 e4
  subst ha e1 e2 e3 e4
  cases r with
  | nil =>
   show ((if paramB = paramB ∧ (k = realB ∨ k = complexB) then (numW l).bind fun m => if mayP (parOf n k m) = true then some (parOf n k m) else none else none) = _) ↔ _
   constructor
   ·intro h
    by_cases hc : k = realB ∨ k = complexB
    ·rw [if_pos ⟨rfl, hc⟩, Option.bind_eq_some_iff] at h
     obtain ⟨m', hm', h⟩ := h
     by_cases hp : mayP (parOf n k m') = true
     ·rw [if_pos hp] at h
      have h9 : parOf n k m' = parOf n k m := by simpa using h
      have h8 : m' = m := by have := congrArg Par.len h9; exact this
      subst h8
      exact ⟨hc, hm', hp, rfl⟩
     ·rw [if_neg hp] at h; cases h
    ·rw [if_neg (fun e => hc e.2)] at h; cases h
   ·rintro ⟨hc, hm, hp, _⟩
    rw [if_pos ⟨rfl, hc⟩, hm, Option.bind_some, if_pos hp]
  | cons x y =>
   constructor
   ·intro h; exact absurd h (by simp [parLn])
   ·rintro ⟨_, _, _, h⟩; cases h
theorem par_long {ws : List Bs} {p : Par} (h : parLn ws = some p) : ws.length = 4 ∧ (nxW ws).1 = paramB := by
 obtain ⟨_, rfl⟩ := par_out h
 exact ⟨rfl, rfl⟩
def sortW (ws : List Bs) : Nat := if (nxW ws).1 = paramB ∧ 4 ≤ ws.length then 0 else if (nxW ws).1 = regB then 1 else if (nxW ws).1 = slotB then 2 else 3
def saysW (c : Cd) (ws : List Bs) : Option Cd :=
 if sortW ws = 0 then (parLn ws).map fun p => ⟨c.sign ++ [p], c.regs, c.slots, c.list⟩
 else if sortW ws = 1 then (regLn (c.regs.length : Int) ws).map fun t => ⟨c.sign, c.regs ++ [t], c.slots, c.list⟩
 else if sortW ws = 2 then (slotLn (c.slots.length : Int) ws).map fun l => ⟨c.sign, c.regs, c.slots ++ [l], c.list⟩
 else (insLn ws).map fun i => ⟨c.sign, c.regs, c.slots, c.list ++ [i]⟩
theorem reg_first {n : Int} {ws : List Bs} {t : Ty} (h : regLn n ws = some t) : (nxW ws).1 = regB := by obtain ⟨_, rfl⟩ := reg_out h; rfl
theorem slot_first {n : Int} {ws : List Bs} {t : Sl} (h : slotLn n ws = some t) : (nxW ws).1 = slotB := by obtain ⟨_, rfl⟩ := slot_out h; rfl
theorem ins_first {ws : List Bs} {i : Ins} (h : insLn ws = some i) : (nxW ws).1 ≠ regB ∧ (nxW ws).1 ≠ slotB ∧ ((nxW ws).1 = paramB → ws.length = 3) := by
 obtain ⟨hi, rfl⟩ := ins_out h
 obtain ⟨⟨h1, h2⟩, _⟩ := hi
 obtain ⟨k, hk⟩ : ∃ k : Nat, i.op = (k : Int) + 1 := ⟨(i.op - 1).toNat, by omega⟩
 have e : (nxW (insWs i)).1 = opT i.op := rfl
 rw [e, hk]
 obtain ⟨q1, q2, q3⟩ := op_not k (by omega)
 refine ⟨q1, q2, fun q => ?_⟩
 have hr : rowP i.op = ⟨3, 0, 0, 0, 9⟩ := by rw [hk, q3 q]; decide
 simp [insWs, hr, fldWs, endWs]
theorem none_of_ne {α : Type} {x : Option α} {P : Prop} (h : ∀ a, x = some a → P) (hn : ¬ P) : x = none := none_or fun a ha => hn (h a ha)
theorem step_sort (st : Nat) (c : Cd) (hs : st ≤ 3) (ws : List Bs) : stepW (st, c) ws = if sortW ws < st then none else (saysW c ws).map fun c' => (sortW ws, c') := by
 have n0 : sortW ws ≠ 0 → parLn ws = none := fun h => none_of_ne (P := sortW ws = 0) (fun p hp => by
  obtain ⟨h1, h2⟩ := par_long hp
  unfold sortW
  rw [if_pos ⟨h2, by omega⟩]) h
 have n1 : sortW ws ≠ 1 → regLn (c.regs.length : Int) ws = none := fun h => none_of_ne (P := sortW ws = 1) (fun p hp => by
  have h1 := reg_first hp
  unfold sortW
  rw [if_neg (by rw [h1]; exact fun e => absurd e.1 (by decide)), if_pos h1]) h
 have n2 : sortW ws ≠ 2 → slotLn (c.slots.length : Int) ws = none := fun h => none_of_ne (P := sortW ws = 2) (fun p hp => by
  have h1 := slot_first hp
  unfold sortW
  rw [if_neg (by rw [h1]; exact fun e => absurd e.1 (by decide)), if_neg (by rw [h1]; decide), if_pos h1]) h
 have n3 : sortW ws ≠ 3 → insLn ws = none := fun h => none_of_ne (P := sortW ws = 3) (fun p hp => by
  obtain ⟨h1, h2, h3⟩ := ins_first hp
  unfold sortW
  rw [if_neg (fun e => by have := h3 e.1; omega), if_neg h1, if_neg h2]) h
 have hle : sortW ws ≤ 3 := by
  unfold sortW
  by_cases g1 : (nxW ws).1 = paramB ∧ 4 ≤ ws.length
  ·rw [if_pos g1]; decide
  ·rw [if_neg g1]
   by_cases g2 : (nxW ws).1 = regB
   ·rw [if_pos g2]; decide
   ·rw [if_neg g2]
    by_cases g3 : (nxW ws).1 = slotB
    ·rw [if_pos g3]; decide
    ·rw [if_neg g3]; decide
 unfold stepW saysW
 simp only
 rcases (show sortW ws = 0 ∨ sortW ws = 1 ∨ sortW ws = 2 ∨ sortW ws = 3 by omega) with q | q | q | q
 ·rw [n1 (by omega), n2 (by omega), n3 (by omega), q]
  simp only [ite_self]
  rw [if_pos (show True from trivial)]
  by_cases h0 : st = 0
  ·rw [if_pos h0, if_neg (by omega)]
   cases parLn ws <;> rfl
  ·rw [if_neg h0, if_pos (by omega)]
   rfl
 ·rw [n0 (by omega), n2 (by omega), n3 (by omega), q]
  simp only [ite_self]
  rw [if_neg (show ¬ (1 : Nat) = 0 by decide), if_pos (show True from trivial)]
  by_cases h0 : st ≤ 1
  ·rw [if_pos h0, if_neg (by omega)]
   cases regLn (c.regs.length : Int) ws <;> rfl
  ·rw [if_neg h0, if_pos (by omega)]
   rfl
 ·rw [n0 (by omega), n1 (by omega), n3 (by omega), q]
  simp only [ite_self]
  rw [if_neg (show ¬ (2 : Nat) = 0 by decide), if_neg (show ¬ (2 : Nat) = 1 by decide), if_pos (show True from trivial)]
  by_cases h0 : st ≤ 2
  ·rw [if_pos h0, if_neg (by omega)]
   cases slotLn (c.slots.length : Int) ws <;> rfl
  ·rw [if_neg h0, if_pos (by omega)]
   rfl
 ·rw [n0 (by omega), n1 (by omega), n2 (by omega), q]
  simp only [ite_self]
  rw [if_neg (show ¬ (3 : Nat) = 0 by decide), if_neg (show ¬ (3 : Nat) = 1 by decide), if_neg (show ¬ (3 : Nat) = 2 by decide), if_neg (show ¬ 3 < st by omega)]
  cases insLn ws <;> rfl
end Go.Proofs.YtgcmnkanjcfndaaGreatDoor
namespace Go.Proofs.YtgcmnkanjcfndaaGreatDoor
set_option linter.unusedVariables false
set_option linter.unusedSimpArgs false
theorem reg_take {ws : List Bs} {n : Int} (ha : (nxW ws).1 = regB) : regLn n ws = if numW (nxW (nxW ws).2).1 = some n then (typLn (nxW (nxW ws).2).2).bind allOf else none := by
 match ws, ha with
 | [], ha => exact absurd ha (by decide)
 | [a], ha => rfl
 | a :: m :: r, ha =>
  have ha : a = regB := ha
  subst ha
  show (if regB = regB ∧ numW m = some n then (typLn r).bind allOf else none) = if numW m = some n then (typLn r).bind allOf else none
  by_cases h : numW m = some n
  ·rw [if_pos ⟨rfl, h⟩, if_pos h]
  ·rw [if_neg (fun e => h e.2), if_neg h]
theorem slot_take {ws : List Bs} {n : Int} (ha : (nxW ws).1 = slotB) : slotLn n ws = if numW (nxW (nxW ws).2).1 = some n ∧ ((nxW (nxW (nxW ws).2).2).1 = keepB ∨ (nxW (nxW (nxW ws).2).2).1 = localB) then (typLn (nxW (nxW (nxW ws).2).2).2).bind (sloOf (nxW (nxW (nxW ws).2).2).1) else none := by
 match ws, ha with
 | [], ha => exact absurd ha (by decide)
 | [a], ha => rfl
 | [a, m], ha =>
  rw [if_neg (fun e => by rcases e.2 with q | q <;> exact absurd (show ([] : Bs) = _ from q) (by decide))]
  rfl
 | a :: m :: k :: r, ha =>
  have ha : a = slotB := ha
  subst ha
  show (if slotB = slotB ∧ numW m = some n ∧ (k = keepB ∨ k = localB) then (typLn r).bind (sloOf k) else none) = if numW m = some n ∧ (k = keepB ∨ k = localB) then (typLn r).bind (sloOf k) else none
  by_cases h : numW m = some n ∧ (k = keepB ∨ k = localB)
  ·rw [if_pos ⟨rfl, h⟩, if_pos h]
  ·rw [if_neg (fun e => h e.2), if_neg h]
theorem slo_take (k : Bs) (t : Ty) (l : List Bs) : sloOf k (t, l) = if (nxW l).2 = [] then (if t.kind = 2 then (numW (nxW l).1).bind fun i => some ⟨t, decide (k = keepB), 0, i⟩ else (hexW (nxW l).1).bind fun b => some ⟨t, decide (k = keepB), b, 0⟩) else none := by
 match l with
 | [] =>
  rw [if_pos (show (nxW []).2 = [] from rfl)]
  show none = if t.kind = 2 then (numW []).bind _ else (hexW []).bind _
  rw [num_nil, hex_nil]
  split <;> rfl
 | [x] => rw [if_pos (show (nxW [x]).2 = [] from rfl)]; rfl
 | x :: y :: r => rw [if_neg (by simp [nxW])]; rfl
theorem all_take {α : Type} (t : α) (l : List Bs) : allOf (t, l) = if l = [] then some t else none := by
 cases l with
 | nil => rfl
 | cons a r => rfl
theorem typ_take (ws : List Bs) : typLn ws = if (nxW ws).1 = numberB then some (⟨1, 0⟩, (nxW ws).2) else if (nxW ws).1 = wholeT then some (⟨2, 0⟩, (nxW ws).2) else if (nxW ws).1 = vectorB then (numW (nxW (nxW ws).2).1).bind fun n => some (⟨3, n⟩, (nxW (nxW ws).2).2) else none := by
 match ws with
 | [] => rw [if_neg (by decide), if_neg (by decide), if_neg (by decide)]; rfl
 | [a] =>
  show (if a = numberB then some ((⟨1, 0⟩ : Ty), []) else if a = wholeT then some (⟨2, 0⟩, []) else if a = vectorB then none else none) = if a = numberB then some (⟨1, 0⟩, []) else if a = wholeT then some (⟨2, 0⟩, []) else if a = vectorB then (numW []).bind _ else none
  rw [num_nil]
  rfl
 | a :: m :: r => rfl
theorem fld_take (l : Int) (ws : List Bs) : fldLn l ws = if l = 0 then some (0, ws) else (rgW (nxW ws).1).bind fun n => some (n, (nxW ws).2) := by
 unfold fldLn
 cases ws with
 | nil => rfl
 | cons a r => rfl
theorem end_take (l : Int) (ws : List Bs) : endLn l ws = if l = 7 then (if (nxW ws).2 = [] then (hexW (nxW ws).1).bind fun b => some (0, b) else none) else if l = 0 then (if ws = [] then some (0, 0) else none) else (if (nxW ws).2 = [] then (numW (nxW ws).1).bind fun n => some (n, 0) else none) := by
 unfold endLn
 match ws with
 | [] =>
  show (if l = 7 then none else if l = 0 then some ((0 : Int), (0 : Int)) else none) = if l = 7 then (if ([] : List Bs) = [] then (hexW []).bind _ else none) else if l = 0 then (if ([] : List Bs) = [] then some (0, 0) else none) else (if ([] : List Bs) = [] then (numW []).bind _ else none)
  rw [num_nil, hex_nil]
  simp
 | [x] =>
  show (if l = 7 then (hexW x).bind (fun b => some ((0 : Int), b)) else if l = 0 then none else (numW x).bind (fun n => some (n, (0 : Int)))) = if l = 7 then (if ([] : List Bs) = [] then (hexW x).bind _ else none) else if l = 0 then (if [x] = [] then some (0, 0) else none) else (if ([] : List Bs) = [] then (numW x).bind _ else none)
  simp
 | x :: y :: r =>
  show (if l = 7 then none else if l = 0 then none else none) = if l = 7 then (if y :: r = [] then _ else none) else if l = 0 then (if x :: y :: r = [] then some (0, 0) else none) else (if y :: r = [] then _ else none)
  simp
theorem ins_take (ws : List Bs) : insLn ws = (opW (nxW ws).1).bind fun k => (fldLn (rowP ((k : Int) + 1)).d (nxW ws).2).bind fun d => (fldLn (rowP ((k : Int) + 1)).a d.2).bind fun a => (fldLn (rowP ((k : Int) + 1)).b a.2).bind fun b => (fldLn (rowP ((k : Int) + 1)).c b.2).bind fun c => (endLn (rowP ((k : Int) + 1)).n c.2).bind fun e => some ⟨(k : Int) + 1, d.1, a.1, b.1, c.1, e.1, e.2⟩ := by
 cases ws with
 | nil =>
  have h : opW (nxW []).1 = none := none_or fun k hk => by
   obtain ⟨h1, h2⟩ := op_out hk
   have : ∀ k : Nat, k < 37 → opT ((k : Int) + 1) ≠ [] := by decide +kernel
   exact this k h1 h2.symm
  rw [h]
  rfl
 | cons a r => rfl
end Go.Proofs.YtgcmnkanjcfndaaGreatDoor
namespace Go.Proofs.YtgcmnkanjcfndaaGreatDoor
open Go.Shelf Go.RowKit
def sh_lays145_ren : Go.Shelf.Ren := ⟨fun | 145 => 56 | 220 => 85 | 219 => 116 | 217 => 140 | 225 => 141 | 224 => 142 | 267 => 143 | 266 => 158 | 314 => 159 | n => n, fun | 9 => 9 | 4 => 4 | 59 => 111 | 3 => 3 | 5 => 5 | 46 => 191 | 146 => 203 | 51 => 43 | n => n, fun | 1 => 0 | n => n⟩
theorem sh_lays145 : Go.Proofs.Lays.n145 Tryz.prog sh_lays145_ren := {
 mixed := by kernel_rfl
 f145 := Tryz.func56.trans (congrArg some (by kernel_rfl))
 f217 := Tryz.func140.trans (congrArg some (by kernel_rfl))
 f219 := Tryz.func116.trans (congrArg some (by kernel_rfl))
 f220 := Tryz.func85.trans (congrArg some (by kernel_rfl))
 f224 := Tryz.func142.trans (congrArg some (by kernel_rfl))
 f225 := Tryz.func141.trans (congrArg some (by kernel_rfl))
 f266 := Tryz.func158.trans (congrArg some (by kernel_rfl))
 f267 := Tryz.func143.trans (congrArg some (by kernel_rfl))
 f314 := Tryz.func159.trans (congrArg some (by kernel_rfl))
 t3 := Tryz.underlying3
 a3 := Tryz.isAgg3
 z3 := Tryz.sizeOf3
 v3 := Tryz.zeroValue3
 t4 := Tryz.underlying4
 a4 := Tryz.isAgg4
 z4 := Tryz.sizeOf4
 v4 := Tryz.zeroValue4
 t5 := Tryz.underlying5
 a5 := Tryz.isAgg5
 z5 := Tryz.sizeOf5
 v5 := Tryz.zeroValue5
 t9 := Tryz.underlying9
 a9 := Tryz.isAgg9
 z9 := Tryz.sizeOf9
 v9 := Tryz.zeroValue9
 t46 := Tryz.underlying191
 a46 := Tryz.isAgg191
 z46 := Tryz.sizeOf191
 v46 := Tryz.zeroValue191
 t51 := Tryz.underlying43
 a51 := Tryz.isAgg43
 z51 := Tryz.sizeOf43
 v51 := Tryz.zeroValue43
 t59 := Tryz.underlying111
 a59 := Tryz.isAgg111
 z59 := Tryz.sizeOf111
 v59 := Tryz.zeroValue111
 t146 := Tryz.underlying203
 a146 := Tryz.isAgg203
 z146 := Tryz.sizeOf203
 v146 := Tryz.zeroValue203
 g1 := by kernel_rfl }
theorem sh_strings_Cut (s sep : ByteArray) (m : Int) (w : World) (hs : s.size < 4294967281) (hm : w.cell? ⟨0, 0, none⟩ = some (.int .i64 m)) :
  Calls Tryz.prog 56 #[.string s, .string sep] w fun e w' => e = .returned (.tuple #[.string ⟨(Lib.cut s.data.toList sep.data.toList).1.toArray⟩, .string ⟨(Lib.cut s.data.toList sep.data.toList).2.1.toArray⟩, .bool (Lib.cut s.data.toList sep.data.toList).2.2]) ∧ ∃ n, w' = w.drewN n := Any.strings_Cut sh_lays145 s sep m w hs hm
def sh_laysC172_ren : Go.Shelf.Ren := ⟨fun | 172 => 160 | 244 => 170 | 245 => 171 | 247 => 176 | 279 => 177 | 280 => 178 | 281 => 179 | 282 => 180 | 287 => 181 | 316 => 147 | 171 => 80 | 205 => 182 | 321 => 183 | 322 => 184 | 243 => 113 | 246 => 139 | 283 => 154 | 284 => 155 | 285 => 156 | 286 => 157 | 129 => 166 | 317 => 165 | 318 => 167 | 319 => 168 | 320 => 169 | 337 => 174 | 338 => 175 | n => n, fun | 9 => 9 | 3 => 3 | 75 => 138 | 76 => 139 | 4 => 4 | 5 => 5 | 167 => 216 | 37 => 55 | 0 => 0 | 85 => 217 | 2 => 2 | 168 => 219 | 53 => 178 | 175 => 224 | 46 => 191 | 210 => 227 | 127 => 147 | 145 => 232 | 143 => 230 | 21 => 21 | 171 => 198 | 173 => 201 | 212 => 208 | 51 => 43 | 20 => 20 | 213 => 209 | 232 => 222 | 233 => 223 | 80 => 107 | n => n, fun | 15 => 4 | 16 => 5 | 17 => 1 | 18 => 2 | 19 => 3 | n => n⟩
theorem sh_laysC172 : Go.Proofs.LaysC.n172 Tryz.prog sh_laysC172_ren := {
 mixed := by kernel_rfl
 f129 := Tryz.func166.trans (congrArg some (by kernel_rfl))
 f171 := Tryz.func80.trans (congrArg some (by kernel_rfl))
 f172 := Tryz.func160.trans (congrArg some (by kernel_rfl))
 f205 := Tryz.func182.trans (congrArg some (by kernel_rfl))
 f243 := Tryz.func113.trans (congrArg some (by kernel_rfl))
 f244 := Tryz.func170.trans (congrArg some (by kernel_rfl))
 f245 := Tryz.func171.trans (congrArg some (by kernel_rfl))
 f246 := Tryz.func139.trans (congrArg some (by kernel_rfl))
 f247 := Tryz.func176.trans (congrArg some (by kernel_rfl))
 f279 := Tryz.func177.trans (congrArg some (by kernel_rfl))
 f280 := Tryz.func178.trans (congrArg some (by kernel_rfl))
 f281 := Tryz.func179.trans (congrArg some (by kernel_rfl))
 f282 := Tryz.func180.trans (congrArg some (by kernel_rfl))
 f283 := Tryz.func154.trans (congrArg some (by kernel_rfl))
 f284 := Tryz.func155.trans (congrArg some (by kernel_rfl))
 f285 := Tryz.func156.trans (congrArg some (by kernel_rfl))
 f286 := Tryz.func157.trans (congrArg some (by kernel_rfl))
 f287 := Tryz.func181.trans (congrArg some (by kernel_rfl))
 f316 := Tryz.func147.trans (congrArg some (by kernel_rfl))
 f317 := Tryz.func165.trans (congrArg some (by kernel_rfl))
 f318 := Tryz.func167.trans (congrArg some (by kernel_rfl))
 f319 := Tryz.func168.trans (congrArg some (by kernel_rfl))
 f320 := Tryz.func169.trans (congrArg some (by kernel_rfl))
 f321 := Tryz.func183.trans (congrArg some (by kernel_rfl))
 f322 := Tryz.func184.trans (congrArg some (by kernel_rfl))
 f337 := Tryz.func174.trans (congrArg some (by kernel_rfl))
 f338 := Tryz.func175.trans (congrArg some (by kernel_rfl))
 t0 := Tryz.underlying0
 a0 := Tryz.isAgg0
 z0 := Tryz.sizeOf0
 v0 := Tryz.zeroValue0
 t2 := Tryz.underlying2
 a2 := Tryz.isAgg2
 z2 := Tryz.sizeOf2
 v2 := Tryz.zeroValue2
 t3 := Tryz.underlying3
 a3 := Tryz.isAgg3
 z3 := Tryz.sizeOf3
 v3 := Tryz.zeroValue3
 t4 := Tryz.underlying4
 a4 := Tryz.isAgg4
 z4 := Tryz.sizeOf4
 v4 := Tryz.zeroValue4
 t5 := Tryz.underlying5
 a5 := Tryz.isAgg5
 z5 := Tryz.sizeOf5
 v5 := Tryz.zeroValue5
 t9 := Tryz.underlying9
 a9 := Tryz.isAgg9
 z9 := Tryz.sizeOf9
 v9 := Tryz.zeroValue9
 t20 := Tryz.underlying20
 a20 := Tryz.isAgg20
 z20 := Tryz.sizeOf20
 v20 := Tryz.zeroValue20
 t21 := Tryz.underlying21
 a21 := Tryz.isAgg21
 z21 := Tryz.sizeOf21
 v21 := Tryz.zeroValue21
 t37 := Tryz.underlying55
 a37 := Tryz.isAgg55
 z37 := Tryz.sizeOf55
 v37 := Tryz.zeroValue55
 t46 := Tryz.underlying191
 a46 := Tryz.isAgg191
 z46 := Tryz.sizeOf191
 v46 := Tryz.zeroValue191
 t51 := Tryz.underlying43
 a51 := Tryz.isAgg43
 z51 := Tryz.sizeOf43
 v51 := Tryz.zeroValue43
 t53 := Tryz.underlying178
 a53 := Tryz.isAgg178
 z53 := Tryz.sizeOf178
 v53 := Tryz.zeroValue178
 t75 := Tryz.underlying138
 a75 := Tryz.isAgg138
 z75 := Tryz.sizeOf138
 v75 := Tryz.zeroValue138
 t76 := Tryz.underlying139
 a76 := Tryz.isAgg139
 z76 := Tryz.sizeOf139
 v76 := Tryz.zeroValue139
 t85 := Tryz.underlying217
 a85 := Tryz.isAgg217
 z85 := Tryz.sizeOf217
 v85 := Tryz.zeroValue217
 t127 := Tryz.underlying147
 a127 := Tryz.isAgg147
 z127 := Tryz.sizeOf147
 v127 := Tryz.zeroValue147
 t143 := Tryz.underlying230
 a143 := Tryz.isAgg230
 z143 := Tryz.sizeOf230
 v143 := Tryz.zeroValue230
 t145 := Tryz.underlying232
 a145 := Tryz.isAgg232
 z145 := Tryz.sizeOf232
 v145 := Tryz.zeroValue232
 t167 := Tryz.underlying216
 a167 := Tryz.isAgg216
 z167 := Tryz.sizeOf216
 v167 := Tryz.zeroValue216
 t168 := Tryz.underlying219
 a168 := Tryz.isAgg219
 z168 := Tryz.sizeOf219
 v168 := Tryz.zeroValue219
 t171 := Tryz.underlying198
 a171 := Tryz.isAgg198
 z171 := Tryz.sizeOf198
 v171 := Tryz.zeroValue198
 t173 := Tryz.underlying201
 a173 := Tryz.isAgg201
 z173 := Tryz.sizeOf201
 v173 := Tryz.zeroValue201
 t175 := Tryz.underlying224
 a175 := Tryz.isAgg224
 z175 := Tryz.sizeOf224
 v175 := Tryz.zeroValue224
 t210 := Tryz.underlying227
 a210 := Tryz.isAgg227
 z210 := Tryz.sizeOf227
 v210 := Tryz.zeroValue227
 t212 := Tryz.underlying208
 a212 := Tryz.isAgg208
 z212 := Tryz.sizeOf208
 v212 := Tryz.zeroValue208
 t213 := Tryz.underlying209
 a213 := Tryz.isAgg209
 z213 := Tryz.sizeOf209
 t232 := Tryz.underlying222
 a232 := Tryz.isAgg222
 z232 := Tryz.sizeOf222
 v232 := Tryz.zeroValue222
 t233 := Tryz.underlying223
 a233 := Tryz.isAgg223
 z233 := Tryz.sizeOf223
 v233 := Tryz.zeroValue223
 g15 := by kernel_rfl
 g16 := by kernel_rfl
 g17 := by kernel_rfl
 g18 := by kernel_rfl
 g19 := by kernel_rfl
 t80 := Tryz.underlying107
 a80 := Tryz.isAgg107
 z80 := Tryz.sizeOf107
 v80 := Tryz.zeroValue107
 i0 := by kernel_rfl
 i2 := by kernel_rfl
 i3 := by kernel_rfl
 i4 := by kernel_rfl
 i5 := by kernel_rfl
 i9 := by kernel_rfl
 i20 := by kernel_rfl
 i21 := by kernel_rfl
 i37 := by kernel_rfl
 i46 := by kernel_rfl
 i51 := by kernel_rfl
 i53 := by kernel_rfl
 i75 := by kernel_rfl
 i76 := by kernel_rfl
 i80 := by kernel_rfl
 i85 := by kernel_rfl
 i127 := by kernel_rfl
 i143 := by kernel_rfl
 i145 := by kernel_rfl
 i167 := by kernel_rfl
 i168 := by kernel_rfl
 i171 := by kernel_rfl
 i173 := by kernel_rfl
 i175 := by kernel_rfl
 i210 := by kernel_rfl
 i212 := by kernel_rfl
 i232 := by kernel_rfl
 i233 := by kernel_rfl
 m15 := by kernel_rfl
 m16 := by kernel_rfl
 m17 := by kernel_rfl
 m18 := by kernel_rfl
 m19 := by kernel_rfl
 c0 := by kernel_rfl
 c2 := by kernel_rfl
 c3 := by kernel_rfl
 c4 := by kernel_rfl
 c5 := by kernel_rfl
 c9 := by kernel_rfl
 c20 := by kernel_rfl
 c21 := by kernel_rfl
 c37 := by kernel_rfl
 c46 := by kernel_rfl
 c51 := by kernel_rfl
 c53 := by kernel_rfl
 c75 := by kernel_rfl
 c76 := by kernel_rfl
 c80 := by kernel_rfl
 c85 := by kernel_rfl
 c127 := by kernel_rfl
 c143 := by kernel_rfl
 c145 := by kernel_rfl
 c167 := by kernel_rfl
 c168 := by kernel_rfl
 c171 := by kernel_rfl
 c173 := by kernel_rfl
 c175 := by kernel_rfl
 c210 := by kernel_rfl
 c212 := by kernel_rfl
 c213 := by kernel_rfl
 c232 := by kernel_rfl
 c233 := by kernel_rfl }
theorem sh_strconv_Atoi_ok (s : ByteArray) (hmax : s.size ≤ 9223372036854775806) (v : Int) (h : Lib.atoiAll s.data.toList = .ok v) (w : World) :
  Calls Tryz.prog 160 #[.string s] w fun e w' => e = .returned (.tuple #[.int .i64 v, .nilIface]) ∧ (w' = w ∨ ∃ t, w' = Lib.bytesWorld w 5 t) := Any.strconv_Atoi_ok sh_laysC172 s hmax v h w
theorem sh_strconv_Atoi_syntax (s : ByteArray) (hlim : s.size ≤ 281474976710656) (h : Lib.atoiAll s.data.toList = .«syntax») (ev : Value) (w : World) (hv : w.cell? ⟨4, 0, none⟩ = some ev) (hev : ev = .nilIface ∨ ∃ te pe, ev = .iface te pe) :
  Calls Tryz.prog 160 #[.string s] w fun e w' => ∃ N, e = .returned (.tuple #[.int .i64 (0), .iface 219 (.pointer (some ⟨N, 0, none⟩))]) ∧ w.heap.size ≤ N ∧ w'.heap[N]? = some (.cells #[.string ⟨#[65, 116, 111, 105]⟩, .string s, ev] 227 (0, 0)) ∧ Below w.heap.size w w' := Any.strconv_Atoi_syntax sh_laysC172 s hlim h ev w hv hev
theorem sh_strconv_Atoi_range (s : ByteArray) (hlim : s.size ≤ 281474976710656) (h : Lib.atoiAll s.data.toList = .range) (ev : Value) (w : World) (hv : w.cell? ⟨5, 0, none⟩ = some ev) (hev : ev = .nilIface ∨ ∃ te pe, ev = .iface te pe) :
  Calls Tryz.prog 160 #[.string s] w fun e w' => ∃ N, e = .returned (.tuple #[.int .i64 (Lib.atoiSat s.data.toList), .iface 219 (.pointer (some ⟨N, 0, none⟩))]) ∧ w.heap.size ≤ N ∧ w'.heap[N]? = some (.cells #[.string ⟨#[65, 116, 111, 105]⟩, .string s, ev] 227 (0, 0)) ∧ Below w.heap.size w w' := Any.strconv_Atoi_range sh_laysC172 s hlim h ev w hv hev
def sh_laysM171_ren : Go.Shelf.Ren := ⟨fun | 171 => 80 | 243 => 113 | 246 => 139 | 283 => 154 | 284 => 155 | 285 => 156 | 286 => 157 | 129 => 166 | 317 => 165 | 318 => 167 | 319 => 168 | 320 => 169 | 337 => 174 | 338 => 175 | n => n, fun | 3 => 3 | 9 => 9 | 2 => 2 | 4 => 4 | 171 => 198 | 0 => 0 | 53 => 178 | 37 => 55 | 5 => 5 | 173 => 201 | 212 => 208 | 51 => 43 | 20 => 20 | 213 => 209 | 46 => 191 | 232 => 222 | 233 => 223 | n => n, fun | 17 => 1 | 18 => 2 | 19 => 3 | n => n⟩
theorem sh_laysM171 : Go.Proofs.LaysM.n171 Tryz.prog sh_laysM171_ren := {
 mixed := by kernel_rfl
 f129 := Tryz.func166.trans (congrArg some (by kernel_rfl))
 f171 := Tryz.func80.trans (congrArg some (by kernel_rfl))
 f243 := Tryz.func113.trans (congrArg some (by kernel_rfl))
 f246 := Tryz.func139.trans (congrArg some (by kernel_rfl))
 f283 := Tryz.func154.trans (congrArg some (by kernel_rfl))
 f284 := Tryz.func155.trans (congrArg some (by kernel_rfl))
 f285 := Tryz.func156.trans (congrArg some (by kernel_rfl))
 f286 := Tryz.func157.trans (congrArg some (by kernel_rfl))
 f317 := Tryz.func165.trans (congrArg some (by kernel_rfl))
 f318 := Tryz.func167.trans (congrArg some (by kernel_rfl))
 f319 := Tryz.func168.trans (congrArg some (by kernel_rfl))
 f320 := Tryz.func169.trans (congrArg some (by kernel_rfl))
 f337 := Tryz.func174.trans (congrArg some (by kernel_rfl))
 f338 := Tryz.func175.trans (congrArg some (by kernel_rfl))
 t0 := Tryz.underlying0
 a0 := Tryz.isAgg0
 z0 := Tryz.sizeOf0
 v0 := Tryz.zeroValue0
 t2 := Tryz.underlying2
 a2 := Tryz.isAgg2
 z2 := Tryz.sizeOf2
 v2 := Tryz.zeroValue2
 t3 := Tryz.underlying3
 a3 := Tryz.isAgg3
 z3 := Tryz.sizeOf3
 v3 := Tryz.zeroValue3
 t4 := Tryz.underlying4
 a4 := Tryz.isAgg4
 z4 := Tryz.sizeOf4
 v4 := Tryz.zeroValue4
 t5 := Tryz.underlying5
 a5 := Tryz.isAgg5
 z5 := Tryz.sizeOf5
 v5 := Tryz.zeroValue5
 t9 := Tryz.underlying9
 a9 := Tryz.isAgg9
 z9 := Tryz.sizeOf9
 v9 := Tryz.zeroValue9
 t20 := Tryz.underlying20
 a20 := Tryz.isAgg20
 z20 := Tryz.sizeOf20
 v20 := Tryz.zeroValue20
 t37 := Tryz.underlying55
 a37 := Tryz.isAgg55
 z37 := Tryz.sizeOf55
 v37 := Tryz.zeroValue55
 t46 := Tryz.underlying191
 a46 := Tryz.isAgg191
 z46 := Tryz.sizeOf191
 v46 := Tryz.zeroValue191
 t51 := Tryz.underlying43
 a51 := Tryz.isAgg43
 z51 := Tryz.sizeOf43
 v51 := Tryz.zeroValue43
 t53 := Tryz.underlying178
 a53 := Tryz.isAgg178
 z53 := Tryz.sizeOf178
 v53 := Tryz.zeroValue178
 t171 := Tryz.underlying198
 a171 := Tryz.isAgg198
 z171 := Tryz.sizeOf198
 v171 := Tryz.zeroValue198
 t173 := Tryz.underlying201
 a173 := Tryz.isAgg201
 z173 := Tryz.sizeOf201
 v173 := Tryz.zeroValue201
 t212 := Tryz.underlying208
 a212 := Tryz.isAgg208
 z212 := Tryz.sizeOf208
 v212 := Tryz.zeroValue208
 t213 := Tryz.underlying209
 a213 := Tryz.isAgg209
 z213 := Tryz.sizeOf209
 t232 := Tryz.underlying222
 a232 := Tryz.isAgg222
 z232 := Tryz.sizeOf222
 v232 := Tryz.zeroValue222
 t233 := Tryz.underlying223
 a233 := Tryz.isAgg223
 z233 := Tryz.sizeOf223
 v233 := Tryz.zeroValue223
 g17 := by kernel_rfl
 g18 := by kernel_rfl
 g19 := by kernel_rfl
 i0 := by kernel_rfl
 i2 := by kernel_rfl
 i3 := by kernel_rfl
 i4 := by kernel_rfl
 i5 := by kernel_rfl
 i9 := by kernel_rfl
 i20 := by kernel_rfl
 i37 := by kernel_rfl
 i46 := by kernel_rfl
 i51 := by kernel_rfl
 i53 := by kernel_rfl
 i171 := by kernel_rfl
 i173 := by kernel_rfl
 i212 := by kernel_rfl
 i232 := by kernel_rfl
 i233 := by kernel_rfl
 m17 := by kernel_rfl
 m18 := by kernel_rfl
 m19 := by kernel_rfl }
theorem sh_strconv_Itoa (n : Int) (h0 : -9223372036854775808 ≤ n) (h1 : n ≤ 9223372036854775807) (w : World) (htab : Lib.TabIs Tryz.prog w "internal/strconv.uint64pow10" .u64 Lib.pow10Tab) :
  Calls Tryz.prog 80 #[.int .i64 n] w fun e w' => e = .returned (.string ⟨(Lib.itoa n).toArray⟩) ∧ ∃ k os, w' = Go.Sort.grow (w.drewN k) os := Any.strconv_Itoa sh_laysM171 n h0 h1 w htab
end Go.Proofs.YtgcmnkanjcfndaaGreatDoor
namespace Go.Proofs.YtgcmnkanjcfndaaGreatDoor
open Go.RowKit
set_option linter.unusedVariables false
set_option linter.unusedSimpArgs false
theorem g_tab : Tryz.prog.globalNamed "internal/strconv.uint64pow10" = some 1 := by kernel_rfl
structure Laid (w : World) : Prop where
 mx : ∃ m, w.cell? ⟨0, 0, none⟩ = some (.int .i64 m)
 tab : Lib.TabIs Tryz.prog w "internal/strconv.uint64pow10" .u64 Lib.pow10Tab
 syn : ∃ te pe, w.cell? ⟨4, 0, none⟩ = some (.iface te pe)
 rng : ∃ te pe, w.cell? ⟨5, 0, none⟩ = some (.iface te pe)
theorem Laid.below {w w' : World} (h : Laid w) (k : Below w.heap.size w w') : Laid w' := by
 refine ⟨?_, ?_, ?_, ?_⟩
 ·obtain ⟨m, hm⟩ := h.mx
  exact ⟨m, keepc k hm⟩
 ·exact var?_below k g_tab (mcell_lt (Lib.TabIs.cell h.tab g_tab 0 (by decide))) h.tab
 ·obtain ⟨a, b, hm⟩ := h.syn
  exact ⟨a, b, keepc k hm⟩
 ·obtain ⟨a, b, hm⟩ := h.rng
  exact ⟨a, b, keepc k hm⟩
theorem bel_grow (w : World) (os : Array Obj) : Below w.heap.size w (Go.Sort.grow w os) := by
 refine ⟨rfl, rfl, rfl, by simp [Go.Sort.grow], fun j hj => ?_⟩
 simp [Go.Sort.grow, Array.getElem?_append_left hj]
theorem itoa_any (n : Int) (h0 : -9223372036854775808 ≤ n) (h1 : n ≤ 9223372036854775807) (w : World) (hL : Laid w) :
  Calls Tryz.prog 80 #[.int .i64 n] w fun e w' => e = .returned (.string (sof (Lib.itoa n))) ∧ Below w.heap.size w w' :=
 (sh_strconv_Itoa n h0 h1 w hL.tab).mono fun e w' ⟨he, k, os, hw⟩ => ⟨he, by subst hw; exact bel (bel_dn w k) (bel_grow _ os)⟩
end Go.Proofs.YtgcmnkanjcfndaaGreatDoor
