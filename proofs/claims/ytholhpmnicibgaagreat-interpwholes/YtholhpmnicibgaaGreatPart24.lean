import Derived.Test.YtholhpmnicibgaaGreatPart23
import Derived.Test.YtholhpmnicibgaaGreatPart1
namespace Go.Proofs.YtholhpmnicibgaaGreat
open Go.RowKit
set_option linter.unusedVariables false
set_option linter.unusedSimpArgs false

def SetOK (c : Cd) (f : Fr) (r : Nat) : Prop := (regT c.regs (r : Int)).kind = 3 → (f.vecs r).length = lenOf c (regT c.regs (r : Int)).par
theorem fits_in {rs : List Ty} {l n : Int} {m : Ty} (h : fitsReg rs l n m = true) (h0 : 0 < rs.length) : 0 ≤ n ∧ n < (rs.length : Int) := by
  by_cases hl : l = 0
  · unfold fitsReg at h
    rw [if_pos hl] at h
    simp only [beq_iff_eq] at h
    omega
  · exact fitsReg_lt h hl
theorem fits_means {rs : List Ty} {l n : Int} {m : Ty} (h : fitsReg rs l n m = true) (hl : l ≠ 0) : meansP l (regT rs n) m = true := by
  unfold fitsReg at h
  rw [if_neg hl] at h
  simp only [Bool.and_eq_true] at h
  exact h.2
theorem fitsC_n {c : Cd} {i : Ins} {r : Rw} (h : fitsC c i r = true) : fitsRest c i r.n (mainT c.regs i r) = true := by
  unfold fitsC at h; simp only [Bool.and_eq_true] at h; exact h.2.2.2.2
theorem read_set {s : Wk} {i : Ins} {r : Rw} (h : readOK s i r = true) {n : Int} (hn : n ∈ readsP i r) : n.toNat ∈ s.set := by
  unfold readOK at h
  have := List.all_eq_true.1 h n hn
  simpa using this
structure NeedI (c : Cd) (f : Fr) (i : Ins) : Prop where
  num : isNum i.op = true → 0 ≤ i.d ∧ i.d < (c.regs.length : Int) ∧ (i.op ≠ 1 → 0 ≤ i.a ∧ i.a < (c.regs.length : Int)) ∧ (i.op = 16 → 0 ≤ i.b ∧ i.b < (c.regs.length : Int)) ∧ (regT c.regs i.d).kind = 1
  whole : isWhole i.op = true → 0 ≤ i.d ∧ i.d < (c.regs.length : Int) ∧ (0 ≤ i.a ∧ i.a < (c.regs.length : Int)) ∧ (0 ≤ i.b ∧ i.b < (c.regs.length : Int)) ∧ (0 ≤ i.c ∧ i.c < (c.regs.length : Int)) ∧ (regT c.regs i.d).kind = 2 ∧ (i.op = 2 → 0 ≤ i.n ∧ i.n ≤ 2147483647)
  part : i.op = 29 ∨ i.op = 30 → PartOK c i.d i.n
  out : i.op = 31 → PartOK c i.a i.n ∧ (f.vecs i.a.toNat).length = lenOf c (regT c.regs i.a).par
  load : i.op = 32 → 0 ≤ i.d ∧ i.d < (c.regs.length : Int) ∧ 0 ≤ i.n ∧ i.n < (c.slots.length : Int) ∧ slotT c.slots i.n = regT c.regs i.d
  store : i.op = 33 → 0 ≤ i.a ∧ i.a < (c.regs.length : Int) ∧ 0 ≤ i.n ∧ i.n < (c.slots.length : Int) ∧ slotT c.slots i.n = regT c.regs i.a ∧ SetOK c f i.a.toNat
  elem : elemP i.op = true → 0 ≤ i.d ∧ i.d < (c.regs.length : Int) ∧ (0 ≤ i.a ∧ i.a < (c.regs.length : Int)) ∧ ∀ r ∈ readsP i (rowP i.op), 0 ≤ r ∧ r < (c.regs.length : Int) ∧ SetOK c f r.toNat ∧ (regT c.regs r = regT c.regs i.d ∨ ((regT c.regs r).kind = 1 ∧ (regT c.regs i.d).kind = 3))
theorem mem_a {i : Ins} {r : Rw} (h : r.a ≠ 0) : i.a ∈ readsP i r := by unfold readsP; simp [h]
theorem need_of {c : Cd} {f : Fr} {s : Wk} {i : Ins} (t : takesP c s i = true) (hs : ∀ r ∈ s.set, SetOK c f r) : NeedI c f i := by
  obtain ⟨_, h2, _, h4⟩ := takes_open t
  have hd := fitsC_d h2
  have ha := fitsC_a h2
  have hb := fitsC_b h2
  have hc := fitsC_c h2
  have hn := fitsC_n h2
  have hr := fun {n : Int} (hn : n ∈ readsP i (rowP i.op)) => hs _ (read_set h4 hn)
  obtain ⟨op, D, A, B, Ec, nn, bt⟩ := i
  simp only at *
  refine ⟨fun h => ?_, fun h => ?_, fun h => ?_, fun h => ?_, fun h => ?_, fun h => ?_, fun h => ?_⟩
  · unfold isNum at h
    simp only [Bool.or_eq_true, beq_iff_eq] at h
    have hop : op = 1 ∨ op = 16 ∨ op = 17 ∨ op = 19 ∨ op = 20 := by omega
    clear h
    rcases hop with rfl | rfl | rfl | rfl | rfl
    all_goals
      have d := fitsReg_lt hd (by decide)
      have dm := fits_means hd (by decide)
      have a1 := fits_in ha (by omega)
      have b1 := fits_in hb (by omega)
      exact ⟨d.1, d.2, fun _ => a1, fun _ => b1, by simpa [meansP, rowP] using dm⟩
  · unfold isWhole at h
    simp only [Bool.or_eq_true, Bool.and_eq_true, beq_iff_eq, decide_eq_true_eq] at h
    have hop : op = 2 ∨ op = 18 ∨ op = 21 ∨ op = 22 ∨ op = 23 ∨ op = 24 ∨ op = 25 ∨ op = 26 ∨ op = 27 ∨ op = 28 := by omega
    clear h
    rcases hop with rfl | rfl | rfl | rfl | rfl | rfl | rfl | rfl | rfl | rfl
    all_goals
      have d := fitsReg_lt hd (by decide)
      have dm := fits_means hd (by decide)
      have a1 := fits_in ha (by omega)
      have b1 := fits_in hb (by omega)
      have c1 := fits_in hc (by omega)
      refine ⟨d.1, d.2, a1, b1, c1, by simpa [meansP, rowP] using dm, fun e => ?_⟩
      simp [fitsRest, rowP, fitsN, wholeB] at hn
      show 0 ≤ nn ∧ nn ≤ 2147483647
      omega
  · rcases h with rfl | rfl
    all_goals
      have d := fitsReg_lt hd (by decide)
      have dm := fits_means hd (by decide)
      refine ⟨d.1, d.2, by simpa [meansP, rowP] using dm, ?_⟩
      simp [fitsRest, rowP, fitsN, mainT, mainR] at hn
      first | exact hn.2 | (simpa using hn.2)
  · subst h
    have d := fitsReg_lt ha (by decide)
    have dm := fits_means ha (by decide)
    have k3 : (regT c.regs A).kind = 3 := by simpa [meansP, rowP] using dm
    refine ⟨⟨d.1, d.2, k3, ?_⟩, ?_⟩
    · simp [fitsRest, rowP, fitsN, mainT, mainR] at hn
      first | exact hn.2 | (simpa using hn.2)
    · have := hr (n := A) (mem_a (r := rowP 31) (by decide))
      have e : ((A.toNat : Nat) : Int) = A := by omega
      unfold SetOK at this
      rw [e] at this
      exact this k3
  · subst h
    have d := fitsReg_lt hd (by decide)
    simp [fitsRest, rowP, fitsN, mainT, mainR] at hn
    have := isPl_iff.1 hn.2.1
    exact ⟨d.1, d.2, this.1, this.2, hn.2.2⟩
  · subst h
    have d := fitsReg_lt ha (by decide)
    simp [fitsRest, rowP, fitsN, mainT, mainR] at hn
    have := isPl_iff.1 hn.2.1
    exact ⟨d.1, d.2, this.1, this.2, hn.2.2, hr (n := A) (mem_a (r := rowP 33) (by decide))⟩
  · unfold elemP at h
    simp only [Bool.and_eq_true, decide_eq_true_eq] at h
    have hop : op = 3 ∨ op = 4 ∨ op = 5 ∨ op = 6 ∨ op = 7 ∨ op = 8 ∨ op = 9 ∨ op = 10 ∨ op = 11 ∨ op = 12 ∨ op = 13 ∨ op = 14 ∨ op = 15 := by omega
    clear h
    rcases hop with rfl | rfl | rfl | rfl | rfl | rfl | rfl | rfl | rfl | rfl | rfl | rfl | rfl
    all_goals
      have d := fitsReg_lt hd (by decide)
      have a1 := fitsReg_lt ha (by decide)
      refine ⟨d.1, d.2, a1, fun r hrr => ⟨?_, ?_, hr hrr, ?_⟩⟩
      all_goals
        have am := fits_means ha (by decide)
        simp [readsP, rowP] at hrr
        first
          | (have bm := fits_means hb (by decide)
             have b1 := fitsReg_lt hb (by decide)
             have cm := fits_means hc (by decide)
             have c1 := fitsReg_lt hc (by decide)
             simp [meansP, rowP, mainT, mainR] at am bm cm
             rcases hrr with rfl | rfl | rfl <;> first | omega | (simpa using am) | (simpa using bm) | (simpa using cm))
          | (have bm := fits_means hb (by decide)
             have b1 := fitsReg_lt hb (by decide)
             simp [meansP, rowP, mainT, mainR] at am bm
             rcases hrr with rfl | rfl <;> first | omega | (simpa using am) | (simpa using bm))
          | (simp [meansP, rowP, mainT, mainR] at am
             subst hrr
             first | omega | (simpa using am))

theorem isP_least' (X : Nat → Int) (n : Nat) (hX : ∀ i, IsP (X i)) : IsP (fleast X n) := foldx_lo isP_min (by unfold IsP; decide) hX n
theorem good_width1 {c : Cd} (hg : Good c) {r : Int} (h0 : 0 ≤ r) (h1 : r < (c.regs.length : Int)) (h3 : (regT c.regs r).kind = 3) : 1 ≤ lenOf c (regT c.regs r).par ∧ widthP c (regT c.regs r) = lenOf c (regT c.regs r).par := by
  obtain ⟨r, rfl⟩ : ∃ j : Nat, r = (j : Int) := ⟨r.toNat, by omega⟩
  have hr : r < c.regs.length := by omega
  rw [iregT_at hr] at h3 ⊢
  have hp := isPl_iff.1 (hg.type (List.getElem_mem hr) h3)
  obtain ⟨pp, hpp⟩ : ∃ pp, c.regs[r].par = pp := ⟨_, rfl⟩
  refine ⟨?_, by unfold widthP; rw [if_pos h3]⟩
  rw [hpp] at hp ⊢
  obtain ⟨p, rfl⟩ : ∃ j : Nat, pp = (j : Int) := ⟨pp.toNat, by omega⟩
  obtain ⟨_, e2, e3, _⟩ := numAt_eq hg (p := p) (by omega)
  omega
theorem rd_ok {c : Cd} {f : Fr} (hg : Good c) (ok : OkF c f) {r : Int} (h0 : 0 ≤ r) (h1 : r < (c.regs.length : Int)) (hs : SetOK c f r.toNat) : HdOK c (regT c.regs r) (rdP c f r) := by
  have e : ((r.toNat : Nat) : Int) = r := by omega
  unfold SetOK at hs
  rw [e] at hs
  have hty : (regT c.regs r).kind = 1 ∨ (regT c.regs r).kind = 2 ∨ (regT c.regs r).kind = 3 := by
    obtain ⟨r, rfl⟩ : ∃ j : Nat, r = (j : Int) := ⟨r.toNat, by omega⟩
    have hr : r < c.regs.length := by omega
    rw [iregT_at hr]
    have := hg.regs _ (List.getElem_mem hr)
    unfold typeMay at this
    split at this
    · omega
    · split at this
      · omega
      · cases this
  unfold rdP HdOK
  rcases hty with h | h | h
  · rw [if_pos h]
    refine ⟨by unfold widthP; rw [if_neg (by omega), if_pos h]; rfl, fun y hy => ?_, Int.le_refl _, by show (0 : Int) ≤ 2147483647; decide⟩
    simp at hy
    rw [hy]
    exact ok.nums _
  · rw [if_neg (by omega), if_pos h]
    exact ⟨by unfold widthP; rw [if_neg (by omega), if_neg (by omega)]; rfl, fun y hy => by simp at hy, ok.whs _⟩
  · rw [if_neg (by omega), if_neg (by omega)]
    refine ⟨?_, ok.vecs _, Int.le_refl _, by show (0 : Int) ≤ 2147483647; decide⟩
    rw [(good_width1 hg h0 h1 h).2]
    exact hs h
theorem app_isP {op : Int} {args : List (List Int)} (h : ∀ l ∈ args, ∀ y ∈ l, IsP y) : ∀ y ∈ appP op args, IsP y := by
  have hX : ∀ i j, IsP (xF args i j) := fun i j => by
    unfold xF
    refine isP_atL ?_ j
    by_cases hik : i < args.length
    · rw [vecAt_at hik]; exact h _ (List.getElem_mem hik)
    · unfold vecAt; rw [List.getElem?_eq_none (by omega)]; intro y hy; cases hy
  intro y hy
  unfold appP at hy
  split at hy
  · simp only [List.mem_map] at hy
    obtain ⟨k, _, rfl⟩ := hy
    exact isP_opf _ _ _ _ (isP_elAt hX _ _ _) (isP_elAt hX _ _ _) (isP_elAt hX _ _ _)
  · cases hy
theorem elem_args {c : Cd} {f : Fr} {i : Ins} (hg : Good c) (ok : OkF c f) (he : elemP i.op = true) (nd : NeedI c f i) (hk : (regT c.regs i.d).kind ≠ 2) :
    1 ≤ widthP c (regT c.regs i.d) ∧ (∀ r ∈ readsP i (rowP i.op), 0 ≤ r ∧ r < (c.regs.length : Int) ∧ ((rdP c f r).pats.length = 1 ∨ (rdP c f r).pats.length = widthP c (regT c.regs i.d)) ∧ ∀ y ∈ (rdP c f r).pats, IsP y) ∧ ((regT c.regs i.d).kind = 1 ∨ (regT c.regs i.d).kind = 3) := by
  obtain ⟨d0, d1, _, hr⟩ := nd.elem he
  have hty : (regT c.regs i.d).kind = 1 ∨ (regT c.regs i.d).kind = 3 := by
    obtain ⟨r, hrr⟩ : ∃ j : Nat, i.d = (j : Int) := ⟨i.d.toNat, by omega⟩
    rw [hrr] at hk d1 ⊢
    have hr : r < c.regs.length := by omega
    rw [iregT_at hr] at hk ⊢
    have := hg.regs _ (List.getElem_mem hr)
    unfold typeMay at this
    split at this
    · omega
    · split at this
      · omega
      · cases this
  refine ⟨?_, fun r hm => ?_, hty⟩
  · rcases hty with h | h
    · unfold widthP; rw [if_neg (by omega), if_pos h]; exact Nat.le_refl _
    · rw [(good_width1 hg d0 d1 h).2]; exact (good_width1 hg d0 d1 h).1
  · obtain ⟨r0, r1, hs, hm2⟩ := hr r hm
    have hh := rd_ok hg ok r0 r1 hs
    refine ⟨r0, r1, ?_, hh.2.1⟩
    rcases hm2 with e | ⟨e, _⟩
    · right; rw [← e]; exact hh.1
    · left; rw [hh.1]; unfold widthP; rw [if_neg (by omega), if_pos e]
theorem elem_shape {c : Cd} {f : Fr} {i : Ins} (hg : Good c) (ok : OkF c f) (he : elemP i.op = true) (nd : NeedI c f i) (hk : (regT c.regs i.d).kind ≠ 2) :
    ((appP i.op (argsP c f i)).length = 1 ∨ (appP i.op (argsP c f i)).length = widthP c (regT c.regs i.d)) ∧ ∀ y ∈ appP i.op (argsP c f i), IsP y := by
  obtain ⟨h1, h2, _⟩ := elem_args hg ok he nd hk
  have hall : ∀ l ∈ argsP c f i, (l.length = 1 ∨ l.length = widthP c (regT c.regs i.d)) ∧ ∀ y ∈ l, IsP y := by
    intro l hl
    unfold argsP at hl
    simp only [List.mem_map] at hl
    obtain ⟨r, hr, rfl⟩ := hl
    exact (h2 r hr).2.2
  have hne : (argsP c f i).length ≠ 0 := by
    unfold argsP
    rw [List.length_map, ← (takes_reads i he).1]
    exact (takes_reads i he).2
  obtain ⟨n, hn, hn2⟩ := ishp_good (l := lF (argsP c f i)) h1 ((argsP c f i).length - 1) (fun k hk => by
    unfold lF
    rw [vecAt_at (by omega)]
    exact (hall _ (List.getElem_mem _)).1)
  exact ⟨by rw [(app_len (op := i.op) hn).1]; exact hn2, app_isP fun l hl => (hall l hl).2⟩
theorem isP_head {l : List Int} (h : ∀ y ∈ l, IsP y) : IsP (l.headD 0) := by
  cases l with
  | nil => exact isP_0
  | cons y l => exact h y (by simp)
theorem st_ok {c : Cd} {f : Fr} (ok : OkF c f) {r : Int} {h : Hd} (hp : ∀ y ∈ h.pats, IsP y) (hl : h.pats.length ≤ 4096) (hw : 0 ≤ h.whole ∧ h.whole ≤ 2147483647) : OkF c (stP c f r h) := by
  unfold stP
  split
  · exact ⟨putN_all ok.nums (isP_head hp), ok.whs, ok.vecs, ok.vecsL, ok.slotsL, ok.slots⟩
  · split
    · exact ⟨ok.nums, putN_all (Q := fun y : Int => 0 ≤ y ∧ y ≤ 2147483647) ok.whs hw, ok.vecs, ok.vecsL, ok.slotsL, ok.slots⟩
    · exact ⟨ok.nums, ok.whs, putN_all (Q := fun l : List Int => ∀ y ∈ l, IsP y) ok.vecs hp, putN_all (Q := fun l : List Int => l.length ≤ 4096) ok.vecsL hl, ok.slotsL, ok.slots⟩
theorem st_set {c : Cd} {f : Fr} {r : Int} (hr : 0 ≤ r) {h : Hd} (hl : (regT c.regs r).kind = 3 → h.pats.length = lenOf c (regT c.regs r).par) {k : Nat} (hk : k ≠ r.toNat → SetOK c f k) : SetOK c (stP c f r h) k := by
  intro h3
  by_cases e : k = r.toNat
  · have e2 : (k : Int) = r := by omega
    rw [e2] at h3 ⊢
    unfold stP
    rw [if_neg (by omega), if_neg (by omega)]
    simp only
    rw [e, putN_at]
    exact hl h3
  · have := hk e h3
    unfold stP
    split
    · exact this
    · split
      · exact this
      · simp only
        rw [putN_ne _ _ e]
        exact this

end Go.Proofs.YtholhpmnicibgaaGreat
namespace Go.Proofs.YtholhpmnicibgaaGreat
open Go.RowKit
set_option linter.unusedVariables false
set_option linter.unusedSimpArgs false
theorem op_cases {op : Int} (h : knownP op = true) : isNum op = true ∨ isWhole op = true ∨ op = 29 ∨ op = 30 ∨ op = 31 ∨ op = 32 ∨ op = 33 ∨ (34 ≤ op ∧ op ≤ 37) ∨ elemP op = true := by
 unfold knownP at h
 unfold isNum isWhole elemP
 simp only [Bool.and_eq_true, Bool.or_eq_true, decide_eq_true_eq, beq_iff_eq] at h ⊢
 omega
theorem elem_not {op : Int} (h : elemP op = true) : isNum op = false ∧ isWhole op = false ∧ op ≠ 29 ∧ op ≠ 30 ∧ op ≠ 31 ∧ op ≠ 32 ∧ op ≠ 33 ∧ ¬ (34 ≤ op ∧ op ≤ 37) := by
 unfold elemP at h
 simp only [Bool.and_eq_true, decide_eq_true_eq] at h
 have : op = 3 ∨ op = 4 ∨ op = 5 ∨ op = 6 ∨ op = 7 ∨ op = 8 ∨ op = 9 ∨ op = 10 ∨ op = 11 ∨ op = 12 ∨ op = 13 ∨ op = 14 ∨ op = 15 := by omega
 rcases this with rfl | rfl | rfl | rfl | rfl | rfl | rfl | rfl | rfl | rfl | rfl | rfl | rfl <;> decide
theorem whole_not {op : Int} (h : isWhole op = true) : isNum op = false ∧ op ≠ 29 ∧ op ≠ 30 ∧ op ≠ 31 ∧ op ≠ 32 ∧ op ≠ 33 ∧ ¬ (34 ≤ op ∧ op ≤ 37) := by
 unfold isWhole at h
 simp only [Bool.or_eq_true, Bool.and_eq_true, beq_iff_eq, decide_eq_true_eq] at h
 have : op = 2 ∨ op = 18 ∨ op = 21 ∨ op = 22 ∨ op = 23 ∨ op = 24 ∨ op = 25 ∨ op = 26 ∨ op = 27 ∨ op = 28 := by omega
 rcases this with rfl | rfl | rfl | rfl | rfl | rfl | rfl | rfl | rfl | rfl <;> decide
section
variable {c : Cd} {G P : List (List Int)} {f : Fr} {i : Ins}
theorem do_is_num (h : isNum i.op = true) : doI c G P f i = { f with nums := putN f.nums i.d.toNat (numI f i) } := by unfold doI; rw [if_pos h]
theorem do_is_whole (h : isWhole i.op = true) : doI c G P f i = { f with whs := putN f.whs i.d.toNat (wholeI f i) } := by
 unfold doI; rw [(whole_not h).1, if_neg (by decide), if_pos h]
theorem do_is_29 (h : i.op = 29) : doI c G P f i = { f with vecs := putN f.vecs i.d.toNat (partP c G i) } := by
 unfold doI
 rw [h, if_neg (by decide), if_neg (by decide), if_pos rfl]
theorem do_is_30 (h : i.op = 30) : doI c G P f i = { f with vecs := putN f.vecs i.d.toNat (partP c P i) } := by
 unfold doI
 rw [h, if_neg (by decide), if_neg (by decide), if_neg (by decide), if_pos rfl]
theorem do_is_31 (h : i.op = 31) : doI c G P f i = { f with outs := outP f.outs (regT c.regs i.a).par.toNat (apartP c (regT c.regs i.a).par) i.n.toNat (f.vecs i.a.toNat) } := by
 unfold doI
 rw [h, if_neg (by decide), if_neg (by decide), if_neg (by decide), if_neg (by decide), if_pos rfl]
theorem do_is_32 (h : i.op = 32) : doI c G P f i = stP c f i.d ((f.slots[i.n.toNat]?).getD ⟨[], 0⟩) := by
 unfold doI
 rw [h, if_neg (by decide), if_neg (by decide), if_neg (by decide), if_neg (by decide), if_neg (by decide), if_pos rfl]
theorem do_is_33 (h : i.op = 33) : doI c G P f i = { f with slots := f.slots.set i.n.toNat (rdP c f i.a) } := by
 unfold doI
 rw [h, if_neg (by decide), if_neg (by decide), if_neg (by decide), if_neg (by decide), if_neg (by decide), if_neg (by decide), if_pos rfl]
theorem do_is_mark (h : 34 ≤ i.op ∧ i.op ≤ 37) : doI c G P f i = f := by
 have h0 : isNum i.op = false ∧ isWhole i.op = false := by
  have : i.op = 34 ∨ i.op = 35 ∨ i.op = 36 ∨ i.op = 37 := by omega
  rcases this with e | e | e | e <;> rw [e] <;> decide
 unfold doI
 rw [h0.1, h0.2, if_neg (by decide), if_neg (by decide), if_neg (by omega), if_neg (by omega), if_neg (by omega), if_neg (by omega), if_neg (by omega), if_pos h]
theorem do_is_elem (h : elemP i.op = true) : doI c G P f i = elemI c f i := by
 obtain ⟨h1, h2, h3, h4, h5, h6, h7, h8⟩ := elem_not h
 unfold doI
 rw [h1, h2, if_neg (by decide), if_neg (by decide), if_neg h3, if_neg h4, if_neg h5, if_neg h6, if_neg h7, if_neg h8]
end
theorem num_isP {f : Fr} {c : Cd} (ok : OkF c f) {i : Ins} (hb : IsP i.bits) : IsP (numI f i) := by
 unfold numI
 refine isP_ite (fpow_lo _ _ (ok.nums _).1 (ok.nums _).2) (isP_ite (ffrom_lo _) (isP_ite (isP_sum _ _ (isP_atL (ok.vecs _))) (isP_ite (isP_least' _ _ (isP_atL (ok.vecs _))) hb)))
theorem one01_ok (b : Bool) : 0 ≤ one01 b ∧ one01 b ≤ 2147483647 := by cases b <;> decide
theorem ite_ok {p : Prop} [Decidable p] {x y : Int} (h : p → 0 ≤ x ∧ x ≤ 2147483647) (k : ¬ p → 0 ≤ y ∧ y ≤ 2147483647) : 0 ≤ (if p then x else y) ∧ (if p then x else y) ≤ 2147483647 := by
 split
 ·rename_i e; exact h e
 ·rename_i e; exact k e
theorem whole_ok {f : Fr} {c : Cd} (ok : OkF c f) {i : Ins} (hw : isWhole i.op = true) (hn : i.op = 2 → 0 ≤ i.n ∧ i.n ≤ 2147483647) : 0 ≤ wholeI f i ∧ wholeI f i ≤ 2147483647 := by
 have a := ok.whs i.a.toNat
 have b := ok.whs i.b.toNat
 have d := ok.whs i.c.toNat
 unfold isWhole at hw
 simp only [Bool.or_eq_true, Bool.and_eq_true, beq_iff_eq, decide_eq_true_eq] at hw
 unfold wholeI
 refine ite_ok (fun _ => one01_ok _) fun h1 => ite_ok (fun _ => by omega) fun h2 => ite_ok (fun _ => one01_ok _) fun h3 => ite_ok (fun _ => one01_ok _) fun h4 => ite_ok (fun _ => one01_ok _) fun h5 => ite_ok (fun _ => one01_ok _) fun h6 => ite_ok (fun _ => ite_ok (fun _ => d) fun _ => b) fun h7 => ite_ok (fun _ => by omega) fun h8 => ite_ok (fun _ => ite_ok (fun _ => by decide) fun _ => ⟨Int.ediv_nonneg a.1 b.1, ?_⟩) fun h9 => hn (by omega)
 have := Int.ediv_le_self (f.whs i.b.toNat) a.1
 omega
theorem do_ok {c : Cd} {G P : List (List Int)} {f : Fr} {i : Ins} (hg : Good c) (ok : OkF c f) (hk : knownP i.op = true) (hb : IsP i.bits) (nd : NeedI c f i) (fg : FitV c G) (fp : FitV c P) : OkF c (doI c G P f i) := by
 have pl : ∀ L : List (List Int), FitV c L → (∀ y ∈ partP c L i, IsP y) ∧ (partP c L i).length ≤ 4096 := fun L hL => by
  refine ⟨fun y hy => ?_, by unfold partP; simp only [List.length_map, List.length_range]; exact hg.lenOf _⟩
  unfold partP at hy
  simp only [List.mem_map] at hy
  obtain ⟨k, _, rfl⟩ := hy
  refine isP_canon _ (isP_atL ?_ _)
  unfold vecAt
  cases e : L[(regT c.regs i.d).par.toNat]? with
  | none => intro y hy; cases hy
  | some l => exact hL.isP l (List.mem_of_getElem? e)
 rcases op_cases hk with h | h | h | h | h | h | h | h | h
 ·rw [do_is_num h]; exact ⟨putN_all ok.nums (num_isP ok hb), ok.whs, ok.vecs, ok.vecsL, ok.slotsL, ok.slots⟩
 ·rw [do_is_whole h]
  exact ⟨ok.nums, putN_all (Q := fun y : Int => 0 ≤ y ∧ y ≤ 2147483647) ok.whs (whole_ok ok h (nd.whole h).2.2.2.2.2.2), ok.vecs, ok.vecsL, ok.slotsL, ok.slots⟩
 ·rw [do_is_29 h]; exact ⟨ok.nums, ok.whs, putN_all (Q := fun l : List Int => ∀ y ∈ l, IsP y) ok.vecs (pl G fg).1, putN_all (Q := fun l : List Int => l.length ≤ 4096) ok.vecsL (pl G fg).2, ok.slotsL, ok.slots⟩
 ·rw [do_is_30 h]; exact ⟨ok.nums, ok.whs, putN_all (Q := fun l : List Int => ∀ y ∈ l, IsP y) ok.vecs (pl P fp).1, putN_all (Q := fun l : List Int => l.length ≤ 4096) ok.vecsL (pl P fp).2, ok.slotsL, ok.slots⟩
 ·rw [do_is_31 h]; exact ⟨ok.nums, ok.whs, ok.vecs, ok.vecsL, ok.slotsL, ok.slots⟩
 ·rw [do_is_32 h]
  obtain ⟨d0, d1, n0, n1, ht⟩ := nd.load h
  have hn : i.n.toNat < c.slots.length := by omega
  have hn2 : i.n.toNat < f.slots.length := by rw [ok.slotsL]; exact hn
  have hh := ok.slots i.n.toNat hn hn2
  rw [List.getElem?_eq_getElem hn2, Option.getD_some]
  exact st_ok ok hh.2.1 (by rw [hh.1]; exact hg.width _) hh.2.2
 ·rw [do_is_33 h]
  obtain ⟨a0, a1, n0, n1, ht, hs⟩ := nd.store h
  have hh := rd_ok hg ok a0 a1 hs
  refine ⟨ok.nums, ok.whs, ok.vecs, ok.vecsL, by simp [ok.slotsL], fun j h1 h2 => ?_⟩
  simp only [List.getElem_set]
  split
  ·rename_i e
   subst e
   have : slotT c.slots i.n = c.slots[i.n.toNat].ty := by unfold slotT; rw [List.getElem?_eq_getElem h1]; rfl
   rw [← this, ht]
   exact hh
  ·exact ok.slots j h1 (by simpa using h2)
 ·rw [do_is_mark h]; exact ok
 ·rw [do_is_elem h]
  obtain ⟨d0, d1, a1, _⟩ := nd.elem h
  unfold elemI
  by_cases h2 : (regT c.regs i.d).kind = 2
  ·rw [if_pos h2]; exact ⟨ok.nums, putN_all (Q := fun y : Int => 0 ≤ y ∧ y ≤ 2147483647) ok.whs (ok.whs _), ok.vecs, ok.vecsL, ok.slotsL, ok.slots⟩
  ·rw [if_neg h2]
   obtain ⟨s1, s2⟩ := elem_shape hg ok h nd h2
   have hw := hg.width (regT c.regs i.d)
   refine st_ok ok ?_ ?_ ⟨Int.le_refl _, by show (0 : Int) ≤ 2147483647; decide⟩
   ·intro y hy
    dsimp only at hy
    split at hy
    ·unfold fillP at hy
     rw [List.eq_of_mem_replicate hy]
     exact isP_canon _ (isP_head s2)
    ·exact s2 y hy
   ·dsimp only
    split
    ·unfold fillP; rw [List.length_replicate]; exact hw
    ·omega
theorem do_set {c : Cd} {G P : List (List Int)} {f : Fr} {i : Ins} (hg : Good c) (ok : OkF c f) (hk : knownP i.op = true) (nd : NeedI c f i) {r : Nat} (hr : ((rowP i.op).d = 0 ∨ r ≠ i.d.toNat) → SetOK c f r) : SetOK c (doI c G P f i) r := by
 have pl : ∀ L : List (List Int), (partP c L i).length = lenOf c (regT c.regs i.d).par := fun L => by unfold partP; simp
 have other : ∀ (f' : Fr), f'.vecs = f.vecs → ((rowP i.op).d ≠ 0 → (regT c.regs i.d).kind ≠ 3 ∧ 0 ≤ i.d) → SetOK c f' r := fun f' hv hk3 h3 => by
  rw [hv]
  refine hr ?_ h3
  by_cases e : (rowP i.op).d = 0
  ·exact .inl e
  ·refine .inr fun e2 => (hk3 e).1 ?_
   have := (hk3 e).2
   have e3 : (r : Int) = i.d := by omega
   rw [e3] at h3
   exact h3
 have vec : ∀ L : List (List Int), 0 ≤ i.d → (rowP i.op).d ≠ 0 → SetOK c { f with vecs := putN f.vecs i.d.toNat (partP c L i) } r := fun L h0 hd h3 => by
  by_cases e : r = i.d.toNat
  ·have e3 : (r : Int) = i.d := by omega
   rw [e3]
   show (putN f.vecs i.d.toNat (partP c L i) r).length = _
   rw [e, putN_at, pl]
  ·show (putN f.vecs i.d.toNat (partP c L i) r).length = _
   rw [putN_ne _ _ e]
   exact hr (.inr e) h3
 rcases op_cases hk with h | h | h | h | h | h | h | h | h
 ·rw [do_is_num h]; exact other _ rfl fun _ => ⟨by rw [(nd.num h).2.2.2.2]; decide, (nd.num h).1⟩
 ·rw [do_is_whole h]; exact other _ rfl fun _ => ⟨by rw [(nd.whole h).2.2.2.2.2.1]; decide, (nd.whole h).1⟩
 ·rw [do_is_29 h]; exact vec G (nd.part (.inl h)).r0 (by rw [h]; decide)
 ·rw [do_is_30 h]; exact vec P (nd.part (.inr h)).r0 (by rw [h]; decide)
 ·rw [do_is_31 h]; exact other _ rfl fun e => absurd (by rw [h]; decide) e
 ·rw [do_is_32 h]
  obtain ⟨d0, d1, n0, n1, ht⟩ := nd.load h
  have hn : i.n.toNat < c.slots.length := by omega
  have hn2 : i.n.toNat < f.slots.length := by rw [ok.slotsL]; exact hn
  have hh := ok.slots i.n.toNat hn hn2
  rw [List.getElem?_eq_getElem hn2, Option.getD_some]
  refine st_set d0 (fun h3 => ?_) fun e => hr (.inr e)
  have : slotT c.slots i.n = c.slots[i.n.toNat].ty := by unfold slotT; rw [List.getElem?_eq_getElem hn]; rfl
  rw [hh.1, ← this, ht]
  exact (good_width1 hg d0 d1 h3).2
 ·rw [do_is_33 h]; exact other _ rfl fun e => absurd (by rw [h]; decide) e
 ·rw [do_is_mark h]
  refine hr (.inl ?_)
  have : i.op = 34 ∨ i.op = 35 ∨ i.op = 36 ∨ i.op = 37 := by omega
  rcases this with e | e | e | e <;> rw [e] <;> decide
 ·rw [do_is_elem h]
  obtain ⟨d0, d1, a1, _⟩ := nd.elem h
  unfold elemI
  by_cases h2 : (regT c.regs i.d).kind = 2
  ·rw [if_pos h2]; exact other _ rfl fun _ => ⟨by rw [h2]; decide, d0⟩
  ·rw [if_neg h2]
   obtain ⟨s1, s2⟩ := elem_shape hg ok h nd h2
   refine st_set d0 (fun h3 => ?_) fun e => hr (.inr e)
   have hw := (good_width1 hg d0 d1 h3)
   dsimp only
   rw [hw.2] at s1 ⊢
   split
   ·unfold fillP; rw [List.length_replicate]; exact hw.2
   ·omega
end Go.Proofs.YtholhpmnicibgaaGreat
namespace Go.Proofs.YtholhpmnicibgaaGreat
open Go.RowKit
set_option linter.unusedVariables false
set_option linter.unusedSimpArgs false
def SkipOK (c : Cd) (s : Wk) (f : Fr) (k : Nat) : Prop :=
 (k = 0 ∧ ∀ r ∈ s.set, SetOK c f r) ∨ (∃ pre b rest, s.opens = pre ++ b :: rest ∧ b.loop = false ∧ k = (pre.filter fun x => !x.loop).length + 1 ∧ ∀ r ∈ s.set.take b.ahead, SetOK c f r)
theorem okO_at : ∀ {pre : List Bk} {b : Bk} {rest : List Bk} {n : Nat}, okO n (pre ++ b :: rest) → b.ahead ≤ n ∧ ∀ p ∈ pre, b.ahead ≤ p.ahead
 | [], b, rest, n, h => ⟨h.1, fun p hp => by cases hp⟩
 | q :: pre, b, rest, n, h => by
  obtain ⟨h1, h2⟩ := okO_at h.2
  refine ⟨Nat.le_trans h1 h.1, fun p hp => ?_⟩
  rcases List.mem_cons.1 hp with e | e
  ·rw [e]; exact h1
  ·exact h2 p e
theorem iaddP_none {s : Wk} {i : Ins} {r : Rw} (h : r.d = 0) : addP s i r = s := by unfold addP; rw [if_neg (fun e => e.1 h)]
theorem turn_other {s : Wk} {i : Ins} (h1 : i.op ≠ 34) (h2 : i.op ≠ 35) (h3 : i.op ≠ 36) (h4 : i.op ≠ 37) : turnP s i = s := by
 unfold turnP; rw [if_neg (by omega), if_neg (by omega)]
theorem mem_add {s : Wk} {i : Ins} {r : Rw} {x : Nat} (h : x ∈ (addP s i r).set) : x ∈ s.set ∨ (r.d ≠ 0 ∧ x = i.d.toNat) := by
 unfold addP at h
 split at h
 ·rename_i e
  rcases List.mem_append.1 h with h | h
  ·exact .inl h
  ·simp at h; exact .inr ⟨e.1, h⟩
 ·exact .inl h
theorem add_take {s : Wk} {i : Ins} {r : Rw} {n : Nat} (h : n ≤ s.set.length) : (addP s i r).set.take n = s.set.take n ∧ (addP s i r).opens = s.opens := by
 unfold addP
 split
 ·exact ⟨List.take_append_of_le_length h, rfl⟩
 ·exact ⟨rfl, rfl⟩
theorem step34 {s : Wk} {i : Ins} (h : i.op = 34) : stepP s i = ⟨s.set, ⟨false, i.n, s.set.length⟩ :: s.opens⟩ := by
 unfold stepP passP
 rw [iaddP_none (by rw [h]; rfl)]
 unfold turnP
 rw [if_pos (.inl h), h]
 rfl
theorem step36 {s : Wk} {i : Ins} (h : i.op = 36) : stepP s i = ⟨s.set, ⟨true, i.n, s.set.length⟩ :: s.opens⟩ := by
 unfold stepP passP
 rw [iaddP_none (by rw [h]; rfl)]
 unfold turnP
 rw [if_pos (.inr h), h]
 rfl
theorem step35 {s : Wk} {i : Ins} (h : i.op = 35 ∨ i.op = 37) : stepP s i = leaveP s := by
 unfold stepP passP
 rw [iaddP_none (by rcases h with h | h <;> rw [h] <;> rfl)]
 unfold turnP
 rw [if_neg (by omega), if_pos h]
theorem step_other {s : Wk} {i : Ins} (h1 : i.op ≠ 34) (h2 : i.op ≠ 35) (h3 : i.op ≠ 36) (h4 : i.op ≠ 37) : stepP s i = addP s i (rowP i.op) := by
 unfold stepP passP
 rw [turn_other h1 h2 h3 h4]
theorem leave_sub {s : Wk} {r : Nat} (h : r ∈ (leaveP s).set) : r ∈ s.set := by
 unfold leaveP at h
 split at h
 ·dsimp only at h
  split at h
  ·exact h
  ·exact List.mem_of_mem_take h
 ·exact h
theorem next_ok {c : Cd} {G P : List (List Int)} {s : Wk} {f : Fr} {k : Nat} {i : Ins} (hg : Good c) (oks : OkS c.regs.length s) (t : takesP c s i = true) (ok : OkF c f) (hb : IsP i.bits) (fg : FitV c G) (fp : FitV c P) (sk : SkipOK c s f k) :
  OkF c (nextI c G P (f, k) i).1 ∧ SkipOK c (stepP s i) (nextI c G P (f, k) i).1 (nextI c G P (f, k) i).2 := by
 obtain ⟨hkn, _, hst, _⟩ := takes_open t
 rcases sk with ⟨rfl, hs⟩ | ⟨pre, b, rest, ho, hbl, rfl, hs⟩
 ·have nd := need_of t hs
  have hdo : OkF c (doI c G P f i) := do_ok hg ok hkn hb nd fg fp
  by_cases h34 : i.op = 34
  ·rw [step34 h34]
   by_cases hz : f.whs i.a.toNat = 0
   ·have e : nextI c G P (f, 0) i = (f, 1) := by
     unfold nextI
     rw [if_neg (by omega), if_pos ⟨h34, .inr hz⟩]
    rw [e]
    refine ⟨ok, .inr ⟨[], ⟨false, i.n, s.set.length⟩, s.opens, rfl, rfl, rfl, fun r hr => hs r ?_⟩⟩
    exact List.mem_of_mem_take hr
   ·have e : nextI c G P (f, 0) i = (f, 0) := by
     unfold nextI
     rw [if_neg (by omega), if_neg (by simp [hz]), if_pos rfl, do_is_mark (by omega)]
    rw [e]
    exact ⟨ok, .inl ⟨rfl, hs⟩⟩
  ·have e : nextI c G P (f, 0) i = (doI c G P f i, 0) := by
    unfold nextI
    rw [if_neg (by omega), if_neg (by omega), if_pos rfl]
   rw [e]
   refine ⟨hdo, .inl ⟨rfl, fun r hr => ?_⟩⟩
   by_cases h35 : i.op = 35 ∨ i.op = 37
   ·rw [step35 h35] at hr
    rw [do_is_mark (by omega)]
    exact hs r (leave_sub hr)
   ·by_cases h36 : i.op = 36
    ·rw [step36 h36] at hr
     rw [do_is_mark (by omega)]
     exact hs r hr
    ·rw [step_other h34 (by omega) h36 (by omega)] at hr
     refine do_set hg ok hkn nd fun hr2 => ?_
     rcases mem_add hr with h | ⟨h, h'⟩
     ·exact hs r h
     ·rcases hr2 with q | q
      ·exact absurd q h
      ·exact absurd h' q
 ·obtain ⟨hah, hpre⟩ := okO_at (by have := oks.opens; rw [ho] at this; exact this)
  obtain ⟨K, hK⟩ : ∃ K, (pre.filter fun x => !x.loop).length = K := ⟨_, rfl⟩
  rw [hK]
  by_cases h34 : i.op = 34
  ·have e : nextI c G P (f, K + 1) i = (f, K + 2) := by
    unfold nextI
    rw [if_neg (by omega), if_pos ⟨h34, .inl (by show 0 < K + 1; omega)⟩]
   rw [e, step34 h34]
   refine ⟨ok, .inr ⟨⟨false, i.n, s.set.length⟩ :: pre, b, rest, by rw [ho]; rfl, hbl, ?_, hs⟩⟩
   rw [List.filter_cons_of_pos rfl, List.length_cons, hK]
  ·by_cases h35 : i.op = 35
   ·have e : nextI c G P (f, K + 1) i = (f, K) := by
     unfold nextI
     rw [if_pos ⟨by show 0 < K + 1; omega, h35⟩]
     rfl
    rw [e, step35 (.inl h35)]
    refine ⟨ok, ?_⟩
    have hnl : inLoop s = false := by
     unfold mayStandP at hst
     rw [if_neg (by omega), if_pos h35] at hst
     simp only [Bool.and_eq_true, Bool.not_eq_true'] at hst
     exact hst.2
    unfold inLoop at hnl
    unfold leaveP
    rw [ho] at hnl ⊢
    cases pre with
    | nil =>
     simp only [List.nil_append] at hnl ⊢
     simp at hK
     refine .inl ⟨hK.symm, fun r hr => hs r ?_⟩
     rw [hbl] at hr
     simpa using hr
    | cons p pre =>
     simp only [List.cons_append] at hnl ⊢
     have hp := hpre p (by simp)
     refine .inr ⟨pre, b, rest, rfl, hbl, ?_, fun r hr => hs r ?_⟩
     ·rw [List.filter_cons_of_pos (by rw [hnl]; rfl), List.length_cons] at hK
      omega
     ·rw [hnl] at hr
      simp only [Bool.false_eq_true, if_false, List.take_take] at hr
      rw [Nat.min_eq_left hp] at hr
      exact hr
   ·have e : nextI c G P (f, K + 1) i = (f, K + 1) := by
     unfold nextI
     rw [if_neg (by omega), if_neg (by omega), if_neg (by show ¬ (K + 1 = 0); omega)]
    rw [e]
    refine ⟨ok, ?_⟩
    by_cases h36 : i.op = 36
    ·rw [step36 h36]
     refine .inr ⟨⟨true, i.n, s.set.length⟩ :: pre, b, rest, by rw [ho]; rfl, hbl, ?_, hs⟩
     rw [List.filter_cons_of_neg (by simp), hK]
    ·by_cases h37 : i.op = 37
     ·rw [step35 (.inr h37)]
      have hnl : inLoop s = true := by
       unfold mayStandP at hst
       rw [if_neg (by omega), if_neg (by omega), if_pos h37] at hst
       exact hst
      unfold inLoop at hnl
      unfold leaveP
      rw [ho] at hnl ⊢
      cases pre with
      | nil =>
       simp only [List.nil_append] at hnl
       rw [hbl] at hnl
       cases hnl
      | cons p pre =>
       simp only [List.cons_append] at hnl ⊢
       refine .inr ⟨pre, b, rest, rfl, hbl, ?_, fun r hr => hs r ?_⟩
       ·rw [List.filter_cons_of_neg (by rw [hnl]; decide)] at hK
        omega
       ·rw [hnl] at hr
        simpa using hr
     ·rw [step_other h34 h35 h36 h37]
      obtain ⟨h1, h2⟩ := add_take (i := i) (r := rowP i.op) hah
      exact .inr ⟨pre, b, rest, by rw [h2]; exact ho, hbl, by rw [hK], fun r hr => hs r (by rw [h1] at hr; exact hr)⟩
theorem do_any {T : Nat → Prop} {E E' : Nat} {a : Lay} {c : Cd} {G P : List (List Int)} {X : Nat → Value} {M : Nat} {m : Nat → Option Value} {f : Fr} (w : World) (x : FX T E E' a c G P w) (h : FV T E E' a c w X M m f) (hg : Good c) (ok : OkF c f) (hM : M ≤ 1000000) (ib io : Nat) (i : Ins) (hi : InsT (mutT T E E') w ib io i)
  (hk : knownP i.op = true) (nd : NeedI c f i) (fg : FitV c G) (fp : FitV c P) :
  Calls Tryz.prog 48 #[.pointer (some ⟨a.FR, 0, none⟩), .pointer (some ⟨ib, io, none⟩)] w fun e w' => e = .returned (.tuple #[]) ∧ StepOK T E E' a c G P M (doI c G P f i) w w' := by
 rcases op_cases hk with e | e | e | e | e | e | e | e | e
 ·obtain ⟨h1, h2, h3, h4, _⟩ := nd.num e
  rw [do_is_num e]; exact do_num w x h hg ok ib io i hi e h1 h2 h3 h4
 ·obtain ⟨h1, h2, h3, h4, h5, _⟩ := nd.whole e
  rw [do_is_whole e]; exact do_whole w x h hg ok ib io i hi e h1 h2 h3 h4 h5
 ·rw [do_is_29 e]; exact do_grad w x h hg ok hM ib io i hi e fg (nd.part (.inl e))
 ·rw [do_is_30 e]; exact do_param w x h hg ok hM ib io i hi e fp (nd.part (.inr e))
 ·rw [do_is_31 e]; exact do_out w x h hg ok hM ib io i hi e (nd.out e).1 (nd.out e).2
 ·obtain ⟨h1, h2, h3, h4, h5⟩ := nd.load e
  rw [do_is_32 e]
  refine do_load w x h hg ok hM ib io i hi e h1 h2 h3 h4 fun k1 hh he => ?_
  have hn : i.n.toNat < c.slots.length := by omega
  have hn2 : i.n.toNat < f.slots.length := by rw [ok.slotsL]; exact hn
  have hq := ok.slots i.n.toNat hn hn2
  rw [List.getElem?_eq_getElem hn2] at he
  have : slotT c.slots i.n = c.slots[i.n.toNat].ty := by unfold slotT; rw [List.getElem?_eq_getElem hn]; rfl
  rw [← this, h5] at hq
  intro e2
  have h9 := hq.1
  unfold widthP at h9
  rw [if_neg (by omega), if_pos k1] at h9
  simp only [Option.some.injEq] at he
  rw [he, e2] at h9
  cases h9
 ·obtain ⟨h1, h2, h3, h4, h5, h6⟩ := nd.store e
  rw [do_is_33 e]; exact do_store w x h hg ok hM ib io i hi e h1 h2 h3 h4
 ·rw [do_is_mark e]; exact do_mark w x h hg ok hM ib io i hi e
 ·rw [do_is_elem e]
  obtain ⟨h1, h2, h3, _⟩ := nd.elem e
  by_cases hk2 : (regT c.regs i.d).kind = 2
  ·exact do_elem w x h hg ok hM ib io i hi e _ (elem_whole w x h hg ib io i hi h1 h2 h3.1 h3.2 hk2)
  ·obtain ⟨h4, h5, _⟩ := elem_args hg ok e nd hk2
   exact do_elem w x h hg ok hM ib io i hi e _ (elem_rest w x h hg ok hM ib io i hi e h1 h2 hk2 h4 h5)
end Go.Proofs.YtholhpmnicibgaaGreat
namespace Go.Proofs.YtholhpmnicibgaaGreat
set_option linter.unusedVariables false
set_option linter.unusedSimpArgs false
def runP : Wk → List Ins → Wk
 | s, [] => s
 | s, i :: r => runP (stepP s i) r
def takenP (c : Cd) : Wk → List Ins → Bool
 | _, [] => true
 | s, i :: r => takesP c s i && takenP c (stepP s i) r
theorem goP_ok {c : Cd} : ∀ {l : List Ins} {s : Wk} {k : Nat}, (goP c s k l).1 = 0 ↔ takenP c s l = true ∧ (runP s l).opens.isEmpty = true
 | [], s, k => by
  simp only [goP, takenP, runP, true_and]
  by_cases h : s.opens.isEmpty = true
  ·simp [h]
  ·simp [h]
 | i :: l, s, k => by
  simp only [goP, takenP, runP, Bool.and_eq_true]
  by_cases h : takesP c s i = true
  ·rw [if_pos h, goP_ok (k := k + 1)]
   simp [h]
  ·rw [if_neg h]
   simp [h]
theorem checkC_ok {c : Cd} : (checkC c).1 = 0 ↔ aheadP c = 0 ∧ takenP c ⟨[], []⟩ c.list = true ∧ (runP ⟨[], []⟩ c.list).opens.isEmpty = true := by
 unfold checkC
 by_cases h : aheadP c = 0
 ·rw [if_neg (by simp [h]), goP_ok]; simp [h]
 ·rw [if_pos h]; simp [h]
end Go.Proofs.YtholhpmnicibgaaGreat
