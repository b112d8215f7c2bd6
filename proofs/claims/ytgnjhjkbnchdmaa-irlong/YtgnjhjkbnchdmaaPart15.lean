import Derived.Test.YtgnjhjkbnchdmaaPart14
/- The reference of layer 16, plainly: the letters of its rows; what fits is what fits. -/
namespace Go.Proofs.Ytgnjhjkbnchdmaa
set_option linter.unusedVariables false
set_option linter.unusedSimpArgs false

/-- The letters of the reference's rows. -/
structure Lt where
  a : Int
  b : Int
  c : Int
  d : Int
  e : Int

def ltR (op : Int) : Lt :=
  if op = 1 then ⟨110, 45, 45, 45, 45⟩
  else if op = 2 then ⟨119, 45, 45, 45, 105⟩
  else if op = 3 then ⟨97, 99, 45, 45, 45⟩
  else if 4 ≤ op ∧ op ≤ 10 then ⟨100, 120, 120, 45, 45⟩
  else if 11 ≤ op ∧ op ≤ 14 then ⟨100, 120, 45, 45, 45⟩
  else if op = 15 then ⟨100, 120, 120, 120, 45⟩
  else if op = 16 then ⟨110, 110, 119, 45, 45⟩
  else if op = 17 then ⟨110, 119, 45, 45, 45⟩
  else if op = 18 then ⟨119, 110, 45, 45, 45⟩
  else if 19 ≤ op ∧ op ≤ 20 then ⟨110, 118, 45, 45, 45⟩
  else if op = 21 ∨ op = 25 then ⟨119, 119, 45, 45, 45⟩
  else if op = 26 then ⟨119, 119, 119, 119, 45⟩
  else if 22 ≤ op ∧ op ≤ 28 then ⟨119, 119, 119, 45, 45⟩
  else if 29 ≤ op ∧ op ≤ 30 then ⟨118, 45, 45, 45, 112⟩
  else if op = 31 then ⟨45, 118, 45, 45, 112⟩
  else if op = 32 then ⟨97, 45, 45, 45, 115⟩
  else if op = 33 then ⟨45, 97, 45, 45, 115⟩
  else if op = 34 then ⟨45, 119, 45, 45, 45⟩
  else if op = 36 then ⟨45, 45, 45, 45, 113⟩
  else ⟨45, 45, 45, 45, 45⟩

def dR (rs : List Ty) (l D : Int) : Ty := if l = 45 then ⟨0, 0⟩ else regT rs D
def tR (rs : List Ty) (l0 l1 D A : Int) : Ty := if l0 = 45 ∧ l1 ≠ 45 then regT rs A else dR rs l0 D
def tailR (c : Cd) (l n : Int) (t : Ty) : Bool :=
  if l = 105 then wholeB n
  else if l = 112 then n == 0 || (n == 1 && kindOf c.sign t.par == 2)
  else if l = 115 then isPl n c.slots.length && decide (slotT c.slots n = t)
  else if l = 113 then isPl n c.sign.length
  else n == 0
def fitsR (c : Cd) (i : Ins) (L : Lt) : Bool :=
  (i.op == 1 || i.bits == 0) && (toldB i.bits && (operR c.regs L.a i.d ⟨0, 0⟩ && (operR c.regs L.b i.a (dR c.regs L.a i.d) && (operR c.regs L.c i.b (dR c.regs L.a i.d) && (operR c.regs L.d i.c (dR c.regs L.a i.d) && tailR c L.e i.n (tR c.regs L.a L.b i.d i.a))))))

theorem may_num {c : Cd} (h : typesMay c = true) {n : Int} (hp : isPl n c.regs.length = true) : typeMay (regT c.regs n) c.sign.length = true := by
  obtain ⟨k, rfl, hk⟩ := pl_nat hp
  rw [regT_at rfl hk]
  unfold typesMay at h
  exact List.all_eq_true.1 h _ (List.getElem_mem hk)
theorem may_par {c : Cd} (h : typesMay c = true) {n : Int} (hp : isPl n c.regs.length = true) (hk : (regT c.regs n).kind = 1) : (regT c.regs n).par = 0 := by
  have := may_num h hp
  unfold typeMay at this
  rw [if_pos (.inl hk)] at this
  simpa using this
theorem x_eq {c : Cd} (h : typesMay c = true) {n m : Int} (hn : isPl n c.regs.length = true) (hm : isPl m c.regs.length = true) (hk : ((regT c.regs m).kind == 1 || (regT c.regs m).kind == 3) = true) :
    ((regT c.regs n).kind == 1 || decide (regT c.regs n = regT c.regs m)) = (decide (regT c.regs n = regT c.regs m) || ((regT c.regs n).kind == 1 && (regT c.regs m).kind == 3)) := by
  have h1 := may_par h hn
  have h2 := may_par h hm
  generalize regT c.regs n = t at *
  generalize regT c.regs m = d at *
  obtain ⟨K, P⟩ := t
  obtain ⟨A, B⟩ := d
  simp only at h1 h2 hk ⊢
  rw [Bool.eq_iff_iff]
  simp only [Bool.or_eq_true, beq_iff_eq, decide_eq_true_eq, Bool.and_eq_true, Ty.mk.injEq] at hk ⊢
  constructor
  · rintro (e | e)
    · rcases hk with k | k
      · exact .inl ⟨by omega, by rw [h1 e, h2 k]⟩
      · exact .inr ⟨e, k⟩
    · exact .inl e
  · rintro (e | e)
    · exact .inr e
    · exact .inl e.1

theorem told0 : toldB 0 = true := by decide
theorem operR_no (rs : List Ty) (n : Int) (d : Ty) : operR rs 45 n d = (n == 0) := if_pos rfl
theorem fitsReg_no (rs : List Ty) (n : Int) (d : Ty) : fitsReg rs 0 n d = (n == 0) := if_pos rfl
theorem fitsReg_yes {l : Int} (h : l ≠ 0) (rs : List Ty) (n : Int) (d : Ty) : fitsReg rs l n d = (isPl n rs.length && meansP l (regT rs n) d) := if_neg h
theorem operR_yes {l : Int} (h : l ≠ 45) (rs : List Ty) (n : Int) (d : Ty) : operR rs l n d = (isPl n rs.length && letR l (regT rs n) d) := if_neg h

theorem oper_n (rs : List Ty) (n : Int) (d m : Ty) : operR rs 110 n d = fitsReg rs 1 n m := by rw [operR_yes (by decide), fitsReg_yes (by decide)]; rfl
theorem oper_w (rs : List Ty) (n : Int) (d m : Ty) : operR rs 119 n d = fitsReg rs 2 n m := by rw [operR_yes (by decide), fitsReg_yes (by decide)]; rfl
theorem oper_v (rs : List Ty) (n : Int) (d m : Ty) : operR rs 118 n d = fitsReg rs 3 n m := by rw [operR_yes (by decide), fitsReg_yes (by decide)]; rfl
theorem oper_d (rs : List Ty) (n : Int) (d m : Ty) : operR rs 100 n d = fitsReg rs 4 n m := by rw [operR_yes (by decide), fitsReg_yes (by decide)]; rfl
theorem oper_no (rs : List Ty) (n : Int) (d m : Ty) : operR rs 45 n d = fitsReg rs 0 n m := by rw [operR_no, fitsReg_no]
theorem oper_a (rs : List Ty) (n : Int) (d : Ty) : operR rs 97 n d = fitsReg rs 6 n (regT rs n) := by rw [operR_yes (by decide), fitsReg_yes (by decide)]; simp [letR, meansP]
theorem oper_c (rs : List Ty) (n : Int) (d : Ty) : operR rs 99 n d = fitsReg rs 5 n d := by rw [operR_yes (by decide), fitsReg_yes (by decide)]; simp [letR, meansP]
theorem oper_x {c : Cd} (h : typesMay c = true) (n : Int) {m : Int} (hd : fitsReg c.regs 4 m (regT c.regs m) = true) : operR c.regs 120 n (regT c.regs m) = fitsReg c.regs 5 n (regT c.regs m) := by
  rw [operR_yes (by decide), fitsReg_yes (by decide)]
  rw [fitsReg_yes (by decide)] at hd
  simp only [Bool.and_eq_true] at hd
  cases hn : isPl n c.regs.length
  · rfl
  · rw [Bool.true_and, Bool.true_and]
    exact x_eq h hn hd.1 hd.2

theorem fits_fin {c : Cd} {i : Ins} {L : Lt} {R : Rw} (h1 : i.op ≠ 1) (h7 : R.n ≠ 7) (ha : operR c.regs L.a i.d ⟨0, 0⟩ = fitsReg c.regs R.d i.d (mainT c.regs i R))
    (hb : fitsReg c.regs R.d i.d (mainT c.regs i R) = true → operR c.regs L.b i.a (dR c.regs L.a i.d) = fitsReg c.regs R.a i.a (mainT c.regs i R))
    (hc : fitsReg c.regs R.d i.d (mainT c.regs i R) = true → operR c.regs L.c i.b (dR c.regs L.a i.d) = fitsReg c.regs R.b i.b (mainT c.regs i R))
    (hd : fitsReg c.regs R.d i.d (mainT c.regs i R) = true → operR c.regs L.d i.c (dR c.regs L.a i.d) = fitsReg c.regs R.c i.c (mainT c.regs i R))
    (he : tailR c L.e i.n (tR c.regs L.a L.b i.d i.a) = fitsN c i.n R.n (mainT c.regs i R)) : fitsR c i L = fitsC c i R := by
  unfold fitsR fitsC fitsRest
  rw [if_neg h7, ha, he]
  have : (i.op == 1) = false := by simpa using h1
  rw [this, Bool.false_or]
  cases hX : fitsReg c.regs R.d i.d (mainT c.regs i R)
  · simp
  · rw [hb hX, hc hX, hd hX]
    cases hb : (i.bits == 0)
    · simp
    · have : i.bits = 0 := by simpa using hb
      rw [this, told0]
      simp

/-- What fits by the reference's letters is what fits by the rows. -/
theorem fitsR_eq {c : Cd} (h : typesMay c = true) (i : Ins) : fitsR c i (ltR i.op) = fitsC c i (rowP i.op) := by
  have x := fun n => @oper_x c h n i.d
  by_cases h1 : i.op = 1
  · have e1 : ltR i.op = ⟨110, 45, 45, 45, 45⟩ := by rw [h1]; rfl
    have e2 : rowP i.op = ⟨1, 0, 0, 0, 7⟩ := by rw [h1]; rfl
    rw [e1, e2]
    unfold fitsR fitsC fitsRest
    simp only
    rw [h1, oper_n _ _ _ (mainT c.regs i ⟨1, 0, 0, 0, 7⟩), operR_no, operR_no, operR_no, fitsReg_no, fitsReg_no, fitsReg_no]
    rw [show tailR c 45 i.n (tR c.regs 110 45 i.d i.a) = (i.n == 0) from rfl]
    generalize fitsReg c.regs 1 i.d _ = A1
    cases A1 <;> cases toldB i.bits <;> simp
  unfold ltR rowP
  rw [if_neg h1, if_neg h1]
  by_cases h2 : i.op = 2
  · rw [if_pos h2, if_pos h2]
    exact fits_fin h1 (by decide) (oper_w _ _ _ _) (fun _ => oper_no _ _ _ _) (fun _ => oper_no _ _ _ _) (fun _ => oper_no _ _ _ _) rfl
  rw [if_neg h2, if_neg h2]
  by_cases h3 : i.op = 3
  · rw [if_pos h3, if_pos h3]
    exact fits_fin h1 (by decide) (oper_a _ _ _) (fun _ => oper_c _ _ _) (fun _ => oper_no _ _ _ _) (fun _ => oper_no _ _ _ _) rfl
  rw [if_neg h3, if_neg h3]
  by_cases h4 : 4 ≤ i.op ∧ i.op ≤ 10
  · rw [if_pos h4, if_pos h4]
    exact fits_fin h1 (by decide) (oper_d _ _ _ _) (x _) (x _) (fun _ => oper_no _ _ _ _) rfl
  rw [if_neg h4, if_neg h4]
  by_cases h5 : 11 ≤ i.op ∧ i.op ≤ 14
  · rw [if_pos h5, if_pos h5]
    exact fits_fin h1 (by decide) (oper_d _ _ _ _) (x _) (fun _ => oper_no _ _ _ _) (fun _ => oper_no _ _ _ _) rfl
  rw [if_neg h5, if_neg h5]
  by_cases h6 : i.op = 15
  · rw [if_pos h6, if_pos h6]
    exact fits_fin h1 (by decide) (oper_d _ _ _ _) (x _) (x _) (x _) rfl
  rw [if_neg h6, if_neg h6]
  by_cases h7 : i.op = 16
  · rw [if_pos h7, if_pos h7]
    exact fits_fin h1 (by decide) (oper_n _ _ _ _) (fun _ => oper_n _ _ _ _) (fun _ => oper_w _ _ _ _) (fun _ => oper_no _ _ _ _) rfl
  rw [if_neg h7, if_neg h7]
  by_cases h8 : i.op = 17
  · rw [if_pos h8, if_pos h8]
    exact fits_fin h1 (by decide) (oper_n _ _ _ _) (fun _ => oper_w _ _ _ _) (fun _ => oper_no _ _ _ _) (fun _ => oper_no _ _ _ _) rfl
  rw [if_neg h8, if_neg h8]
  by_cases h9 : i.op = 18
  · rw [if_pos h9, if_pos h9]
    exact fits_fin h1 (by decide) (oper_w _ _ _ _) (fun _ => oper_n _ _ _ _) (fun _ => oper_no _ _ _ _) (fun _ => oper_no _ _ _ _) rfl
  rw [if_neg h9, if_neg h9]
  by_cases h10 : 19 ≤ i.op ∧ i.op ≤ 20
  · rw [if_pos h10, if_pos h10]
    exact fits_fin h1 (by decide) (oper_n _ _ _ _) (fun _ => oper_v _ _ _ _) (fun _ => oper_no _ _ _ _) (fun _ => oper_no _ _ _ _) rfl
  rw [if_neg h10, if_neg h10]
  by_cases h11 : i.op = 21 ∨ i.op = 25
  · rw [if_pos h11, if_pos h11]
    exact fits_fin h1 (by decide) (oper_w _ _ _ _) (fun _ => oper_w _ _ _ _) (fun _ => oper_no _ _ _ _) (fun _ => oper_no _ _ _ _) rfl
  rw [if_neg h11, if_neg h11]
  by_cases h12 : i.op = 26
  · rw [if_pos h12, if_pos h12]
    exact fits_fin h1 (by decide) (oper_w _ _ _ _) (fun _ => oper_w _ _ _ _) (fun _ => oper_w _ _ _ _) (fun _ => oper_w _ _ _ _) rfl
  rw [if_neg h12, if_neg h12]
  by_cases h13 : 22 ≤ i.op ∧ i.op ≤ 28
  · rw [if_pos h13, if_pos h13]
    exact fits_fin h1 (by decide) (oper_w _ _ _ _) (fun _ => oper_w _ _ _ _) (fun _ => oper_w _ _ _ _) (fun _ => oper_no _ _ _ _) rfl
  rw [if_neg h13, if_neg h13]
  by_cases h14 : 29 ≤ i.op ∧ i.op ≤ 30
  · rw [if_pos h14, if_pos h14]
    exact fits_fin h1 (by decide) (oper_v _ _ _ _) (fun _ => oper_no _ _ _ _) (fun _ => oper_no _ _ _ _) (fun _ => oper_no _ _ _ _) rfl
  rw [if_neg h14, if_neg h14]
  by_cases h15 : i.op = 31
  · rw [if_pos h15, if_pos h15]
    exact fits_fin h1 (by decide) (oper_no _ _ _ _) (fun _ => oper_v _ _ _ _) (fun _ => oper_no _ _ _ _) (fun _ => oper_no _ _ _ _) rfl
  rw [if_neg h15, if_neg h15]
  by_cases h16 : i.op = 32
  · rw [if_pos h16, if_pos h16]
    exact fits_fin h1 (by decide) (oper_a _ _ _) (fun _ => oper_no _ _ _ _) (fun _ => oper_no _ _ _ _) (fun _ => oper_no _ _ _ _) rfl
  rw [if_neg h16, if_neg h16]
  by_cases h17 : i.op = 33
  · rw [if_pos h17, if_pos h17]
    exact fits_fin h1 (by decide) (oper_no _ _ _ _) (fun _ => oper_a _ _ _) (fun _ => oper_no _ _ _ _) (fun _ => oper_no _ _ _ _) rfl
  rw [if_neg h17, if_neg h17]
  by_cases h18 : i.op = 34
  · rw [if_pos h18, if_pos h18]
    exact fits_fin h1 (by decide) (oper_no _ _ _ _) (fun _ => oper_w _ _ _ _) (fun _ => oper_no _ _ _ _) (fun _ => oper_no _ _ _ _) rfl
  rw [if_neg h18, if_neg h18]
  by_cases h19 : i.op = 36
  · rw [if_pos h19, if_pos h19]
    exact fits_fin h1 (by decide) (oper_no _ _ _ _) (fun _ => oper_no _ _ _ _) (fun _ => oper_no _ _ _ _) (fun _ => oper_no _ _ _ _) rfl
  rw [if_neg h19, if_neg h19]
  exact fits_fin h1 (by decide) (oper_no _ _ _ _) (fun _ => oper_no _ _ _ _) (fun _ => oper_no _ _ _ _) (fun _ => oper_no _ _ _ _) rfl

end Go.Proofs.Ytgnjhjkbnchdmaa
/- The reference of layer 16: fits. -/
namespace Go.Proofs.Ytgnjhjkbnchdmaa
open Go.RowKit
set_option linter.unusedVariables false
set_option linter.unusedSimpArgs false

/-- The letters of a row, as Row tells them. -/
theorem rrow_lt (op : Int) (hk : knownP op = true) : ∃ a b c d e : UInt8, ((a.toNat : Int) = (ltR op).a ∧ (b.toNat : Int) = (ltR op).b ∧ (c.toNat : Int) = (ltR op).c ∧ (d.toNat : Int) = (ltR op).d ∧ (e.toNat : Int) = (ltR op).e) ∧ ∀ w, Calls Try.prog 33 #[.int .i64 op] w fun x w' => x = .returned (.tuple #[.string ⟨#[a, b, c, d, e]⟩, .bool true]) ∧ w' = w := by
  have hh : 1 ≤ op ∧ op ≤ 37 := by unfold knownP at hk; simp at hk; omega
  clear hk
  have : op = 1 ∨ op = 2 ∨ op = 3 ∨ op = 4 ∨ op = 5 ∨ op = 6 ∨ op = 7 ∨ op = 8 ∨ op = 9 ∨ op = 10 ∨ op = 11 ∨ op = 12 ∨ op = 13 ∨ op = 14 ∨ op = 15 ∨ op = 16 ∨ op = 17 ∨ op = 18 ∨ op = 19 ∨ op = 20 ∨ op = 21 ∨ op = 22 ∨ op = 23 ∨ op = 24 ∨ op = 25 ∨ op = 26 ∨ op = 27 ∨ op = 28 ∨ op = 29 ∨ op = 30 ∨ op = 31 ∨ op = 32 ∨ op = 33 ∨ op = 34 ∨ op = 35 ∨ op = 36 ∨ op = 37 := by omega
  rcases this with rfl | rfl | rfl | rfl | rfl | rfl | rfl | rfl | rfl | rfl | rfl | rfl | rfl | rfl | rfl | rfl | rfl | rfl | rfl | rfl | rfl | rfl | rfl | rfl | rfl | rfl | rfl | rfl | rfl | rfl | rfl | rfl | rfl | rfl | rfl | rfl | rfl
  · exact ⟨_, _, _, _, _, ⟨rfl, rfl, rfl, rfl, rfl⟩, fun w => rrow_1 w⟩
  · exact ⟨_, _, _, _, _, ⟨rfl, rfl, rfl, rfl, rfl⟩, fun w => rrow_2 w⟩
  · exact ⟨_, _, _, _, _, ⟨rfl, rfl, rfl, rfl, rfl⟩, fun w => rrow_3 w⟩
  · exact ⟨_, _, _, _, _, ⟨rfl, rfl, rfl, rfl, rfl⟩, fun w => rrow_4 w⟩
  · exact ⟨_, _, _, _, _, ⟨rfl, rfl, rfl, rfl, rfl⟩, fun w => rrow_5 w⟩
  · exact ⟨_, _, _, _, _, ⟨rfl, rfl, rfl, rfl, rfl⟩, fun w => rrow_6 w⟩
  · exact ⟨_, _, _, _, _, ⟨rfl, rfl, rfl, rfl, rfl⟩, fun w => rrow_7 w⟩
  · exact ⟨_, _, _, _, _, ⟨rfl, rfl, rfl, rfl, rfl⟩, fun w => rrow_8 w⟩
  · exact ⟨_, _, _, _, _, ⟨rfl, rfl, rfl, rfl, rfl⟩, fun w => rrow_9 w⟩
  · exact ⟨_, _, _, _, _, ⟨rfl, rfl, rfl, rfl, rfl⟩, fun w => rrow_10 w⟩
  · exact ⟨_, _, _, _, _, ⟨rfl, rfl, rfl, rfl, rfl⟩, fun w => rrow_11 w⟩
  · exact ⟨_, _, _, _, _, ⟨rfl, rfl, rfl, rfl, rfl⟩, fun w => rrow_12 w⟩
  · exact ⟨_, _, _, _, _, ⟨rfl, rfl, rfl, rfl, rfl⟩, fun w => rrow_13 w⟩
  · exact ⟨_, _, _, _, _, ⟨rfl, rfl, rfl, rfl, rfl⟩, fun w => rrow_14 w⟩
  · exact ⟨_, _, _, _, _, ⟨rfl, rfl, rfl, rfl, rfl⟩, fun w => rrow_15 w⟩
  · exact ⟨_, _, _, _, _, ⟨rfl, rfl, rfl, rfl, rfl⟩, fun w => rrow_16 w⟩
  · exact ⟨_, _, _, _, _, ⟨rfl, rfl, rfl, rfl, rfl⟩, fun w => rrow_17 w⟩
  · exact ⟨_, _, _, _, _, ⟨rfl, rfl, rfl, rfl, rfl⟩, fun w => rrow_18 w⟩
  · exact ⟨_, _, _, _, _, ⟨rfl, rfl, rfl, rfl, rfl⟩, fun w => rrow_19 w⟩
  · exact ⟨_, _, _, _, _, ⟨rfl, rfl, rfl, rfl, rfl⟩, fun w => rrow_20 w⟩
  · exact ⟨_, _, _, _, _, ⟨rfl, rfl, rfl, rfl, rfl⟩, fun w => rrow_21 w⟩
  · exact ⟨_, _, _, _, _, ⟨rfl, rfl, rfl, rfl, rfl⟩, fun w => rrow_22 w⟩
  · exact ⟨_, _, _, _, _, ⟨rfl, rfl, rfl, rfl, rfl⟩, fun w => rrow_23 w⟩
  · exact ⟨_, _, _, _, _, ⟨rfl, rfl, rfl, rfl, rfl⟩, fun w => rrow_24 w⟩
  · exact ⟨_, _, _, _, _, ⟨rfl, rfl, rfl, rfl, rfl⟩, fun w => rrow_25 w⟩
  · exact ⟨_, _, _, _, _, ⟨rfl, rfl, rfl, rfl, rfl⟩, fun w => rrow_26 w⟩
  · exact ⟨_, _, _, _, _, ⟨rfl, rfl, rfl, rfl, rfl⟩, fun w => rrow_27 w⟩
  · exact ⟨_, _, _, _, _, ⟨rfl, rfl, rfl, rfl, rfl⟩, fun w => rrow_28 w⟩
  · exact ⟨_, _, _, _, _, ⟨rfl, rfl, rfl, rfl, rfl⟩, fun w => rrow_29 w⟩
  · exact ⟨_, _, _, _, _, ⟨rfl, rfl, rfl, rfl, rfl⟩, fun w => rrow_30 w⟩
  · exact ⟨_, _, _, _, _, ⟨rfl, rfl, rfl, rfl, rfl⟩, fun w => rrow_31 w⟩
  · exact ⟨_, _, _, _, _, ⟨rfl, rfl, rfl, rfl, rfl⟩, fun w => rrow_32 w⟩
  · exact ⟨_, _, _, _, _, ⟨rfl, rfl, rfl, rfl, rfl⟩, fun w => rrow_33 w⟩
  · exact ⟨_, _, _, _, _, ⟨rfl, rfl, rfl, rfl, rfl⟩, fun w => rrow_34 w⟩
  · exact ⟨_, _, _, _, _, ⟨rfl, rfl, rfl, rfl, rfl⟩, fun w => rrow_35 w⟩
  · exact ⟨_, _, _, _, _, ⟨rfl, rfl, rfl, rfl, rfl⟩, fun w => rrow_36 w⟩
  · exact ⟨_, _, _, _, _, ⟨rfl, rfl, rfl, rfl, rfl⟩, fun w => rrow_37 w⟩
/-- Which letters there are. -/
def letOK (b : Int) : Prop := b = 45 ∨ b = 110 ∨ b = 119 ∨ b = 118 ∨ b = 100 ∨ b = 120 ∨ b = 99 ∨ b = 97
instance (b : Int) : Decidable (letOK b) := by unfold letOK; infer_instance
def okL (L : Lt) : Bool := decide (letOK L.a) && (decide (letOK L.b) && (decide (letOK L.c) && (decide (letOK L.d) && (decide (L.e = 45 ∨ L.e = 105 ∨ L.e = 112 ∨ L.e = 115 ∨ L.e = 113) && decide (L.e = 112 → L.a = 118 ∨ (L.a = 45 ∧ L.b = 118))))))
theorem okL_ite {p : Prop} [Decidable p] {x y : Lt} (h : okL x = true) (k : okL y = true) : okL (if p then x else y) = true := by
  split
  · exact h
  · exact k
theorem ltR_okL (op : Int) : okL (ltR op) = true := by
  unfold ltR
  iterate 19 refine okL_ite (by decide) ?_
  decide
theorem ltR_ok (op : Int) : letOK (ltR op).a ∧ letOK (ltR op).b ∧ letOK (ltR op).c ∧ letOK (ltR op).d ∧ ((ltR op).e = 45 ∨ (ltR op).e = 105 ∨ (ltR op).e = 112 ∨ (ltR op).e = 115 ∨ (ltR op).e = 113) ∧ ((ltR op).e = 112 → (ltR op).a = 118 ∨ ((ltR op).a = 45 ∧ (ltR op).b = 118)) := by
  have := ltR_okL op
  unfold okL at this
  simp only [Bool.and_eq_true, decide_eq_true_eq] at this
  exact this

set_option maxRecDepth 100000 in
set_option maxHeartbeats 2000000 in
theorem rfits_no (v0 v1 v2 v3 : Value) (i : Ins) (h0 : 0 ≤ i.bits) (h1 : i.bits < 4294967296) (h : (knownP i.op && ((i.op == 1 || i.bits == 0) && toldB i.bits)) = false) (w : World) :
    Calls Try.prog 30 #[.agg #[v0, v1, v2, v3], insV i] w fun e w' => e = .returned (.bool false) ∧ Below w.heap.size w w' := by
  have HCAN : Hid (∀ w, Calls Try.prog 29 #[.int .u32 i.bits] w fun e w' => e = .returned (.bool (toldB i.bits)) ∧ Below w.heap.size w w') := rcanonical_any i.bits h0 h1
  cases hk : knownP i.op
  · have HROW : Hid (∀ w, Calls Try.prog 33 #[.int .i64 i.op] w fun e w' => e = .returned (.tuple #[.string ⟨#[]⟩, .bool false]) ∧ w' = w) := rrow_none i.op hk
    obtain ⟨op, D, A, B, E, n, bt⟩ := i
    unfold insV
    simp only at HROW HCAN ⊢
    clear h hk
    go_enter Try.func30, Try.ntmps30
    go_wp2_with (go_at_call 33; refine (HROW.out _).mono ?_; rintro e w1 ⟨rfl, rfl⟩)
    go_ret
    exact ⟨rfl, bel (bel_alloc _ _) (bel_alloc _ _)⟩
  · obtain ⟨a, b, c, d, e, -, hc⟩ := rrow_lt i.op hk
    have HROW : Hid (∀ w, Calls Try.prog 33 #[.int .i64 i.op] w fun x w' => x = .returned (.tuple #[.string ⟨#[a, b, c, d, e]⟩, .bool true]) ∧ w' = w) := hc
    rw [hk, Bool.true_and] at h
    clear hc hk
    obtain ⟨op, D, A, B, E, n, bt⟩ := i
    unfold insV
    simp only at HROW HCAN h ⊢
    cases ho : (op == 1)
    · have ho' : (op != 1) = true := by simpa using ho
      cases hz : (bt == 0)
      · have hz' : (bt != 0) = true := by simpa using hz
        clear h
        go_enter Try.func30, Try.ntmps30
        go_wp2_with (go_at_call 33; refine (HROW.out _).mono ?_; rintro e w1 ⟨rfl, rfl⟩)
        go_ret
        exact ⟨rfl, bel (bel_alloc _ _) (bel_alloc _ _)⟩
      · rw [ho, hz, Bool.false_or, Bool.true_and] at h
        rw [h] at HCAN
        have hz' : (bt != 0) = false := by simpa using hz
        clear h
        go_enter Try.func30, Try.ntmps30
        go_wp2_with (first
          | (go_at_call 33; refine (HROW.out _).mono ?_; rintro e w1 ⟨rfl, rfl⟩)
          | (go_at_call 29; refine (HCAN.out _).mono ?_; rintro e w2 ⟨rfl, hb2⟩; have HB2 : Hid _ := hb2; clear hb2))
        go_ret
        exact ⟨rfl, bel (bel (bel_alloc _ _) (bel_alloc _ _)) HB2.out⟩
    · rw [ho, Bool.true_or, Bool.true_and] at h
      rw [h] at HCAN
      have ho' : (op != 1) = false := by simpa using ho
      clear h
      go_enter Try.func30, Try.ntmps30
      go_wp2_with (first
        | (go_at_call 33; refine (HROW.out _).mono ?_; rintro e w1 ⟨rfl, rfl⟩)
        | (go_at_call 29; refine (HCAN.out _).mono ?_; rintro e w2 ⟨rfl, hb2⟩; have HB2 : Hid _ := hb2; clear hb2))
      go_ret
      exact ⟨rfl, bel (bel (bel_alloc _ _) (bel_alloc _ _)) HB2.out⟩

/-- The worlds behind the boxes: the code's at the beginning, the instruction's at J. -/
structure TW (w : World) (v0 v1 v2 v3 : Value) (J : Nat) (op D A B E n bt : Int) (v : World) : Prop where
  bel : Below w.heap.size w v
  c0 : v.cell? ⟨w.heap.size, 0, none⟩ = some v0
  c1 : v.cell? ⟨w.heap.size, 1, none⟩ = some v1
  c2 : v.cell? ⟨w.heap.size, 2, none⟩ = some v2
  c3 : v.cell? ⟨w.heap.size, 3, none⟩ = some v3
  i0 : v.cell? ⟨J, 0, none⟩ = some (.int .i64 op)
  i1 : v.cell? ⟨J, 1, none⟩ = some (.int .i64 D)
  i2 : v.cell? ⟨J, 2, none⟩ = some (.int .i64 A)
  i3 : v.cell? ⟨J, 3, none⟩ = some (.int .i64 B)
  i4 : v.cell? ⟨J, 4, none⟩ = some (.int .i64 E)
  i5 : v.cell? ⟨J, 5, none⟩ = some (.int .i64 n)
  i6 : v.cell? ⟨J, 6, none⟩ = some (.int .u32 bt)
theorem TW.next {w : World} {v0 v1 v2 v3 : Value} {J : Nat} {op D A B E n bt : Int} {v v' : World} (h : TW w v0 v1 v2 v3 J op D A B E n bt v) (k : Below v.heap.size v v') : TW w v0 v1 v2 v3 J op D A B E n bt v' :=
  ⟨Go.Proofs.Ytgnjhjkbnchdmaa.bel h.bel k, kc k h.c0, kc k h.c1, kc k h.c2, kc k h.c3, kc k h.i0, kc k h.i1, kc k h.i2, kc k h.i3, kc k h.i4, kc k h.i5, kc k h.i6⟩
theorem TW.keep {w : World} {v0 v1 v2 v3 : Value} {J : Nat} {op D A B E n bt : Int} {v : World} (h : TW w v0 v1 v2 v3 J op D A B E n bt v) {g o : Nat} (x : Value) (h1 : w.heap.size < g) (h2 : g ≠ J) : TW w v0 v1 v2 v3 J op D A B E n bt (v.setCell ⟨g, o, none⟩ x) := by
  have f1 : ∀ j, (v.setCell ⟨g, o, none⟩ x).cell? ⟨w.heap.size, j, none⟩ = v.cell? ⟨w.heap.size, j, none⟩ := fun j => World.cell?_of_block (Below.heap_setCell _ _ _ _ (by show w.heap.size ≠ g; omega))
  have f2 : ∀ j, (v.setCell ⟨g, o, none⟩ x).cell? ⟨J, j, none⟩ = v.cell? ⟨J, j, none⟩ := fun j => World.cell?_of_block (Below.heap_setCell _ _ _ _ (by show J ≠ g; omega))
  exact ⟨h.bel.setCell (by show w.heap.size ≤ g; omega) _, (f1 0).trans h.c0, (f1 1).trans h.c1, (f1 2).trans h.c2, (f1 3).trans h.c3, (f2 0).trans h.i0, (f2 1).trans h.i1, (f2 2).trans h.i2, (f2 3).trans h.i3, (f2 4).trans h.i4, (f2 5).trans h.i5, (f2 6).trans h.i6⟩
theorem TW.start (w : World) (v0 v1 v2 v3 : Value) (op D A B E n bt : Int) : TW w v0 v1 v2 v3 (w.heap.size + 1) op D A B E n bt ((w.alloc (.cells #[v0, v1, v2, v3] 29)).alloc (.cells #[.int .i64 op, .int .i64 D, .int .i64 A, .int .i64 B, .int .i64 E, .int .i64 n, .int .u32 bt] 34)) := by
  have k := bel_alloc (w.alloc (.cells #[v0, v1, v2, v3] 29)) (.cells #[.int .i64 op, .int .i64 D, .int .i64 A, .int .i64 B, .int .i64 E, .int .i64 n, .int .u32 bt] 34)
  exact ⟨Go.Proofs.Ytgnjhjkbnchdmaa.bel (bel_alloc _ _) k, kc k (by simp [go_sem]), kc k (by simp [go_sem]), kc k (by simp [go_sem]), kc k (by simp [go_sem]), by simp [go_sem], by simp [go_sem], by simp [go_sem], by simp [go_sem], by simp [go_sem], by simp [go_sem], by simp [go_sem]⟩

theorem bel_drewR {n : Nat} {w v : World} (h : Below n w v) : Below n w v.drew := h.drew

end Go.Proofs.Ytgnjhjkbnchdmaa
