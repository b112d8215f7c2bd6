import Derived.Test.YtnlgkkbmbijndaaGreatBck1
import Derived.Test.YtnlgkkbmbijndaaGreatRows
import Derived.Deep.DeepCutAuto
import Derived.Deep.CutBlock
/- Layer 24, plainly: the bytes of instructions and of a whole code, and back; no damage passes. No program in it. -/
namespace Go.Proofs.YtnlgkkbmbijndaaGreat
set_option linter.unusedVariables false
set_option linter.unusedSimpArgs false

def eBit (op : Nat) (v : Int) : List Nat := if op = 1 then lowB 4 v.toNat else []
def pBit (op : Nat) : Pz Int := if op = 1 then pBind (pFix 4) fun n => pPure (n : Int) else pPure 0
theorem rt_bit (op : Nat) : Rt (eBit op) (pBit op) (fun v => 0 ≤ v ∧ v < 2 ^ 32 ∧ (op ≠ 1 → v = 0)) := by
  by_cases q : op = 1
  · subst q
    refine ⟨fun v hv rest p => ?_, fun l p x l' p' hb hh => ?_⟩
    · show pBind (pFix 4) (fun n => pPure (n : Int)) (lowB 4 v.toNat ++ rest) p = _
      rw [(rt_fix 4).go (x := v.toNat) (by show v.toNat < 256 ^ 4; have := hv.2.1; omega)]
      show Except.ok ((v.toNat : Int), rest, _) = _
      rw [Int.toNat_of_nonneg hv.1]
      rfl
    · obtain ⟨n, m, k, e1, e2, e3, e4, e5⟩ := (rt_fix 4).open hb hh
      have e3' : n < 256 ^ 4 := e3
      have e5' : Except.ok ((n : Int), m, k) = Except.ok (x, l', p') := e5
      simp only [Except.ok.injEq, Prod.mk.injEq] at e5'
      obtain ⟨rfl, rfl, rfl⟩ := e5'
      exact ⟨by show l = lowB 4 (n : Int).toNat ++ m; rw [Int.toNat_natCast]; exact e1, by show k = p + (lowB 4 (n : Int).toNat).length; rw [Int.toNat_natCast]; exact e2, by omega, by omega, fun h => absurd rfl h⟩
  · refine ⟨fun v hv rest p => ?_, fun l p x l' p' hb hh => ?_⟩
    · have := hv.2.2 q
      subst this
      unfold eBit pBit
      rw [if_neg q, if_neg q]
      rfl
    · unfold pBit at hh
      rw [if_neg q] at hh
      have e5' : Except.ok ((0 : Int), l, p) = Except.ok (x, l', p') := hh
      simp only [Except.ok.injEq, Prod.mk.injEq] at e5'
      obtain ⟨rfl, rfl, rfl⟩ := e5'
      unfold eBit
      rw [if_neg q]
      exact ⟨rfl, rfl, by omega, by omega, fun _ => rfl⟩
def nmD (op : Nat) : Bool := decide ((rowP (op : Int)).d ≠ 0)
def nmA (op : Nat) : Bool := decide ((rowP (op : Int)).a ≠ 0)
def nmB (op : Nat) : Bool := decide ((rowP (op : Int)).b ≠ 0)
def nmC (op : Nat) : Bool := decide ((rowP (op : Int)).c ≠ 0)
def nmN (op : Nat) : Bool := decide ((rowP (op : Int)).n ≠ 0 ∧ (rowP (op : Int)).n ≠ 7)
/-- An instruction. -/
def eIns (i : Ins) : List Nat := [i.op.toNat] ++ (eFld (nmD i.op.toNat) i.d ++ (eFld (nmA i.op.toNat) i.a ++ (eFld (nmB i.op.toNat) i.b ++ (eFld (nmC i.op.toNat) i.c ++ (eFld (nmN i.op.toNat) i.n ++ eBit i.op.toNat i.bits)))))
def pIns : Pz Ins := pBind (pByte 1 37) fun op => pBind (pFld (nmD op)) fun d => pBind (pFld (nmA op)) fun a => pBind (pFld (nmB op)) fun b => pBind (pFld (nmC op)) fun c => pBind (pFld (nmN op)) fun n => pBind (pBit op) fun z => pPure (⟨(op : Int), d, a, b, c, n, z⟩ : Ins)
def fOk (b : Bool) (v : Int) : Prop := 0 ≤ v ∧ v < 2 ^ 63 ∧ (b = false → v = 0)
def okIns (i : Ins) : Prop := 1 ≤ i.op ∧ i.op ≤ 37 ∧ fOk (nmD i.op.toNat) i.d ∧ fOk (nmA i.op.toNat) i.a ∧ fOk (nmB i.op.toNat) i.b ∧ fOk (nmC i.op.toNat) i.c ∧ fOk (nmN i.op.toNat) i.n ∧ 0 ≤ i.bits ∧ i.bits < 2 ^ 32 ∧ (i.op.toNat ≠ 1 → i.bits = 0)
theorem rt_ins : Rt eIns pIns okIns := by
  refine ⟨fun s hs rest p => ?_, fun l p x l' p' hb hh => ?_⟩
  · obtain ⟨op, d, a, b, c, n, z⟩ := s
    obtain ⟨h1, h2, h3, h4, h5, h6, h7, h8, h9, h10⟩ := hs
    have b1 : 1 ≤ op := h1
    have b2 : op ≤ 37 := h2
    unfold eIns pIns
    simp only [List.append_assoc]
    rw [(rt_byte 1 37).go (x := op.toNat) (by show 1 ≤ op.toNat ∧ op.toNat ≤ 37; omega), (rt_fld _).go h3, (rt_fld _).go h4, (rt_fld _).go h5, (rt_fld _).go h6, (rt_fld _).go h7, (rt_bit _).go ⟨h8, h9, h10⟩]
    show Except.ok ((⟨(op.toNat : Int), d, a, b, c, n, z⟩ : Ins), rest, _) = _
    rw [Int.toNat_of_nonneg (by omega)]
    simp only [List.length_append, Nat.add_assoc]
  · obtain ⟨op, m1, j1, e1, e2, e3, e4, e5⟩ := (rt_byte 1 37).open hb hh
    obtain ⟨d, m2, j2, f1, f2, f3, f4, f5⟩ := (rt_fld _).open e4 e5
    obtain ⟨a, m3, j3, g1, g2, g3, g4, g5⟩ := (rt_fld _).open f4 f5
    obtain ⟨b, m4, j4, h1, h2, h3, h4, h5⟩ := (rt_fld _).open g4 g5
    obtain ⟨c, m5, j5, i1, i2, i3, i4, i5⟩ := (rt_fld _).open h4 h5
    obtain ⟨n, m6, j6, k1, k2, k3, k4, k5⟩ := (rt_fld _).open i4 i5
    obtain ⟨z, m7, j7, n1, n2, n3, n4, n5⟩ := (rt_bit _).open k4 k5
    have n5' : Except.ok ((⟨(op : Int), d, a, b, c, n, z⟩ : Ins), m7, j7) = Except.ok (x, l', p') := n5
    simp only [Except.ok.injEq, Prod.mk.injEq] at n5'
    obtain ⟨rfl, rfl, rfl⟩ := n5'
    refine ⟨?_, ?_, ?_⟩
    · unfold eIns
      simp only [Int.toNat_natCast, List.append_assoc]
      rw [e1, f1, g1, h1, i1, k1, n1]
    · unfold eIns
      simp only [Int.toNat_natCast, List.length_append]
      rw [n2, k2, i2, h2, g2, f2, e2]
      omega
    · unfold okIns
      simp only [Int.toNat_natCast]
      exact ⟨by omega, by omega, f3, g3, h3, i3, k3, n3.1, n3.2.1, n3.2.2⟩
/-- A whole code. -/
def eCode (c : Cd) : List Nat := eLst ePar c.sign ++ (eLst eTy c.regs ++ (eLst eSl c.slots ++ eLst eIns c.list))
def pCode : Pz Cd := pBind (pLst 64 pPar) fun s => pBind (pLst 16384 pTy) fun r => pBind (pLst 4096 pSl) fun t => pBind (pLst 32768 pIns) fun l => pPure (⟨s, r, t, l⟩ : Cd)
def okCode (c : Cd) : Prop := (c.sign.length ≤ 64 ∧ ∀ x ∈ c.sign, okPar x) ∧ (c.regs.length ≤ 16384 ∧ ∀ x ∈ c.regs, okTy x) ∧ (c.slots.length ≤ 4096 ∧ ∀ x ∈ c.slots, okSl x) ∧ (c.list.length ≤ 32768 ∧ ∀ x ∈ c.list, okIns x)
theorem rt_code : Rt eCode pCode okCode := by
  refine ⟨fun c hc rest p => ?_, fun l p x l' p' hb hh => ?_⟩
  · obtain ⟨s, r, t, l⟩ := c
    unfold eCode pCode
    simp only [List.append_assoc]
    rw [(rt_lst rt_par (by decide)).go (x := s) hc.1, (rt_lst rt_ty (by decide)).go (x := r) hc.2.1, (rt_lst rt_sl (by decide)).go (x := t) hc.2.2.1, (rt_lst rt_ins (by decide)).go (x := l) hc.2.2.2]
    show Except.ok ((⟨s, r, t, l⟩ : Cd), rest, _) = _
    simp only [List.length_append, Nat.add_assoc]
  · obtain ⟨s, m1, j1, e1, e2, e3, e4, e5⟩ := (rt_lst rt_par (by decide)).open hb hh
    obtain ⟨r, m2, j2, f1, f2, f3, f4, f5⟩ := (rt_lst rt_ty (by decide)).open e4 e5
    obtain ⟨t, m3, j3, g1, g2, g3, g4, g5⟩ := (rt_lst rt_sl (by decide)).open f4 f5
    obtain ⟨i, m4, j4, h1, h2, h3, h4, h5⟩ := (rt_lst rt_ins (by decide)).open g4 g5
    have h5' : Except.ok ((⟨s, r, t, i⟩ : Cd), m4, j4) = Except.ok (x, l', p') := h5
    simp only [Except.ok.injEq, Prod.mk.injEq] at h5'
    obtain ⟨rfl, rfl, rfl⟩ := h5'
    refine ⟨?_, ?_, e3, f3, g3, h3⟩
    · unfold eCode
      simp only [List.append_assoc]
      rw [e1, f1, g1, h1]
    · unfold eCode
      simp only [List.length_append]
      rw [h2, g2, f2, e2]
      omega
def mkN : List Nat := [108, 116, 104, 49]
def bodyN (c : Cd) : List Nat := mkN ++ eCode c
/-- Bytecode. -/
def encN (c : Cd) : List Nat := bodyN c ++ lowB 8 (crP (bodyN c))
/-- What bytes are: code, or the first error and its place. -/
def decN (s : List Nat) : Except (Int × Nat) Cd :=
  if s.take (min s.length 4) ≠ mkN.take (min s.length 4) then .error (240, 0)
  else if s.length < 4 then .error (242, 0)
  else match pCode (s.drop 4) 4 with
    | .error e => .error e
    | .ok (c, l, p) =>
      if l.length < 8 then .error (242, p)
      else if lowN (l.take 8) ≠ crP (s.take p) then .error (241, p)
      else if 8 < l.length then .error (244, p + 8)
      else if (checkC c).1 ≠ 0 then .error ((checkC c).1, 0)
      else .ok c
theorem crP_lt {l : List Nat} (h : ∀ b ∈ l, b < 256) : crP l < 256 ^ 8 := by
  have h1 : crR crA l < 2 ^ 64 := crR_lt l (by unfold crA; decide) h
  unfold crP
  exact Nat.lt_of_lt_of_eq (Nat.xor_lt_two_pow (n := 64) (by unfold crA; decide) h1) (by decide)
/-- What was written, with more behind it. -/
theorem dec_more {c : Cd} (hc : okCode c) (hb : ∀ b ∈ bodyN c, b < 256) (rest : List Nat) : decN (encN c ++ rest) = if rest ≠ [] then .error (244, (encN c).length) else if (checkC c).1 ≠ 0 then .error ((checkC c).1, 0) else .ok c := by
  have hlen : (encN c ++ rest).length = 4 + (eCode c).length + 8 + rest.length := by
    unfold encN bodyN
    simp only [List.length_append, lowB_len]
    rfl
  have ht : (encN c ++ rest).take 4 = mkN := by
    unfold encN bodyN
    simp only [List.append_assoc]
    rw [List.take_append_of_le_length (by decide)]
    rfl
  have hd : (encN c ++ rest).drop 4 = eCode c ++ (lowB 8 (crP (bodyN c)) ++ rest) := by
    unfold encN bodyN
    simp only [List.append_assoc]
    rw [List.drop_append_of_le_length (by decide)]
    rfl
  have hm : min (encN c ++ rest).length 4 = 4 := by omega
  unfold decN
  rw [hm, ht, if_neg (by simp [mkN]), if_neg (by omega), hd, rt_code.fw c hc]
  simp only
  have h8 : (lowB 8 (crP (bodyN c)) ++ rest).length = 8 + rest.length := by rw [List.length_append, lowB_len]
  have hp : (encN c ++ rest).take (4 + (eCode c).length) = bodyN c := by
    unfold encN
    rw [List.append_assoc, List.take_append_of_le_length (by unfold bodyN; rw [List.length_append]; exact Nat.le_refl _), List.take_of_length_le (by unfold bodyN; rw [List.length_append]; exact Nat.le_refl _)]
  have hl8 : (lowB 8 (crP (bodyN c)) ++ rest).take 8 = lowB 8 (crP (bodyN c)) := by
    rw [List.take_append_of_le_length (by rw [lowB_len]; exact Nat.le_refl _), List.take_of_length_le (by rw [lowB_len]; exact Nat.le_refl _)]
  rw [if_neg (by omega), hl8, lowN_lowB 8 _ (crP_lt hb), hp, if_neg (by simp), h8]
  have he : (encN c).length = 4 + (eCode c).length + 8 := by
    unfold encN bodyN
    simp only [List.length_append, lowB_len]
    rfl
  cases rest with
  | nil => rw [if_neg (show ¬ 8 < 8 + ([] : List Nat).length by simp), if_neg (show ¬ (([] : List Nat) ≠ []) by simp)]
  | cons a r => rw [if_pos (by simp), if_pos (by simp), he]
/-- CO3: what is taken was written so. -/
theorem dec_bw {s : List Nat} {c : Cd} (hb : ∀ b ∈ s, b < 256) (h : decN s = .ok c) : s = encN c ∧ okCode c ∧ (checkC c).1 = 0 ∧ lowN (lowB 8 (crP (bodyN c))) = crP (bodyN c) := by
  unfold decN at h
  split at h
  · cases h
  · rename_i h1
    split at h
    · cases h
    · rename_i h2
      split at h
      · cases h
      · rename_i d l p hp
        obtain ⟨e1, e2, e3⟩ := rt_code.bw (s.drop 4) 4 d l p (fun b hx => hb b (List.mem_of_mem_drop hx)) hp
        split at h
        · cases h
        · rename_i h3
          split at h
          · cases h
          · rename_i h4
            split at h
            · cases h
            · rename_i h5
              split at h
              · cases h
              · rename_i h6
                simp only [Except.ok.injEq] at h
                subst h
                have hm : min s.length 4 = 4 := by omega
                rw [hm] at h1
                have ht : s.take 4 = mkN := by
                  have h1' : s.take 4 = mkN.take 4 := by simpa using h1
                  rw [h1']
                  rfl
                have hl : l.length = 8 := by omega
                have hs : s = bodyN d ++ l := by
                  unfold bodyN
                  rw [← ht, List.append_assoc, ← e1, List.take_append_drop]
                have hpp : s.take p = bodyN d := by
                  rw [hs, e2, List.take_append_of_le_length (by unfold bodyN; rw [List.length_append]; exact Nat.le_refl _), List.take_of_length_le (by unfold bodyN; rw [List.length_append]; exact Nat.le_refl _)]
                have h4' : lowN l = crP (bodyN d) := by
                  have h9 : lowN (l.take 8) = crP (s.take p) := by simpa using h4
                  rw [List.take_of_length_le (by omega), hpp] at h9
                  exact h9
                have hlb : ∀ b ∈ l, b < 256 := fun b hx => hb b (by rw [hs]; exact List.mem_append.2 (.inr hx))
                have e8 := lowB_lowN l hlb
                rw [hl, h4'] at e8
                refine ⟨?_, e3, by simpa using h6, by rw [e8]; exact h4'⟩
                unfold encN
                rw [e8]
                exact hs

end Go.Proofs.YtnlgkkbmbijndaaGreat
/- Layer 24, plainly: code that is well formed has bytes; no damage passes. No program in it. -/
namespace Go.Proofs.YtnlgkkbmbijndaaGreat
set_option linter.unusedVariables false
set_option linter.unusedSimpArgs false

theorem ok_par {p : Par} (h : mayP p = true) : okPar p := by
  unfold mayP namedP at h
  simp only [Bool.and_eq_true, Bool.or_eq_true, decide_eq_true_eq, beq_iff_eq] at h
  obtain ⟨⟨⟨⟨h1, h2⟩, h3⟩, h4⟩, h5, h6⟩ := h
  exact ⟨by omega, by omega, h2, by omega, by omega⟩
theorem ok_ty {t : Ty} {n : Nat} (hn : n ≤ 64) (h : typeMay t n = true) : okTy t := by
  unfold typeMay at h
  split at h
  · rename_i q
    have h' : t.par = 0 := by simpa using h
    exact ⟨by omega, by omega, by omega, by omega, fun _ => h'⟩
  · split at h
    · rename_i q
      unfold isPl at h
      simp only [Bool.and_eq_true, decide_eq_true_eq] at h
      exact ⟨by omega, by omega, by omega, by omega, fun r => absurd q r⟩
    · cases h
theorem ok_sl {s : Sl} {n : Nat} (hn : n ≤ 64) (hb : 0 ≤ s.bits ∧ s.bits < 4294967296) (h : slotMay s n = true) : okSl s := by
  unfold slotMay at h
  simp only [Bool.and_eq_true] at h
  have ht := ok_ty hn h.1
  have hs := h.2
  unfold begins at hs
  split at hs
  · rename_i q
    unfold wholeB at hs
    simp only [Bool.and_eq_true, decide_eq_true_eq, beq_iff_eq] at hs
    exact ⟨ht, by omega, by omega, by omega, by omega, fun _ => hs.1, fun r => absurd q r⟩
  · rename_i q
    simp only [Bool.and_eq_true, beq_iff_eq] at hs
    exact ⟨ht, by omega, by omega, by omega, by omega, fun r => absurd r q, fun _ => hs.1⟩
theorem fit_ok {rs : List Ty} {l v : Int} {m : Ty} (hr : rs.length ≤ 16384) (h : fitsReg rs l v m = true) : fOk (decide (l ≠ 0)) v := by
  unfold fitsReg at h
  by_cases q : l = 0
  · rw [if_pos q] at h
    have h' : v = 0 := by simpa using h
    exact ⟨by omega, by omega, fun _ => h'⟩
  · rw [if_neg q] at h
    unfold isPl at h
    simp only [Bool.and_eq_true, decide_eq_true_eq] at h
    exact ⟨by omega, by omega, fun r => by simp [q] at r⟩
theorem row_seven : ∀ n : Nat, n < 38 → 1 ≤ n → ((rowP (n : Int)).n = 7 ↔ n = 1) := by decide
theorem ok_ins {c : Cd} {i : Ins} (hr : c.regs.length ≤ 16384) (hs : c.slots.length ≤ 4096) (hg : c.sign.length ≤ 64) (hb : 0 ≤ i.bits ∧ i.bits < 4294967296) (hk : knownP i.op = true) (hf : fitsC c i (rowP i.op) = true) : okIns i := by
  unfold knownP at hk
  simp only [Bool.and_eq_true, decide_eq_true_eq] at hk
  unfold fitsC at hf
  simp only [Bool.and_eq_true] at hf
  obtain ⟨f1, f2, f3, f4, f5⟩ := hf
  have e : ((i.op.toNat : Nat) : Int) = i.op := Int.toNat_of_nonneg (by omega)
  have h7 := row_seven i.op.toNat (by omega) (by omega)
  rw [e] at h7
  unfold okIns nmD nmA nmB nmC nmN
  rw [e]
  refine ⟨hk.1, hk.2, fit_ok hr f1, fit_ok hr f2, fit_ok hr f3, fit_ok hr f4, ?_, by omega, by omega, fun q => ?_⟩
  · unfold fitsRest at f5
    by_cases q : (rowP i.op).n = 7
    · rw [if_pos q] at f5
      simp only [Bool.and_eq_true, beq_iff_eq] at f5
      exact ⟨by omega, by omega, fun _ => f5.1⟩
    · rw [if_neg q] at f5
      simp only [Bool.and_eq_true, beq_iff_eq] at f5
      have g := f5.2
      unfold fitsN at g
      by_cases q8 : (rowP i.op).n = 8
      · rw [if_pos q8] at g
        unfold wholeB at g
        simp only [Bool.and_eq_true, decide_eq_true_eq] at g
        exact ⟨by omega, by omega, fun r => by simp [q8] at r⟩
      · rw [if_neg q8] at g
        by_cases q9 : (rowP i.op).n = 9
        · rw [if_pos q9] at g
          simp only [Bool.or_eq_true, Bool.and_eq_true, beq_iff_eq] at g
          exact ⟨by omega, by omega, fun r => by simp [q9] at r⟩
        · rw [if_neg q9] at g
          by_cases qa : (rowP i.op).n = 10
          · rw [if_pos qa] at g
            unfold isPl at g
            simp only [Bool.and_eq_true, decide_eq_true_eq] at g
            exact ⟨by omega, by omega, fun r => by simp [qa] at r⟩
          · rw [if_neg qa] at g
            by_cases qb : (rowP i.op).n = 11
            · rw [if_pos qb] at g
              unfold isPl at g
              simp only [Bool.and_eq_true, decide_eq_true_eq] at g
              exact ⟨by omega, by omega, fun r => by simp [qb] at r⟩
            · rw [if_neg qb] at g
              have g' : i.n = 0 := by simpa using g
              exact ⟨by omega, by omega, fun _ => g'⟩
  · unfold fitsRest at f5
    rw [if_neg (fun r => q (h7.1 r))] at f5
    simp only [Bool.and_eq_true, beq_iff_eq] at f5
    exact f5.1
theorem eFld_lt (b : Bool) (v : Int) : ∀ x ∈ eFld b v, x < 256 := fun x hx => by
  unfold eFld at hx
  split at hx
  · exact numB_lt _ x hx
  · cases hx
theorem eLst_lt {α : Type} {e : α → List Nat} {l : List α} (h : ∀ a ∈ l, ∀ x ∈ e a, x < 256) : ∀ x ∈ eLst e l, x < 256 := fun x hx => by
  unfold eLst at hx
  rcases List.mem_append.1 hx with q | q
  · exact numB_lt _ x q
  · obtain ⟨a, ha, hq⟩ := List.mem_flatMap.1 q
    exact h a ha x hq
theorem ePar_lt {p : Par} (h : okPar p) : ∀ x ∈ ePar p, x < 256 := fun x hx => by
  unfold ePar eNam at hx
  simp only [List.mem_append, List.mem_singleton] at hx
  obtain ⟨h1, h2, -⟩ := h
  rcases hx with q | (q | q) | q
  · omega
  · exact numB_lt _ x q
  · exact bytN_lt _ x q
  · exact eFld_lt _ _ x q
theorem eTy_lt {t : Ty} (h : okTy t) : ∀ x ∈ eTy t, x < 256 := fun x hx => by
  unfold eTy at hx
  simp only [List.mem_append, List.mem_singleton] at hx
  obtain ⟨h1, h2, -⟩ := h
  rcases hx with q | q
  · omega
  · exact eFld_lt _ _ x q
theorem eSl_lt {s : Sl} (h : okSl s) : ∀ x ∈ eSl s, x < 256 := fun x hx => by
  unfold eSl at hx
  simp only [List.mem_append, List.mem_singleton] at hx
  rcases hx with q | q | q
  · split at q <;> omega
  · exact eTy_lt h.1 x q
  · split at q
    · exact numB_lt _ x q
    · exact lowB_lt _ _ x q
theorem eIns_lt {i : Ins} (h : okIns i) : ∀ x ∈ eIns i, x < 256 := fun x hx => by
  unfold eIns at hx
  simp only [List.mem_append, List.mem_singleton] at hx
  obtain ⟨h1, h2, -⟩ := h
  rcases hx with q | q | q | q | q | q | q
  · omega
  · exact eFld_lt _ _ x q
  · exact eFld_lt _ _ x q
  · exact eFld_lt _ _ x q
  · exact eFld_lt _ _ x q
  · exact eFld_lt _ _ x q
  · unfold eBit at q
    split at q
    · exact lowB_lt _ _ x q
    · cases q
theorem body_lt {c : Cd} (h : okCode c) : ∀ x ∈ bodyN c, x < 256 := fun x hx => by
  unfold bodyN eCode at hx
  simp only [List.mem_append] at hx
  rcases hx with q | q | q | q | q
  · unfold mkN at q
    simp only [List.mem_cons, List.not_mem_nil, or_false] at q
    omega
  · exact eLst_lt (fun a ha => ePar_lt (h.1.2 a ha)) x q
  · exact eLst_lt (fun a ha => eTy_lt (h.2.1.2 a ha)) x q
  · exact eLst_lt (fun a ha => eSl_lt (h.2.2.1.2 a ha)) x q
  · exact eLst_lt (fun a ha => eIns_lt (h.2.2.2.2 a ha)) x q
theorem enc_lt {c : Cd} (h : okCode c) : ∀ x ∈ encN c, x < 256 := fun x hx => by
  unfold encN at hx
  rcases List.mem_append.1 hx with q | q
  · exact body_lt h x q
  · exact lowB_lt _ _ x q
/-- CO3: what is written is taken as it was. -/
theorem dec_fw {c : Cd} (h : okCode c) (hc : (checkC c).1 = 0) : decN (encN c) = .ok c := by
  have h9 := dec_more h (body_lt h) []
  rw [List.append_nil, if_neg (by simp), if_neg (by simpa using hc)] at h9
  exact h9
theorem taken_all {c : Cd} : ∀ (l : List Ins) (x : Wk), takenP c x l = true → ∀ i ∈ l, knownP i.op = true ∧ fitsC c i (rowP i.op) = true
  | [], x, _, i, hi => by cases hi
  | a :: l, x, h, i, hi => by
    have h' : (takesP c x a && takenP c (stepP x a) l) = true := h
    simp only [Bool.and_eq_true] at h'
    rcases List.mem_cons.1 hi with e | e
    · subst e
      obtain ⟨k1, k2, -, -⟩ := takes_open h'.1
      exact ⟨k1, k2⟩
    · exact taken_all l _ h'.2 i e
/-- Well formed code has bytes. -/
theorem check_code {c : Cd} (hsb : ∀ s ∈ c.slots, 0 ≤ s.bits ∧ s.bits < 4294967296) (hib : ∀ i ∈ c.list, 0 ≤ i.bits ∧ i.bits < 4294967296) (hc : (checkC c).1 = 0) : okCode c := by
  obtain ⟨h1, h2, -⟩ := checkC_ok.1 hc
  unfold aheadP at h1
  by_cases e1 : checkP c.sign = 0
  · rw [if_neg (by simp [e1])] at h1
    by_cases e2 : 16384 < c.regs.length ∨ 32768 < c.list.length
    · rw [if_pos e2] at h1; cases h1
    · rw [if_neg e2] at h1
      by_cases e3 : 4096 < c.slots.length
      · rw [if_pos e3] at h1; cases h1
      · rw [if_neg e3] at h1
        by_cases e4 : (typesMay c && slotsMay c) = true
        · simp only [Bool.and_eq_true] at e4
          have hg := check_len e1
          have hty : ∀ t ∈ c.regs, typeMay t c.sign.length = true := List.all_eq_true.1 e4.1
          have hsl : ∀ s ∈ c.slots, slotMay s c.sign.length = true := List.all_eq_true.1 e4.2
          exact ⟨⟨hg, fun p hp => ok_par (check_may e1 p hp)⟩, ⟨by omega, fun t ht => ok_ty hg (hty t ht)⟩, ⟨by omega, fun s hs => ok_sl hg (hsb s hs) (hsl s hs)⟩, ⟨by omega, fun i hi => ok_ins (by omega) (by omega) hg (hib i hi) (taken_all _ _ h2 i hi).1 (taken_all _ _ h2 i hi).2⟩⟩
        · rw [if_neg e4] at h1; cases h1
  · rw [if_pos e1] at h1; exact absurd h1 e1

end Go.Proofs.YtnlgkkbmbijndaaGreat
/- Layer 24: Print, of the code and of the document. -/
namespace Go.Proofs.YtnlgkkbmbijndaaGreat
open Go.RowKit
set_option linter.unusedVariables false
set_option linter.unusedSimpArgs false

theorem bx64 {x y : Nat} (hx : x < 2 ^ 64) (hy : y < 2 ^ 64) : bits .xor .u64 (x : Int) (y : Int) = ((x ^^^ y : Nat) : Int) := by
  have h : (BitVec.ofInt 64 (x : Int) ^^^ BitVec.ofInt 64 (y : Int)).toNat = x ^^^ y := by
    rw [BitVec.toNat_xor]
    simp only [BitVec.ofInt_natCast, BitVec.toNat_ofNat]
    rw [Nat.mod_eq_of_lt hx, Nat.mod_eq_of_lt hy]
  have h2 : x ^^^ y < 2 ^ 64 := Nat.xor_lt_two_pow hx hy
  show IntKind.u64.wrap (((BitVec.ofInt 64 (x : Int) ^^^ BitVec.ofInt 64 (y : Int)).toNat : Nat) : Int) = _
  rw [h]
  unfold IntKind.wrap
  simp [IntKind.signed, IntKind.bits]
  omega
theorem ba64 {x : Nat} (hx : x < 2 ^ 64) : bits .and .u64 (x : Int) 1 = ((x % 2 : Nat) : Int) := by
  have h : (BitVec.ofInt 64 (x : Int) &&& BitVec.ofInt 64 1).toNat = x % 2 := by
    rw [BitVec.toNat_and, show BitVec.ofInt 64 1 = BitVec.ofNat 64 1 from rfl]
    simp only [BitVec.ofInt_natCast, BitVec.toNat_ofNat]
    rw [Nat.mod_eq_of_lt hx, show 1 % 2 ^ 64 = 1 by decide, Nat.and_one_is_mod]
  show IntKind.u64.wrap (((BitVec.ofInt 64 (x : Int) &&& BitVec.ofInt 64 1).toNat : Nat) : Int) = _
  rw [h]
  unfold IntKind.wrap
  simp [IntKind.signed, IntKind.bits]
  omega
theorem step64 {C : Nat} (hn : C < 2 ^ 64) : bits .xor .u64 ((C : Int) / 2) (IntKind.u64.wrap (bits .and .u64 (C : Int) 1 * 14514072000185962306)) = ((crT C : Nat) : Int) := by
  rw [ba64 hn, show ((C : Int) / 2) = ((C / 2 : Nat) : Int) by omega]
  unfold crT
  rcases Nat.mod_two_eq_zero_or_one C with r | r
  · rw [r, if_neg (by decide), show IntKind.u64.wrap (((0 : Nat) : Int) * 14514072000185962306) = ((0 : Nat) : Int) by rfl]
    exact bx64 (by omega) (by decide)
  · rw [r, if_pos rfl, show IntKind.u64.wrap (((1 : Nat) : Int) * 14514072000185962306) = ((crD : Nat) : Int) by rfl]
    exact bx64 (by omega) (by unfold crD; decide)
theorem ret_u64 {a b : Int} (h : a = b) : Ending.returned (.int .u64 a) = .returned (.int .u64 b) := by rw [h]
theorem max64 {x : Nat} (hx : x < 2 ^ 64) : bits .xor .u64 IntKind.u64.max (x : Int) = ((crA ^^^ x : Nat) : Int) := by
  rw [show IntKind.u64.max = ((crA : Nat) : Int) from rfl]
  exact bx64 (by unfold crA; decide) hx
theorem bytN_at {s : ByteArray} {k : Nat} (h : k < s.size) : (bytN s).take (k + 1) = (bytN s).take k ++ [s[k].toNat] := by
  have hl : k < (bytN s).length := by rw [bytN_len]; exact h
  rw [List.take_succ_eq_append_getElem hl]
  congr 2
  show (s.data.toList.map UInt8.toNat)[k]'(by rw [List.length_map, Array.length_toList]; exact h) = _
  rw [List.getElem_map]
  rfl
theorem crR_more (c : Nat) (l : List Nat) (b : Nat) : crR c (l ++ [b]) = crN 8 (crR c l ^^^ b) := by rw [crR_app]; rfl
theorem crN_more : ∀ (n c : Nat), crN (n + 1) c = crT (crN n c)
  | 0, c => rfl
  | n + 1, c => crN_more n (crT c)
theorem take_lt (s : ByteArray) (k : Nat) : crR crA ((bytN s).take k) < 2 ^ 64 := crR_lt _ (by unfold crA; decide) (fun b hb => bytN_lt s b (List.mem_of_mem_take hb))
set_option maxRecDepth 100000 in
set_option maxHeartbeats 4000000 in
theorem cprint_any (s : ByteArray) (hs : s.size ≤ 140737488355328) (w : World) :
    Calls Tryz.prog 19 #[.string s] w fun e w' => e = .returned (.int .u64 ((crP (bytN s) : Nat) : Int)) ∧ w' = w := by
  obtain ⟨N, hN⟩ : ∃ N, s.size = N := ⟨_, rfl⟩
  go_enter Tryz.func19, Tryz.ntmps19
  go_upto_block 0 with fail
  go_wp2_with fail
  go_loopw [3, 7] (fun cv iv wx => wx = w ∧ ∃ k : Nat, k ≤ N ∧ iv = .int .i64 (k : Int) ∧ cv = .int .u64 ((crR crA ((bytN s).take k) : Nat) : Int)) (fun _ iv _ => N - (intOf iv).toNat)
  case atStart => exact ⟨rfl, 0, Nat.zero_le _, rfl, rfl⟩
  case round =>
    obtain ⟨rfl, k, hk, rfl, rfl⟩ := hrel
    have hc := take_lt s k
    by_cases hlt : k < N
    · have hks : k < s.size := by omega
      have hmo := bytN_at hks
      have hcm := crR_more crA ((bytN s).take k) s[k].toNat
      rw [← hmo] at hcm
      obtain ⟨X, hX⟩ : ∃ X, crR crA ((bytN s).take k) = X := ⟨_, rfl⟩
      rw [hX] at hc hcm
      obtain ⟨B, hB⟩ : ∃ B, s[k].toNat = B := ⟨_, rfl⟩
      have hb : B < 256 := by rw [← hB]; exact s[k].toNat_lt
      rw [hB] at hcm
      have i1 : (0 : Int) ≤ (k : Int) := by omega
      have i2 : (k : Int) < (N : Int) := by omega
      have wi : IntKind.i64.wrap ((k : Int) + 1) = ((k + 1 : Nat) : Int) := by rw [IntKind.wrap_i64]; omega
      have hxb := bx64 hc (show B < 2 ^ 64 by omega)
      have hY : X ^^^ B < 2 ^ 64 := Nat.xor_lt_two_pow hc (by omega)
      obtain ⟨Y, hYe⟩ : ∃ Y, X ^^^ B = Y := ⟨_, rfl⟩
      rw [hYe] at hcm hxb hY
      clear hmo hYe
      go_upto_block 2 with fail
      clear hX hB
      go_wp2_with fail
      go_loopw [3, 16] (fun cv iv wx => wx = wr ∧ ∃ j : Nat, j ≤ 8 ∧ iv = .int .i64 (j : Int) ∧ cv = .int .u64 ((crN j Y : Nat) : Int)) (fun _ iv _ => 8 - (intOf iv).toNat)
      case atStart => exact ⟨rfl, 0, by omega, rfl, rfl⟩
      case round =>
        obtain ⟨rfl, j, hj, rfl, rfl⟩ := hrel
        have hn := crN_lt j hY
        have hm := crN_more j Y
        have hst := step64 hn
        by_cases hl : j < 8
        · have q2 : (j : Int) < 8 := by omega
          have wj : IntKind.i64.wrap ((j : Int) + 1) = ((j + 1 : Nat) : Int) := by rw [IntKind.wrap_i64]; omega
          rw [← hm] at hst
          clear hm hn hcm
          go_wp2
          go_roundw
          case rel => exact ⟨by trivial, j + 1, by omega, by go_num, rfl⟩
          case measure => simp [intOf]; omega
        · have q2 : ¬ (j : Int) < 8 := by omega
          obtain rfl : j = 8 := by omega
          have HCM : Hid _ := hcm
          clear hst hm hn hcm hl
          go_wp2
          go_roundw
          case rel => exact ⟨by trivial, k + 1, by omega, by go_num, by rw [HCM.out]⟩
          case measure => simp [intOf]; omega
    · have e1 : ¬ (k : Int) < (N : Int) := by omega
      have hall : (bytN s).take k = bytN s := List.take_of_length_le (by rw [bytN_len]; omega)
      rw [hall] at hc
      have HC : Hid (crR crA (bytN s) < 2 ^ 64) := hc
      clear hlt hc
      go_wp2
      go_ret
      exact ⟨ret_u64 (max64 HC.out), rfl⟩

set_option maxRecDepth 100000 in
set_option maxHeartbeats 4000000 in
theorem rprint_any (s : ByteArray) (hs : s.size ≤ 140737488355328) (w : World) :
    Calls Tryz.prog 24 #[.string s] w fun e w' => e = .returned (.int .u64 ((crP (bytN s) : Nat) : Int)) ∧ w' = w := by
  obtain ⟨N, hN⟩ : ∃ N, s.size = N := ⟨_, rfl⟩
  go_enter Tryz.func24, Tryz.ntmps24
  go_upto_block 0 with fail
  go_wp2_with fail
  go_loopw [3, 4] (fun cv iv wx => wx = w ∧ ∃ k : Nat, k ≤ N ∧ iv = .int .i64 (k : Int) ∧ cv = .int .u64 ((crR crA ((bytN s).take k) : Nat) : Int)) (fun _ iv _ => N - (intOf iv).toNat)
  case atStart => exact ⟨rfl, 0, Nat.zero_le _, rfl, rfl⟩
  case round =>
    obtain ⟨rfl, k, hk, rfl, rfl⟩ := hrel
    have hc := take_lt s k
    by_cases hlt : k < N
    · have hks : k < s.size := by omega
      have hmo := bytN_at hks
      have hcm := crR_more crA ((bytN s).take k) s[k].toNat
      rw [← hmo] at hcm
      obtain ⟨X, hX⟩ : ∃ X, crR crA ((bytN s).take k) = X := ⟨_, rfl⟩
      rw [hX] at hc hcm
      obtain ⟨B, hB⟩ : ∃ B, s[k].toNat = B := ⟨_, rfl⟩
      have hb : B < 256 := by rw [← hB]; exact s[k].toNat_lt
      rw [hB] at hcm
      have i1 : (0 : Int) ≤ (k : Int) := by omega
      have i2 : (k : Int) < (N : Int) := by omega
      have wi : IntKind.i64.wrap ((k : Int) + 1) = ((k + 1 : Nat) : Int) := by rw [IntKind.wrap_i64]; omega
      have hxb := bx64 hc (show B < 2 ^ 64 by omega)
      have hY : X ^^^ B < 2 ^ 64 := Nat.xor_lt_two_pow hc (by omega)
      obtain ⟨Y, hYe⟩ : ∃ Y, X ^^^ B = Y := ⟨_, rfl⟩
      rw [hYe] at hcm hxb hY
      clear hmo hYe
      go_upto_block 2 with fail
      clear hX hB
      go_wp2_with fail
      go_loopw [3, 5] (fun cv iv wx => wx = wr ∧ ∃ j : Nat, j ≤ 8 ∧ iv = .int .i64 (j : Int) ∧ cv = .int .u64 ((crN j Y : Nat) : Int)) (fun _ iv _ => 8 - (intOf iv).toNat)
      case atStart => exact ⟨rfl, 0, by omega, rfl, rfl⟩
      case round =>
        obtain ⟨rfl, j, hj, rfl, rfl⟩ := hrel
        have hn := crN_lt j hY
        have hm := crN_more j Y
        by_cases hl : j < 8
        · have q2 : (j : Int) < 8 := by omega
          have wj : IntKind.i64.wrap ((j : Int) + 1) = ((j + 1 : Nat) : Int) := by rw [IntKind.wrap_i64]; omega
          obtain ⟨C, hC⟩ : ∃ C, crN j Y = C := ⟨_, rfl⟩
          rw [hC] at hn hm
          have hx1 := bx64 (show C / 2 < 2 ^ 64 by omega) (show crD < 2 ^ 64 by unfold crD; decide)
          have HM := show Hid (crN (j + 1) Y = crT C) from hm
          clear hcm hm
          rcases Nat.mod_two_eq_zero_or_one C with r | r
          · have r1 : ((C : Int) % 2 == 1) = false := by rw [show (C : Int) % 2 = 0 by omega]; rfl
            have HT : Hid (((C : Int) / 2) = ((crT C : Nat) : Int)) := by
              show ((C : Int) / 2) = ((crT C : Nat) : Int)
              unfold crT
              rw [if_neg (by omega), Nat.xor_zero]
              omega
            clear hn
            go_wp2
            go_roundw
            case rel => exact ⟨by trivial, j + 1, by omega, by go_num, by rw [HM.out, ← HT.out]⟩
            case measure => simp [intOf]; omega
          · have r1 : ((C : Int) % 2 == 1) = true := by rw [show (C : Int) % 2 = 1 by omega]; rfl
            have HT : Hid (bits .xor .u64 ((C : Int) / 2) 14514072000185962306 = ((crT C : Nat) : Int)) := by
              show bits .xor .u64 ((C : Int) / 2) 14514072000185962306 = ((crT C : Nat) : Int)
              unfold crT
              rw [if_pos r, show ((C : Int) / 2) = ((C / 2 : Nat) : Int) by omega]
              exact hx1
            clear hn hx1
            go_wp2
            go_roundw
            case rel => exact ⟨by trivial, j + 1, by omega, by go_num, by rw [HM.out, ← HT.out]⟩
            case measure => simp [intOf]; omega
        · have q2 : ¬ (j : Int) < 8 := by omega
          obtain rfl : j = 8 := by omega
          have HCM : Hid _ := hcm
          clear hm hn hcm hl
          go_wp2
          go_roundw
          case rel => exact ⟨by trivial, k + 1, by omega, by go_num, by rw [HCM.out]⟩
          case measure => simp [intOf]; omega
    · have e1 : ¬ (k : Int) < (N : Int) := by omega
      have hall : (bytN s).take k = bytN s := List.take_of_length_le (by rw [bytN_len]; omega)
      rw [hall] at hc
      have HC : Hid (crR crA (bytN s) < 2 ^ 64) := hc
      clear hlt hc
      go_wp2
      go_ret
      exact ⟨ret_u64 (max64 HC.out), rfl⟩

end Go.Proofs.YtnlgkkbmbijndaaGreat
/- Layer 16: package bits beneath it. -/
namespace Go.Proofs.YtnlgkkbmbijndaaGreat
open Go.RowKit
set_option linter.unusedVariables false
set_option linter.unusedSimpArgs false

set_option maxHeartbeats 400000 in
theorem parts_any (a : Int) (h0 : 0 ≤ a) (h1 : a < 4294967296) (w : World) :
    Calls Tryz.prog 129 #[.int .u32 a] w fun e w' => e = .returned (.tuple #[.bool (decide (2147483648 ≤ a)), .int .i64 (a / 8388608 % 256), .int .i64 (a % 8388608)]) ∧ w' = w := by
  have e1 := and_sign_ne a h0 h1
  have e2 := and_8 (a / 8388608) (by omega) (by omega)
  have e3 := and_23 a h0 h1
  go_enter Tryz.func129, Tryz.ntmps129
  go_wp2
  go_ret3
  exact ⟨rfl, rfl⟩

set_option maxHeartbeats 400000 in
theorem class_any (a : Int) (h0 : 0 ≤ a) (h1 : a < 4294967296) (w : World) :
    Calls Tryz.prog 127 #[.int .u32 a] w fun e w' => e = .returned (.int .i64 (cls a)) ∧ w' = w := by
  by_cases c1 : a / 8388608 % 256 = 255
  · by_cases c2 : a % 8388608 = 0
    · have hc : cls a = 4 := by unfold cls; rw [if_pos c1, if_pos c2]
      rw [hc]; clear hc
      go_enter Tryz.func127, Tryz.ntmps127
      go_wp2_with (go_at_call 129; refine (parts_any _ h0 h1 _).mono ?_; rintro e w' ⟨rfl, rfl⟩)
      go_ret
      exact ⟨rfl, rfl⟩
    · have hc : cls a = 5 := by unfold cls; rw [if_pos c1, if_neg c2]
      rw [hc]; clear hc
      go_enter Tryz.func127, Tryz.ntmps127
      go_wp2_with (go_at_call 129; refine (parts_any _ h0 h1 _).mono ?_; rintro e w' ⟨rfl, rfl⟩)
      go_ret
      exact ⟨rfl, rfl⟩
  · by_cases c2 : a / 8388608 % 256 = 0
    · by_cases c3 : a % 8388608 = 0
      · have hc : cls a = 1 := by unfold cls; rw [if_neg c1, if_pos c2, if_pos c3]
        rw [hc]; clear hc
        go_enter Tryz.func127, Tryz.ntmps127
        go_wp2_with (go_at_call 129; refine (parts_any _ h0 h1 _).mono ?_; rintro e w' ⟨rfl, rfl⟩)
        go_ret
        exact ⟨rfl, rfl⟩
      · have hc : cls a = 2 := by unfold cls; rw [if_neg c1, if_pos c2, if_neg c3]
        rw [hc]; clear hc
        go_enter Tryz.func127, Tryz.ntmps127
        go_wp2_with (go_at_call 129; refine (parts_any _ h0 h1 _).mono ?_; rintro e w' ⟨rfl, rfl⟩)
        go_ret
        exact ⟨rfl, rfl⟩
    · have hc : cls a = 3 := by unfold cls; rw [if_neg c1, if_neg c2]
      rw [hc]; clear hc
      go_enter Tryz.func127, Tryz.ntmps127
      go_wp2_with (go_at_call 129; refine (parts_any _ h0 h1 _).mono ?_; rintro e w' ⟨rfl, rfl⟩)
      go_ret
      exact ⟨rfl, rfl⟩

theorem class_nan (a : Int) (h0 : 0 ≤ a) (h1 : a < 4294967296) (hn : nan a = true) (w : World) :
    Calls Tryz.prog 127 #[.int .u32 a] w fun e w' => e = .returned (.int .i64 5) ∧ w' = w := by
  have := class_any a h0 h1 w
  rwa [cls_nan a hn h0 h1] at this

set_option maxHeartbeats 400000 in
theorem canon_any (a : Int) (h0 : 0 ≤ a) (h1 : a < 4294967296) (w : World) :
    Calls Tryz.prog 125 #[.int .u32 a] w fun e w' => e = .returned (.int .u32 (canon a)) ∧ w' = w := by
  cases hn : nan a
  · have hc : canon a = a := by unfold canon; simp [hn]
    have h5 : (cls a == 5) = false := by have := cls_num a hn h0 h1; simpa using this
    rw [hc]; clear hc hn
    go_enter Tryz.func125, Tryz.ntmps125
    go_wp2_with (go_at_call 127; refine (class_any _ h0 h1 _).mono ?_; rintro e w' ⟨rfl, rfl⟩)
    go_ret
    exact ⟨rfl, rfl⟩
  · have hc : canon a = 2143289344 := by unfold canon; simp [hn]
    rw [hc]; clear hc
    go_enter Tryz.func125, Tryz.ntmps125
    go_wp2_with (go_at_call 127; refine (class_nan _ h0 h1 hn _).mono ?_; rintro e w' ⟨rfl, rfl⟩)
    go_ret
    exact ⟨rfl, rfl⟩

end Go.Proofs.YtnlgkkbmbijndaaGreat
/- Layer 16: code as it lies in memory. -/
namespace Go.Proofs.YtnlgkkbmbijndaaGreat
open Go.RowKit
set_option linter.unusedVariables false
set_option linter.unusedSimpArgs false

def tyC (t : Ty) : List Value := [.int .i64 t.kind, .int .i64 t.par]
def slC (s : Sl) : List Value := [.int .i64 s.ty.kind, .int .i64 s.ty.par, .bool s.keep, .int .u32 s.bits, .int .i64 s.int_]
def inC (i : Ins) : List Value := [.int .i64 i.op, .int .i64 i.d, .int .i64 i.a, .int .i64 i.b, .int .i64 i.c, .int .i64 i.n, .int .u32 i.bits]
theorem tyC_len (t : Ty) : (tyC t).length = 2 := rfl
theorem slC_len (t : Sl) : (slC t).length = 5 := rfl
theorem inC_len (t : Ins) : (inC t).length = 7 := rfl
theorem parC_len (t : Par) : (parCells t).length = 3 := rfl
def tyV (t : Ty) : Value := .agg #[.int .i64 t.kind, .int .i64 t.par]
def rwV (r : Rw) : Value := .agg #[.int .i64 r.d, .int .i64 r.a, .int .i64 r.b, .int .i64 r.c, .int .i64 r.n]

theorem kc {w w' : World} (k : Below w.heap.size w w') {a : Addr} {v : Value} (h : w.cell? a = some v) : w'.cell? a = some v := (k.cell (mcell_lt h)).trans h
theorem kf {w w' : World} (k : Below w.heap.size w w') {a : Addr} {v : Value} (h : w.cell? a = some v) (f : w.frozen? a = false) : w'.frozen? a = false := (k.frozen (mcell_lt h)).trans f
/-- Cells from a place on. -/
def CellsAt (w : World) (b o : Nat) (cs : List Value) : Prop := ∀ j (h : j < cs.length), w.cell? ⟨b, o + j, none⟩ = some cs[j]
theorem CellsAt.below {w w' : World} {b o : Nat} {cs : List Value} (h : CellsAt w b o cs) (k : Below w.heap.size w w') : CellsAt w' b o cs := fun j hj => (k.cell (mcell_lt (h j hj))).trans (h j hj)
theorem CellsAt.at {w : World} {b o : Nat} {cs : List Value} (h : CellsAt w b o cs) (j : Nat) {v : Value} (e : cs[j]? = some v) : w.cell? ⟨b, o + j, none⟩ = some v := by
  obtain ⟨hj, e⟩ := List.getElem?_eq_some_iff.1 e
  rw [h j hj, e]
theorem CellsAt.of_block {w w' : World} {b o : Nat} {cs : List Value} (h : CellsAt w b o cs) (e : w'.heap[b]? = w.heap[b]?) : CellsAt w' b o cs := fun j hj => (World.cell?_of_block e).trans (h j hj)
/-- A slice that reads as these, k cells each. -/
def RowG {α : Type} (k : Nat) (f : α → List Value) (w : World) (v : Value) (l : List α) : Prop :=
  ∃ p c, v = .slice p l.length c ∧ (l = [] ∨ ∃ b o, p = some ⟨b, o, none⟩ ∧ ∀ i (h : i < l.length), CellsAt w b (o + i * k) (f l[i]))
theorem RowG.below {α : Type} {k : Nat} {f : α → List Value} {w w' : World} {v : Value} {l : List α} (h : RowG k f w v l) (q : Below w.heap.size w w') : RowG k f w' v l := by
  obtain ⟨p, c, hv, h⟩ := h
  exact ⟨p, c, hv, h.imp id fun ⟨b, o, hp, h⟩ => ⟨b, o, hp, fun i hi => (h i hi).below q⟩⟩
theorem RowG.at {α : Type} {k : Nat} {f : α → List Value} {w : World} {p : Option Addr} {n c : Nat} {l : List α} (h : RowG k f w (.slice p n c) l) {i : Nat} (hi : i < l.length) : ∃ b o, p = some ⟨b, o, none⟩ ∧ CellsAt w b (o + i * k) (f l[i]) := by
  obtain ⟨p', c', hv, h⟩ := h
  simp only [Value.slice.injEq] at hv
  obtain ⟨rfl, rfl, rfl⟩ := hv
  rcases h with h | ⟨b, o, hp, h⟩
  · rw [h] at hi; exact absurd hi (Nat.not_lt_zero _)
  · exact ⟨b, o, hp, h i hi⟩
theorem RowG.rd {w : World} {v : Value} {l : List Par} (h : RowG 3 parCells w v l) : Rd w v l := by
  obtain ⟨p, c, hv, h⟩ := h
  exact ⟨p, c, hv, h.imp id fun ⟨b, o, hp, h⟩ => ⟨b, o, hp, fun i hi => ⟨(h i hi).at 0 rfl, (h i hi).at 1 rfl, (h i hi).at 2 rfl⟩⟩⟩

/-- Code at a place: its four lists. -/
structure CdV (w : World) (v0 v1 v2 v3 : Value) (c : Cd) : Prop where
  sign : RowG 3 parCells w v0 c.sign
  regs : RowG 2 tyC w v1 c.regs
  slots : RowG 5 slC w v2 c.slots
  list : RowG 7 inC w v3 c.list
theorem CdV.below {w w' : World} {v0 v1 v2 v3 : Value} {c : Cd} (h : CdV w v0 v1 v2 v3 c) (k : Below w.heap.size w w') : CdV w' v0 v1 v2 v3 c := ⟨h.sign.below k, h.regs.below k, h.slots.below k, h.list.below k⟩
def CdAt (w : World) (C : Nat) (v0 v1 v2 v3 : Value) (c : Cd) : Prop := CellsAt w C 0 [v0, v1, v2, v3] ∧ CdV w v0 v1 v2 v3 c
theorem CdAt.below {w w' : World} {C : Nat} {v0 v1 v2 v3 : Value} {c : Cd} (h : CdAt w C v0 v1 v2 v3 c) (k : Below w.heap.size w w') : CdAt w' C v0 v1 v2 v3 c := ⟨h.1.below k, h.2.below k⟩
/-- What is known of code that came in. -/
structure CdOk (c : Cd) : Prop where
  signL : c.sign.length ≤ 140737488351232
  names : ∀ p ∈ c.sign, p.name.size ≤ 140737488351232
  regsL : c.regs.length ≤ 140737488351232
  slotsL : c.slots.length ≤ 140737488351232
  listL : c.list.length ≤ 140737488351232
  sbits : ∀ s ∈ c.slots, 0 ≤ s.bits ∧ s.bits < 4294967296
  ibits : ∀ i ∈ c.list, 0 ≤ i.bits ∧ i.bits < 4294967296

end Go.Proofs.YtnlgkkbmbijndaaGreat
/- Package ir: the small questions. -/
namespace Go.Proofs.YtnlgkkbmbijndaaGreat
open Go.RowKit
set_option linter.unusedVariables false
set_option linter.unusedSimpArgs false

set_option maxRecDepth 100000 in
set_option maxHeartbeats 1000000 in
theorem isPlace_any (n : Int) (k : Nat) (w : World) : Calls Tryz.prog 118 #[.int .i64 n, .int .i64 k] w fun e w' => e = .returned (.bool (isPl n k)) ∧ w' = w := by
  unfold isPl
  by_cases h : 0 ≤ n
  all_goals
    go_enter Tryz.func118, Tryz.ntmps118
    go_wp2
    go_ret
    exact ⟨ret_bool (by simp [h]; try omega), rfl⟩

set_option maxRecDepth 100000 in
set_option maxHeartbeats 1000000 in
theorem isWhole_any (n : Int) (w : World) : Calls Tryz.prog 119 #[.int .i64 n] w fun e w' => e = .returned (.bool (wholeB n)) ∧ w' = w := by
  unfold wholeB
  by_cases h : 0 ≤ n
  all_goals
    go_enter Tryz.func119, Tryz.ntmps119
    go_wp2
    go_ret
    exact ⟨ret_bool (by simp [h]; try omega), rfl⟩

set_option maxRecDepth 100000 in
set_option maxHeartbeats 1000000 in
theorem isTold_any (a : Int) (h0 : 0 ≤ a) (h1 : a < 4294967296) (w : World) : Calls Tryz.prog 120 #[.int .u32 a] w fun e w' => e = .returned (.bool (toldB a)) ∧ w' = w := by
  have hc : toldB a = (canon a == a) := by unfold toldB canon; cases nan a <;> rw [Bool.eq_iff_iff] <;> simp
  rw [hc]
  have HK : Hid (∀ w, Calls Tryz.prog 125 #[.int .u32 a] w fun e w' => e = .returned (.int .u32 (canon a)) ∧ w' = w) := canon_any a h0 h1
  clear hc
  obtain ⟨x, hx⟩ : ∃ x, canon a = x := ⟨_, rfl⟩
  rw [hx] at HK ⊢
  clear hx
  go_enter Tryz.func120, Tryz.ntmps120
  go_wp2_with (go_at_call 125; refine (HK.out _).mono ?_; rintro e w1 ⟨rfl, rfl⟩)
  go_ret
  exact ⟨rfl, rfl⟩

set_option maxRecDepth 100000 in
set_option maxHeartbeats 1000000 in
theorem typeMayBe_any (t : Ty) (p : Option Addr) (n c : Nat) (hn : n ≤ 140737488351232) (w : World) : Calls Tryz.prog 99 #[tyV t, .slice p n c] w fun e w' => e = .returned (.bool (typeMay t n)) ∧ Below w.heap.size w w' := by
  obtain ⟨K, P⟩ := t
  have HK : Hid (∀ w, Calls Tryz.prog 118 #[.int .i64 P, .int .i64 n] w fun e w' => e = .returned (.bool (isPl P n)) ∧ w' = w) := isPlace_any P n
  unfold typeMay tyV
  simp only
  by_cases h1 : K = 1
  · subst h1
    rw [if_pos (Or.inl rfl)]
    go_enter Tryz.func99, Tryz.ntmps99
    go_wp2
    go_ret
    exact ⟨rfl, bel_alloc _ _⟩
  · by_cases h2 : K = 2
    · subst h2
      rw [if_pos (Or.inr rfl)]
      go_enter Tryz.func99, Tryz.ntmps99
      go_wp2
      go_ret
      exact ⟨rfl, bel_alloc _ _⟩
    · rw [if_neg (fun e => e.elim h1 h2)]
      have h1' : (K == 1) = false := by simpa using h1
      have h2' : (K == 2) = false := by simpa using h2
      by_cases h3 : K = 3
      · subst h3
        rw [if_pos rfl]
        go_enter Tryz.func99, Tryz.ntmps99
        go_wp2_with (go_at_call 118; refine (HK.out _).mono ?_; rintro e w1 ⟨rfl, rfl⟩)
        go_ret
        exact ⟨rfl, bel_alloc _ _⟩
      · rw [if_neg h3]
        have h3' : (K == 3) = false := by simpa using h3
        clear h1 h2 h3
        go_enter Tryz.func99, Tryz.ntmps99
        go_wp2
        go_ret
        exact ⟨rfl, bel_alloc _ _⟩

def slV (s : Sl) : Value := .agg #[.int .i64 s.ty.kind, .int .i64 s.ty.par, .bool s.keep, .int .u32 s.bits, .int .i64 s.int_]

set_option maxRecDepth 100000 in
set_option maxHeartbeats 1000000 in
theorem begins_any (s : Sl) (h0 : 0 ≤ s.bits) (h1 : s.bits < 4294967296) (w : World) : Calls Tryz.prog 100 #[slV s] w fun e w' => e = .returned (.bool (begins s)) ∧ Below w.heap.size w w' := by
  have HK : Hid (∀ w, Calls Tryz.prog 120 #[.int .u32 s.bits] w fun e w' => e = .returned (.bool (toldB s.bits)) ∧ w' = w) := isTold_any s.bits h0 h1
  have HL : Hid (∀ w, Calls Tryz.prog 119 #[.int .i64 s.int_] w fun e w' => e = .returned (.bool (wholeB s.int_)) ∧ w' = w) := isWhole_any s.int_
  obtain ⟨⟨K, P⟩, Q, B, I⟩ := s
  unfold begins slV
  simp only at HK HL h0 h1 ⊢
  obtain ⟨X, hX⟩ : ∃ X, toldB B = X := ⟨_, rfl⟩
  obtain ⟨Y, hY⟩ : ∃ Y, wholeB I = Y := ⟨_, rfl⟩
  rw [hX] at HK ⊢
  rw [hY] at HL ⊢
  clear hX hY
  by_cases h2 : K = 2
  · subst h2
    rw [if_pos rfl]
    cases hb : (B == 0)
    all_goals
      go_enter Tryz.func100, Tryz.ntmps100
      go_wp2_with (go_at_call 119; refine (HL.out _).mono ?_; rintro e w1 ⟨rfl, rfl⟩)
      go_ret
      exact ⟨ret_bool (by simp [hb]), bel_alloc _ _⟩
  · rw [if_neg h2]
    have h2' : (K == 2) = false := by simpa using h2
    clear h2
    cases hb : (I == 0)
    all_goals
      go_enter Tryz.func100, Tryz.ntmps100
      go_wp2_with (go_at_call 120; refine (HK.out _).mono ?_; rintro e w1 ⟨rfl, rfl⟩)
      go_ret
      exact ⟨ret_bool (by simp [hb]), bel_alloc _ _⟩

end Go.Proofs.YtnlgkkbmbijndaaGreat
/- Package ir: which registers a letter means. -/
namespace Go.Proofs.YtnlgkkbmbijndaaGreat
open Go.RowKit
set_option linter.unusedVariables false
set_option linter.unusedSimpArgs false

theorem ty_eq (K P L Q : Int) : decide ((⟨K, P⟩ : Ty) = ⟨L, Q⟩) = (K == L && P == Q) := by
  rw [Bool.eq_iff_iff]; simp

set_option maxRecDepth 100000 in
set_option maxHeartbeats 2000000 in
theorem means_any (l : Int) (t m : Ty) (w : World) : Calls Tryz.prog 121 #[.int .i64 l, tyV t, tyV m] w fun e w' => e = .returned (.bool (meansP l t m)) ∧ Below w.heap.size w w' := by
  obtain ⟨K, P⟩ := t
  obtain ⟨L, Q⟩ := m
  unfold meansP tyV
  simp only [ty_eq]
  by_cases h1 : l = 1
  · subst h1
    rw [if_pos rfl]
    go_enter Tryz.func121, Tryz.ntmps121
    go_wp2
    go_ret
    exact ⟨rfl, bel (bel_alloc _ _) (bel_alloc _ _)⟩
  rw [if_neg h1]
  by_cases h2 : l = 2
  · subst h2
    rw [if_pos rfl]
    clear h1
    go_enter Tryz.func121, Tryz.ntmps121
    go_wp2
    go_ret
    exact ⟨rfl, bel (bel_alloc _ _) (bel_alloc _ _)⟩
  rw [if_neg h2]
  by_cases h3 : l = 3
  · subst h3
    rw [if_pos rfl]
    clear h1 h2
    go_enter Tryz.func121, Tryz.ntmps121
    go_wp2
    go_ret
    exact ⟨rfl, bel (bel_alloc _ _) (bel_alloc _ _)⟩
  rw [if_neg h3]
  by_cases h4 : l = 4
  · subst h4
    rw [if_pos rfl]
    clear h1 h2 h3
    cases hk : (K == 1)
    all_goals
      go_enter Tryz.func121, Tryz.ntmps121
      go_wp2
      go_ret
      exact ⟨ret_bool (by simp [hk]), bel (bel_alloc _ _) (bel_alloc _ _)⟩
  rw [if_neg h4]
  by_cases h5 : l = 5
  · subst h5
    rw [if_pos rfl]
    clear h1 h2 h3 h4
    cases hk : (K == 1) <;> cases hl : (K == L) <;> cases hq : (P == Q)
    all_goals
      go_enter Tryz.func121, Tryz.ntmps121
      go_wp2
      go_ret
      exact ⟨ret_bool (by simp [hk, hl, hq]), bel (bel_alloc _ _) (bel_alloc _ _)⟩
  rw [if_neg h5]
  have h1' : (l == 1) = false := by simpa using h1
  have h2' : (l == 2) = false := by simpa using h2
  have h3' : (l == 3) = false := by simpa using h3
  have h4' : (l == 4) = false := by simpa using h4
  have h5' : (l == 5) = false := by simpa using h5
  clear h1 h2 h3 h4 h5
  go_enter Tryz.func121, Tryz.ntmps121
  go_wp2
  all_goals
    go_ret
    exact ⟨ret_bool (by simp [*]), bel (bel_alloc _ _) (bel_alloc _ _)⟩

end Go.Proofs.YtnlgkkbmbijndaaGreat
