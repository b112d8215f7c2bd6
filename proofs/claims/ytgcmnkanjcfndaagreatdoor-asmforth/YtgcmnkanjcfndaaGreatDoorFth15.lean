import Derived.Test.YtgcmnkanjcfndaaGreatDoorFth14
import Derived.Deep.DeepCutAuto
import Derived.Test.YtgcmnkanjcfndaaGreatDoorFth1
import Derived.OrdersHeld
/- Package asm: the reader: a register's line, plainly. -/
namespace Go.Proofs.YtgcmnkanjcfndaaGreatDoor
open Go.RowKit
set_option linter.unusedVariables false
set_option linter.unusedSimpArgs false

/-- What a register's line does to the code. -/
def RegT (ws : List Bs) (n : Int) (c c' : Cd) (ws' : List Bs) (b' : Bool) : Prop :=
  match regLn n ws with
  | some t => ws' = [] ∧ b' = false ∧ c' = ⟨c.sign, c.regs ++ [t], c.slots, c.list⟩
  | none => ¬ (ws' = [] ∧ b' = false)
theorem reg_end {ws : List Bs} {n m : Int} {c : Cd} {t : Ty} {ws' : List Bs} {b' : Bool} (ha : (nxW ws).1 = regB) (hm : ∀ x, numW (nxW (nxW ws).2).1 = some x → m = x)
    (ht : TakT ((false || !(numW (nxW (nxW ws).2).1).isSome) || !(m == n)) (typLn (nxW (nxW ws).2).2) t ws' b') : RegT ws n c ⟨c.sign, c.regs ++ [t], c.slots, c.list⟩ ws' b' := by
  unfold RegT
  rw [reg_take ha]
  unfold TakT at ht
  by_cases hn : numW (nxW (nxW ws).2).1 = some n
  · rw [if_pos hn]
    have e := hm n hn
    subst e
    rw [hn] at ht
    cases ht2 : typLn (nxW (nxW ws).2).2 with
    | none =>
      rw [ht2] at ht
      simp only at ht
      rw [ht]
      simp
    | some p =>
      obtain ⟨t', r⟩ := p
      rw [ht2] at ht
      simp only at ht
      obtain ⟨h1, h2, h3⟩ := ht
      subst h2 h3
      rw [Option.bind_some, all_take]
      by_cases hr : ws' = []
      · rw [if_pos hr]
        exact ⟨hr, by rw [h1]; simp, rfl⟩
      · rw [if_neg hr]
        exact fun q => hr q.1
  · rw [if_neg hn]
    have hf : ((false || !(numW (nxW (nxW ws).2).1).isSome) || !(m == n)) = true := by
      cases e : numW (nxW (nxW ws).2).1 with
      | none => simp
      | some x =>
        have := hm x e
        subst this
        have : ¬ m = n := fun q => hn (by rw [e, q])
        simp [this]
    rw [hf] at ht
    have hb : b' = true := by
      cases ht2 : typLn (nxW (nxW ws).2).2 with
      | none => rw [ht2] at ht; exact ht
      | some p =>
        obtain ⟨t', r⟩ := p
        rw [ht2] at ht
        exact ht.1
    rw [hb]
    simp

end Go.Proofs.YtgcmnkanjcfndaaGreatDoor
/- Package asm: the reader: what each sort of line says, plainly. -/
namespace Go.Proofs.YtgcmnkanjcfndaaGreatDoor
set_option linter.unusedVariables false
set_option linter.unusedSimpArgs false

/-- What a line does to the code: what it says, or the words are not right. -/
def SayT (o : Option Cd) (c' : Cd) (ws' : List Bs) (b' : Bool) : Prop :=
  match o with
  | some x => ws' = [] ∧ b' = false ∧ c' = x
  | none => ¬ (ws' = [] ∧ b' = false)
theorem SayT.bad (o : Option Cd) {c' : Cd} {ws' : List Bs} {b' : Bool} (h : o = none) (hb : b' = true) : SayT o c' ws' b' := by
  subst h hb
  exact fun h => by cases h.2
theorem reg_say {ws : List Bs} {n : Int} {c c' : Cd} {ws' : List Bs} {b' : Bool} (h : RegT ws n c c' ws' b') : SayT ((regLn n ws).map fun t => ⟨c.sign, c.regs ++ [t], c.slots, c.list⟩) c' ws' b' := by
  unfold RegT at h
  cases e : regLn n ws with
  | none => rw [e] at h; exact h
  | some t => rw [e] at h; exact h
theorem keep_mean (x : Bs) : meanA keepL 2 x = if x = keepB then some 1 else if x = localB then some 0 else none := by
  by_cases h1 : x = keepB
  · subst h1; decide
  by_cases h2 : x = localB
  · subst h2; decide
  simp [meanA, keepL, h1, h2]
theorem kind_mean (x : Bs) : meanA kindL 3 x = if x = complexB then some 2 else if x = realB then some 1 else none := by
  by_cases h1 : x = complexB
  · subst h1; decide
  by_cases h2 : x = realB
  · subst h2; decide
  simp [meanA, kindL, h1, h2]
theorem TakT.on {α : Type} {o : Option (α × List Bs)} {a : α} {ws' : List Bs} {b' : Bool} (h : TakT true o a ws' b') : b' = true := by
  unfold TakT at h
  cases o with
  | none => exact h
  | some p => exact h.1

theorem slot_end {ws : List Bs} {n m : Int} {c : Cd} {t : Ty} {s : Sl} {ws4 ws' : List Bs} {b4 b' : Bool} (ha : (nxW ws).1 = slotB) (hm : ∀ x, numW (nxW (nxW ws).2).1 = some x → m = x)
    (ht : TakT (((false || !(numW (nxW (nxW ws).2).1).isSome) || !(m == n)) || !(meanA keepL 2 (nxW (nxW (nxW ws).2).2).1).isSome) (typLn (nxW (nxW (nxW ws).2).2).2) t ws4 b4)
    (hs : s.ty = t) (hk : s.keep = decide ((meanA keepL 2 (nxW (nxW (nxW ws).2).2).1).getD 0 = 1))
    (hv : if t.kind = 2 then (∀ x, numW (nxW ws4).1 = some x → s.int_ = x) ∧ s.bits = 0 ∧ ws' = (nxW ws4).2 ∧ b' = (b4 || !(numW (nxW ws4).1).isSome) else (∀ x, hexW (nxW ws4).1 = some x → s.bits = x) ∧ s.int_ = 0 ∧ ws' = (nxW ws4).2 ∧ b' = (b4 || !(hexW (nxW ws4).1).isSome)) :
    SayT ((slotLn n ws).map fun l => ⟨c.sign, c.regs, c.slots ++ [l], c.list⟩) ⟨c.sign, c.regs, c.slots ++ [s], c.list⟩ ws' b' := by
  rw [slot_take ha]
  generalize (nxW (nxW (nxW ws).2).2).1 = K at *
  generalize (nxW (nxW (nxW ws).2).2).2 = R at *
  generalize numW (nxW (nxW ws).2).1 = N at *
  have hbb : b4 = true → b' = true := fun h => by
    by_cases q : t.kind = 2
    · rw [if_pos q] at hv; rw [hv.2.2.2, h]; rfl
    · rw [if_neg q] at hv; rw [hv.2.2.2, h]; rfl
  by_cases h1 : N = some n ∧ (K = keepB ∨ K = localB)
  · rw [if_pos h1]
    obtain ⟨h1, h2⟩ := h1
    have hmn := hm n h1
    have hkm : (meanA keepL 2 K).isSome = true ∧ decide ((meanA keepL 2 K).getD 0 = 1) = decide (K = keepB) := by
      rw [keep_mean]
      rcases h2 with rfl | rfl
      · decide
      · decide
    rw [h1, hmn, hkm.1] at ht
    have e0 : ((false || !(some n : Option Int).isSome) || !(n == n) || !true) = false := by simp
    rw [e0] at ht
    rw [hkm.2] at hk
    cases hT : typLn R with
    | none =>
      rw [hT] at ht
      exact SayT.bad _ rfl (hbb ht)
    | some p =>
      obtain ⟨t', r⟩ := p
      rw [hT] at ht
      obtain ⟨g1, g2, g3⟩ := ht
      subst g1 g2 g3
      rw [Option.bind_some, slo_take]
      obtain ⟨st, sk, sb, si⟩ := s
      simp only at hs hk hv
      subst hs hk
      by_cases q : st.kind = 2
      · rw [if_pos q] at hv ⊢
        obtain ⟨v1, v2, v3, v4⟩ := hv
        subst v2 v3
        by_cases hr : (nxW ws4).2 = []
        · rw [if_pos hr]
          cases hN : numW (nxW ws4).1 with
          | none => rw [hN] at v4; exact SayT.bad _ rfl (by rw [v4]; rfl)
          | some x => rw [hN] at v4; rw [v1 x hN]; exact ⟨hr, by rw [v4]; rfl, rfl⟩
        · rw [if_neg hr]
          exact fun h => hr h.1
      · rw [if_neg q] at hv ⊢
        obtain ⟨v1, v2, v3, v4⟩ := hv
        subst v2 v3
        by_cases hr : (nxW ws4).2 = []
        · rw [if_pos hr]
          cases hN : hexW (nxW ws4).1 with
          | none => rw [hN] at v4; exact SayT.bad _ rfl (by rw [v4]; rfl)
          | some x => rw [hN] at v4; rw [v1 x hN]; exact ⟨hr, by rw [v4]; rfl, rfl⟩
        · rw [if_neg hr]
          exact fun h => hr h.1
  · rw [if_neg h1]
    have hf : ((false || !N.isSome) || !(m == n) || !(meanA keepL 2 K).isSome) = true := by
      by_cases h2 : N = some n
      · have h3 : ¬ (K = keepB ∨ K = localB) := fun e => h1 ⟨h2, e⟩
        have : meanA keepL 2 K = none := by rw [keep_mean, if_neg (fun e => h3 (.inl e)), if_neg (fun e => h3 (.inr e))]
        rw [this]; simp
      · cases e : N with
        | none => simp
        | some x =>
          have hx := hm x e
          subst hx
          have : ¬ m = n := fun q => h2 (by rw [e, q])
          simp [this]
    rw [hf] at ht
    exact SayT.bad _ rfl (hbb ht.on)

theorem check_one (p : Par) : (checkP [p] = 0) ↔ mayP p = true := by
  unfold checkP
  cases h : mayP p with
  | false => simp [h]
  | true =>
    have hl : p.len ≤ 4096 ∧ (p.kind = 1 ∨ p.kind = 2) := by
      unfold mayP at h
      simp only [Bool.and_eq_true, Bool.or_eq_true, decide_eq_true_eq, beq_iff_eq] at h
      exact ⟨h.2.2, h.1.2⟩
    have ht : totP [p] ≤ 65536 := by
      have := (num_bounds p).2
      show numP p + 0 ≤ 65536
      omega
    simp [h, twiceP]
    omega
theorem par_name {p : ByteArray} {n : Bs} (h : bs p = n) : p = ⟨n.toArray⟩ := by subst h; cases p; simp [bs]

theorem par_end {ws : List Bs} {m kv : Int} {c : Cd} {p : Par} {ws' : List Bs} {b' : Bool} (h4 : 4 ≤ ws.length) (ha : (nxW ws).1 = paramB)
    (hn : bs p.name = (nxW (nxW ws).2).1) (hk : p.kind = (((meanA kindL 3 (nxW (nxW (nxW ws).2).2).1).getD 0 : Nat) : Int)) (hm : ∀ x, numW (nxW (nxW (nxW (nxW ws).2).2).2).1 = some x → p.len = x)
    (hw : ws' = (nxW (nxW (nxW (nxW ws).2).2).2).2) (hb : b' = (((false || !(meanA kindL 3 (nxW (nxW (nxW ws).2).2).1).isSome) || !(numW (nxW (nxW (nxW (nxW ws).2).2).2).1).isSome) || !(decide (checkP [p] = 0)))) :
    SayT ((parLn ws).map fun p => ⟨c.sign ++ [p], c.regs, c.slots, c.list⟩) ⟨c.sign ++ [p], c.regs, c.slots, c.list⟩ ws' b' := by
  have hpt := fun m => par_take h4 ha m _ _ _ _ rfl rfl rfl rfl
  have hpar : ∀ q, parLn ws = some q → ∃ m, q = parOf (nxW (nxW ws).2).1 (nxW (nxW (nxW ws).2).2).1 m := fun q hq => by
    unfold parLn at hq
    split at hq
    · rename_i a n k l
      by_cases hc : a = paramB ∧ (k = realB ∨ k = complexB)
      · rw [if_pos hc, Option.bind_eq_some_iff] at hq
        obtain ⟨m', -, h⟩ := hq
        by_cases hp : mayP (parOf n k m') = true
        · rw [if_pos hp] at h
          exact ⟨m', (Option.some.inj h).symm⟩
        · rw [if_neg hp] at h; cases h
      · rw [if_neg hc] at hq; cases hq
    · cases hq
  generalize (nxW (nxW ws).2).1 = n at *
  generalize (nxW (nxW (nxW ws).2).2).1 = k at *
  generalize (nxW (nxW (nxW (nxW ws).2).2).2).1 = l at *
  generalize (nxW (nxW (nxW (nxW ws).2).2).2).2 = r at *
  obtain ⟨pn, pk, pl⟩ := p
  simp only at hn hk hm
  have hpn := par_name hn
  by_cases hc : (k = realB ∨ k = complexB) ∧ (numW l).isSome = true
  · obtain ⟨hc, hl⟩ := hc
    obtain ⟨x, hx⟩ := Option.isSome_iff_exists.1 hl
    have hlen := hm x hx
    subst hlen
    have hkk : (meanA kindL 3 k).isSome = true ∧ pk = if k = complexB then 2 else 1 := by
      rw [hk, kind_mean]
      rcases hc with rfl | rfl
      · decide
      · decide
    have hpo : (⟨pn, pk, pl⟩ : Par) = parOf n k pl := by unfold parOf; rw [hpn, hkk.2]
    rw [hkk.1, hx, hpo] at hb
    have hb2 : b' = !(decide (checkP [parOf n k pl] = 0)) := by rw [hb]; simp
    have hd : decide (checkP [parOf n k pl] = 0) = mayP (parOf n k pl) := by
      have := check_one (parOf n k pl)
      cases h : mayP (parOf n k pl) with
      | true => rw [h] at this; simpa using this
      | false => rw [h] at this; simpa using this
    rw [hd] at hb2
    rw [hpo]
    by_cases hr : mayP (parOf n k pl) = true ∧ r = []
    · rw [(hpt pl).2 ⟨hc, hx, hr.1, hr.2⟩]
      exact ⟨by rw [hw, hr.2], by rw [hb2, hr.1]; rfl, rfl⟩
    · have hno : parLn ws = none := none_or fun q hq => by
        obtain ⟨m', rfl⟩ := hpar q hq
        obtain ⟨_, g1, g2, g3⟩ := (hpt m').1 hq
        rw [hx] at g1
        have := Option.some.inj g1
        subst this
        exact hr ⟨g2, g3⟩
      rw [hno]
      intro h
      refine hr ⟨?_, by rw [← hw]; exact h.1⟩
      rw [hb2] at h
      simpa using h.2
  · have hno : parLn ws = none := none_or fun q hq => by
      obtain ⟨m', rfl⟩ := hpar q hq
      obtain ⟨g0, g1, -, -⟩ := (hpt m').1 hq
      exact hc ⟨g0, by rw [g1]; rfl⟩
    refine SayT.bad _ (by rw [hno]; rfl) ?_
    rw [hb]
    by_cases h1 : k = realB ∨ k = complexB
    · have h2 : (numW l).isSome = false := by
        cases e : (numW l).isSome with
        | false => rfl
        | true => exact absurd ⟨h1, e⟩ hc
      rw [h2]; simp
    · have : meanA kindL 3 k = none := by rw [kind_mean, if_neg (fun e => h1 (.inr e)), if_neg (fun e => h1 (.inl e))]
      rw [this]; simp

end Go.Proofs.YtgcmnkanjcfndaaGreatDoor
/- Package asm: the reader: a parameter, a slot, an instruction more. -/
namespace Go.Proofs.YtgcmnkanjcfndaaGreatDoor
open Go.RowKit
set_option linter.unusedVariables false
set_option linter.unusedSimpArgs false

theorem info_ParA : (Tryz.prog.info? 48).map (fun i => (i.zero, i.size, i.bytes)) = some (some (.agg #[.string ⟨#[]⟩, .int .i64 0, .int .i64 0]), 3, 32) := by kernel_rfl
theorem info_InA : (Tryz.prog.info? 46).map (fun i => (i.zero, i.size, i.bytes)) = some (some (.agg #[.int .i64 0, .int .i64 0, .int .i64 0, .int .i64 0, .int .i64 0, .int .i64 0, .int .u32 0]), 7, 56) := by kernel_rfl
/-- An append's outcome in a drawn region. -/
theorem ready_appA {P : Program} {w w' : World} {o : Oper} {a : Act} {K : Act → World → Prop} {Q : Exit → Act → World → Prop} (s x : Operand) (t u : TypeId)
    (ho : o.op = .call { callee := .builtin .append, args := #[s, x], argTypes := #[t, u] }) (v v2 v' : Value) (hs : a.eval s = v) (hx : a.eval x = v2) (hr : (Builtin.append_ #[t, u] o.type #[v, v2]).run P w = .ok v' w')
    (h : K (a.put o.dst v') w') (y' : Bool) (hy : y' = true) : if y' = true then Oper.wp P o a w K Q else K (a.put o.dst undef) w := by
  rw [if_pos hy]
  unfold Oper.wp execOp
  simp only [ho, resolve, invoke, builtin, Sem.run_bind, Sem.run_pure, Result.andThen_ok, List.map_toArray, List.map_cons, List.map_nil, hs, hx, hr]
  exact h
/-- A slot more. -/
theorem RdA.slot {E B WB m0 m1 m2 m3 m4 : Nat} {w : World} {c : Cd} {ln st : Int} {u0 u1 u2 u3 : Value} {ws : List Bs} {b : Bool} (h : RdA E B m0 m1 m2 m3 m4 w c ln st u0 u1 u2 u3) (hw : WdM WB ws b w) (s : Sl) (hl : c.slots.length * 32 ≤ 140737488351232) (ty : TypeId) :
    ∃ g q w', (Builtin.append_ #[24, 24] ty #[u2, .slice (some ⟨w.heap.size, 0, none⟩) 1 1]).run Tryz.prog (w.alloc (.cells (slC s).toArray 60)) = .ok (.slice (some ⟨g, 0, none⟩) (c.slots.length + 1) q) w' ∧ w'.rowIs B 67 11 (g11 u0 u1 u2 u3 (.int .i64 ln) (.int .i64 st) (.map (some m0)) (.map (some m1)) (.map (some m2)) (.map (some m3)) (.map (some m4))) ∧ RdA E B m0 m1 m2 m3 m4 (w'.setCell ⟨B, 2, none⟩ (.slice (some ⟨g, 0, none⟩) (c.slots.length + 1) q)) ⟨c.sign, c.regs, c.slots ++ [s], c.list⟩ ln st u0 u1 (.slice (some ⟨g, 0, none⟩) (c.slots.length + 1) q) u3 ∧ WdM WB ws b (w'.setCell ⟨B, 2, none⟩ (.slice (some ⟨g, 0, none⟩) (c.slots.length + 1) q)) ∧ Below E w (w'.setCell ⟨B, 2, none⟩ (.slice (some ⟨g, 0, none⟩) (c.slots.length + 1) q)) := by
  have hsz : E ≤ w.heap.size := by have := h.le; have := h.row.lt; omega
  obtain ⟨p, q, rfl⟩ := own_len h.own.slots
  obtain ⟨g, c', w', h1, h2, h3, h4⟩ := own_app (t := 24) (e := 60) Tryz.underlying24 info_Slot (by rfl) (by decide) h.own.slots hsz (slC s).toArray rfl (by intro u hu; exact slC_one s u (by simpa using hu)) (by unfold maxLen; omega) (by omega) ty
  have hr := h.row.of_block (h4 _ h.row.lt (own_rowV h.own.slots h.row (by decide)))
  have k0 := own_keep h.own.sign fun b hb => h4 b (h.own.sign.lt b hb).2 fun e => own_other h.own.sign h.own.slots (by decide) b hb e
  have k1 := own_keep h.own.regs fun b hb => h4 b (h.own.regs.lt b hb).2 fun e => own_other h.own.regs h.own.slots (by decide) b hb e
  have k3 := own_keep h.own.list fun b hb => h4 b (h.own.list.lt b hb).2 fun e => own_other h.own.list h.own.slots (by decide) b hb e
  have km : MapsA E w' m0 m1 m2 m3 m4 := h.maps.keep fun C g hm => h4 C hm.lt (own_map h.own.slots hm)
  have hp := put11_2 hr (.slice (some ⟨g, 0, none⟩) (c.slots.length + 1) c')
  obtain ⟨T, w1, w2, w3⟩ := hw.row
  have hr3 := w3.of_block (h4 _ w3.lt (own_rowV h.own.slots w3 (by decide)))
  have hne : WB ≠ B := fun e => by
    obtain ⟨x, hx, -⟩ := h.row
    obtain ⟨y, hy, -⟩ := w3
    rw [e, hx] at hy
    have := (Obj.cells.inj (Option.some.inj hy)).2.1
    exact absurd this (by decide)
  refine ⟨g, c', w', h1, hr, ⟨h.le, hp.1, ⟨own_putV k0 hr (by decide) hp.2, own_putV k1 hr (by decide) hp.2, ?_, own_putV k3 hr (by decide) hp.2⟩, km.keep fun C g hm => hp.2.oth C (hm.no hr)⟩, ⟨⟨T, w1, w2, hr3.of_block (hp.2.oth _ hne)⟩, hw.no⟩, h2.trans (hp.2.bel E h.le)⟩
  show World.ownsRow _ _ _ _ _ (c.slots ++ [s]).length (flat slC (c.slots ++ [s]))
  rw [List.length_append, List.length_singleton, flat_append, show flat slC [s] = slC s by simp [flat]]
  exact own_putV (by simpa using h3) hr (by decide) hp.2
/-- An instruction more. -/
theorem RdA.ins {E B WB m0 m1 m2 m3 m4 : Nat} {w : World} {c : Cd} {ln st : Int} {u0 u1 u2 u3 : Value} {ws : List Bs} {b : Bool} (h : RdA E B m0 m1 m2 m3 m4 w c ln st u0 u1 u2 u3) (hw : WdM WB ws b w) (s : Ins) (hl : c.list.length * 56 ≤ 140737488351232) (ty : TypeId) :
    ∃ g q w', (Builtin.append_ #[25, 25] ty #[u3, .slice (some ⟨w.heap.size, 0, none⟩) 1 1]).run Tryz.prog (w.alloc (.cells (inC s).toArray 46)) = .ok (.slice (some ⟨g, 0, none⟩) (c.list.length + 1) q) w' ∧ w'.rowIs B 67 11 (g11 u0 u1 u2 u3 (.int .i64 ln) (.int .i64 st) (.map (some m0)) (.map (some m1)) (.map (some m2)) (.map (some m3)) (.map (some m4))) ∧ RdA E B m0 m1 m2 m3 m4 (w'.setCell ⟨B, 3, none⟩ (.slice (some ⟨g, 0, none⟩) (c.list.length + 1) q)) ⟨c.sign, c.regs, c.slots, c.list ++ [s]⟩ ln st u0 u1 u2 (.slice (some ⟨g, 0, none⟩) (c.list.length + 1) q) ∧ WdM WB ws b (w'.setCell ⟨B, 3, none⟩ (.slice (some ⟨g, 0, none⟩) (c.list.length + 1) q)) ∧ Below E w (w'.setCell ⟨B, 3, none⟩ (.slice (some ⟨g, 0, none⟩) (c.list.length + 1) q)) := by
  have hsz : E ≤ w.heap.size := by have := h.le; have := h.row.lt; omega
  obtain ⟨p, q, rfl⟩ := own_len h.own.list
  obtain ⟨g, c', w', h1, h2, h3, h4⟩ := own_app (t := 25) (e := 46) Tryz.underlying25 info_InA (by rfl) (by decide) h.own.list hsz (inC s).toArray rfl (by intro u hu; exact inC_one s u (by simpa using hu)) (by unfold maxLen; omega) (by omega) ty
  have hr := h.row.of_block (h4 _ h.row.lt (own_rowV h.own.list h.row (by decide)))
  have k0 := own_keep h.own.sign fun b hb => h4 b (h.own.sign.lt b hb).2 fun e => own_other h.own.sign h.own.list (by decide) b hb e
  have k1 := own_keep h.own.regs fun b hb => h4 b (h.own.regs.lt b hb).2 fun e => own_other h.own.regs h.own.list (by decide) b hb e
  have k2 := own_keep h.own.slots fun b hb => h4 b (h.own.slots.lt b hb).2 fun e => own_other h.own.slots h.own.list (by decide) b hb e
  have km : MapsA E w' m0 m1 m2 m3 m4 := h.maps.keep fun C g hm => h4 C hm.lt (own_map h.own.list hm)
  have hp := put11_3 hr (.slice (some ⟨g, 0, none⟩) (c.list.length + 1) c')
  obtain ⟨T, w1, w2, w3⟩ := hw.row
  have hr3 := w3.of_block (h4 _ w3.lt (own_rowV h.own.list w3 (by decide)))
  have hne : WB ≠ B := fun e => by
    obtain ⟨x, hx, -⟩ := h.row
    obtain ⟨y, hy, -⟩ := w3
    rw [e, hx] at hy
    have := (Obj.cells.inj (Option.some.inj hy)).2.1
    exact absurd this (by decide)
  refine ⟨g, c', w', h1, hr, ⟨h.le, hp.1, ⟨own_putV k0 hr (by decide) hp.2, own_putV k1 hr (by decide) hp.2, own_putV k2 hr (by decide) hp.2, ?_⟩, km.keep fun C g hm => hp.2.oth C (hm.no hr)⟩, ⟨⟨T, w1, w2, hr3.of_block (hp.2.oth _ hne)⟩, hw.no⟩, h2.trans (hp.2.bel E h.le)⟩
  show World.ownsRow _ _ _ _ _ (c.list ++ [s]).length (flat inC (c.list ++ [s]))
  rw [List.length_append, List.length_singleton, flat_append, show flat inC [s] = inC s by simp [flat]]
  exact own_putV (by simpa using h3) hr (by decide) hp.2
/-- A parameter more. -/
theorem RdA.par {E B WB m0 m1 m2 m3 m4 : Nat} {w : World} {c : Cd} {ln st : Int} {u0 u1 u2 u3 : Value} {ws : List Bs} {b : Bool} (h : RdA E B m0 m1 m2 m3 m4 w c ln st u0 u1 u2 u3) (hw : WdM WB ws b w) (s : Par) (hl : c.sign.length * 32 ≤ 140737488351232) (ty : TypeId) :
    ∃ g q w', (Builtin.append_ #[22, 22] ty #[u0, .slice (some ⟨w.heap.size, 0, none⟩) 1 1]).run Tryz.prog (w.alloc (.cells (parCells s).toArray 48)) = .ok (.slice (some ⟨g, 0, none⟩) (c.sign.length + 1) q) w' ∧ w'.rowIs B 67 11 (g11 u0 u1 u2 u3 (.int .i64 ln) (.int .i64 st) (.map (some m0)) (.map (some m1)) (.map (some m2)) (.map (some m3)) (.map (some m4))) ∧ RdA E B m0 m1 m2 m3 m4 (w'.setCell ⟨B, 0, none⟩ (.slice (some ⟨g, 0, none⟩) (c.sign.length + 1) q)) ⟨c.sign ++ [s], c.regs, c.slots, c.list⟩ ln st (.slice (some ⟨g, 0, none⟩) (c.sign.length + 1) q) u1 u2 u3 ∧ WdM WB ws b (w'.setCell ⟨B, 0, none⟩ (.slice (some ⟨g, 0, none⟩) (c.sign.length + 1) q)) ∧ Below E w (w'.setCell ⟨B, 0, none⟩ (.slice (some ⟨g, 0, none⟩) (c.sign.length + 1) q)) := by
  have hsz : E ≤ w.heap.size := by have := h.le; have := h.row.lt; omega
  obtain ⟨p, q, rfl⟩ := own_len h.own.sign
  obtain ⟨g, c', w', h1, h2, h3, h4⟩ := own_app (t := 22) (e := 48) Tryz.underlying22 info_ParA (by rfl) (by decide) h.own.sign hsz (parCells s).toArray rfl (by intro u hu; exact parC_one s u (by simpa using hu)) (by unfold maxLen; omega) (by omega) ty
  have hr := h.row.of_block (h4 _ h.row.lt (own_rowV h.own.sign h.row (by decide)))
  have k1 := own_keep h.own.regs fun b hb => h4 b (h.own.regs.lt b hb).2 fun e => own_other h.own.regs h.own.sign (by decide) b hb e
  have k2 := own_keep h.own.slots fun b hb => h4 b (h.own.slots.lt b hb).2 fun e => own_other h.own.slots h.own.sign (by decide) b hb e
  have k3 := own_keep h.own.list fun b hb => h4 b (h.own.list.lt b hb).2 fun e => own_other h.own.list h.own.sign (by decide) b hb e
  have km : MapsA E w' m0 m1 m2 m3 m4 := h.maps.keep fun C g hm => h4 C hm.lt (own_map h.own.sign hm)
  have hp := put11_0 hr (.slice (some ⟨g, 0, none⟩) (c.sign.length + 1) c')
  obtain ⟨T, w1, w2, w3⟩ := hw.row
  have hr3 := w3.of_block (h4 _ w3.lt (own_rowV h.own.sign w3 (by decide)))
  have hne : WB ≠ B := fun e => by
    obtain ⟨x, hx, -⟩ := h.row
    obtain ⟨y, hy, -⟩ := w3
    rw [e, hx] at hy
    have := (Obj.cells.inj (Option.some.inj hy)).2.1
    exact absurd this (by decide)
  refine ⟨g, c', w', h1, hr, ⟨h.le, hp.1, ⟨?_, own_putV k1 hr (by decide) hp.2, own_putV k2 hr (by decide) hp.2, own_putV k3 hr (by decide) hp.2⟩, km.keep fun C g hm => hp.2.oth C (hm.no hr)⟩, ⟨⟨T, w1, w2, hr3.of_block (hp.2.oth _ hne)⟩, hw.no⟩, h2.trans (hp.2.bel E h.le)⟩
  show World.ownsRow _ _ _ _ _ (c.sign ++ [s]).length (flat parCells (c.sign ++ [s]))
  rw [List.length_append, List.length_singleton, flat_append, show flat parCells [s] = parCells s by simp [flat]]
  exact own_putV (by simpa using h3) hr (by decide) hp.2

end Go.Proofs.YtgcmnkanjcfndaaGreatDoor
/- Package asm: the reader: register, walked. -/
namespace Go.Proofs.YtgcmnkanjcfndaaGreatDoor
open Go.RowKit
set_option linter.unusedVariables false
set_option linter.unusedSimpArgs false

/-- What a call tells that takes a line's words. -/
def LineT (E B WB m0 m1 m2 m3 m4 : Nat) (ln st : Int) (o : Option Cd) (w : World) (e : Ending) (w' : World) : Prop :=
  e = .returned (.tuple #[]) ∧ ∃ (c' : Cd) (u0 u1 u2 u3 : Value) (ws' : List Bs) (b' : Bool), RdA E B m0 m1 m2 m3 m4 w' c' ln st u0 u1 u2 u3 ∧ WdM WB ws' b' w' ∧ Below E w w' ∧ SayT o c' ws' b'
theorem RdA.len {E B m0 m1 m2 m3 m4 : Nat} {w : World} {c : Cd} {ln st : Int} {u0 u1 u2 u3 : Value} (h : RdA E B m0 m1 m2 m3 m4 w c ln st u0 u1 u2 u3) : ∃ p q, u1 = .slice p c.regs.length q := own_len h.own.regs

set_option maxRecDepth 100000 in
set_option maxHeartbeats 4000000 in
theorem rreg_any (E B WB m0 m1 m2 m3 m4 : Nat) (c : Cd) (ln st : Int) (u0 u1 u2 u3 : Value) (ws : List Bs) (w : World) (hL : LaidE E w) (hE : E ≤ WB) (h : RdA E B m0 m1 m2 m3 m4 w c ln st u0 u1 u2 u3) (hw : WdM WB ws false w) (ha : (nxW ws).1 = regB) (hl : c.regs.length ≤ 4194304) :
    Calls Tryz.prog 88 #[.pointer (some ⟨B, 0, none⟩), .pointer (some ⟨WB, 0, none⟩)] w fun e w' => LineT E B WB m0 m1 m2 m3 m4 ln st ((regLn c.regs.length ws).map fun t => ⟨c.sign, c.regs ++ [t], c.slots, c.list⟩) w e w' := by
  have HA := hidC ha
  have HLn := hidC hl
  have HX := hidC (And.intro hE (And.intro hL h))
  have K1 := hidC (wnext_any WB ws false w hL.laid hw)
  have hlE := hL.le
  have HLE := hidC hlE
  have HW := hidC hw
  clear h hw hL hE ha hl hlE
  go_enter Tryz.func88, Tryz.ntmps88
  go_upto_region 1 with (go_at_call 118; (with_reducible refine K1.out.mono ?_); rintro e w1 ⟨U, rfl, hU, hU2, h1, k1⟩; have H1 := hidC (And.intro h1 k1); clear h1 k1 hU hU2)
  obtain ⟨T0, -, -, hrow0⟩ := HW.out.row
  have hd1 := H1.out.1.below (bel_d w1)
  have hR1 := (HX.out.2.2.ofB hrow0 H1.out.2).below (bel_d w1)
  have hL1 := (HX.out.2.1.ofB HX.out.1 H1.out.2).below ((bel_d w1).mono (HX.out.2.1.ofB HX.out.1 H1.out.2).le)
  have KN := hidC (wnum_any WB (nxW ws).2 false w1.drew hL1.laid hd1 (fun v k => (hL1.ofB HX.out.1 k).laid))
  have HO1 := hidC (And.intro hd1 (And.intro hR1 hL1))
  obtain ⟨N, hN⟩ : ∃ N, c.regs.length = N := ⟨_, rfl⟩
  obtain ⟨p1, q1, hu1⟩ := hR1.len
  rw [hN] at hu1
  have v1 : w1.drew.cell? ⟨B, 1, none⟩ = some (.slice p1 N q1) := by rw [hR1.row.cell (i := 1) (by decide), ← hu1]; rfl
  have HN := hidC (And.intro hN hu1)
  clear hd1 hR1 hL1 hrow0 hN hu1
  have v1' : w1.cell? ⟨B, 1, none⟩ = some (.slice p1 N q1) := by simpa using v1
  refine wp_region_held_drew (S := (fun v => v.cell? ⟨B, 1, none⟩ = some (.slice p1 N q1))) (by kernel_rfl) ?_ (fun hHeld => ?_)
  · ((try dsimp only); go_keep)
  refine tkT 0 ?_
  refine tkT 1 ?_
  refine tkT 3 ?_
  refine tkT 4 ?_
  refine tkT 5 ?_
  refine tkT 6 ?_
  refine tkT 7 ?_
  refine tkT 8 ?_
  clear hHeld
  refine wpAnyH_ready (rs := [2]) (by kernel_rfl) (by simp) ?_
  refine AllReadyH.cons (i := 2) (by simp only [List.getElem?_toArray, List.getElem?_cons_succ, List.getElem?_cons_zero]; rfl) (fun K hK => ?_) AllReadyH.nil
  go_simp
  (go_at_call 121; (with_reducible refine KN.out.mono ?_); rintro e w2 ⟨n, rfl, hm, h2, k2⟩; have H2 := hidC (And.intro h2 (And.intro k2 hm)); clear h2 k2 hm)
  have hR2 := hidC (HO1.out.2.1.ofB (HO1.out.1.row.choose_spec.2.2) H2.out.2.1)
  have v2 : w2.cell? ⟨B, 1, none⟩ = some (.slice p1 N q1) := by rw [hR2.out.row.cell (i := 1) (by decide), ← HN.out.2]; rfl
  clear v1 v1'
  try (go_wp2_with fail)
  refine hK.out _ _ ?_ (fun hHeld => ?_)
  · ((try dsimp only); go_keep)
  clear hK K
  try simp only [Act.put, List.setIfInBounds_toArray, List.set_cons_zero, List.set_cons_succ]
  refine tkT 9 ?_
  clear hHeld
  refine wpAnyH_ready (rs := [10]) (by kernel_rfl) (by simp) ?_
  refine AllReadyH.cons (i := 10) (by simp only [List.getElem?_toArray, List.getElem?_cons_succ, List.getElem?_cons_zero]; rfl) (fun K hK => ?_) AllReadyH.nil
  go_simp
  (go_at_call 122; (with_reducible refine (whold_any WB _ _ _ _ H2.out.1).mono ?_); rintro e w3 ⟨rfl, h3, k3⟩; have H3 := hidC (And.intro h3 k3); clear h3 k3)
  have hR3 := hidC (hR2.out.ofB (H2.out.1.row.choose_spec.2.2) H3.out.2)
  have v3 : w3.cell? ⟨B, 1, none⟩ = some (.slice p1 N q1) := by rw [hR3.out.row.cell (i := 1) (by decide), ← HN.out.2]; rfl
  clear v2
  try (go_wp2_with fail)
  refine hK.out _ _ ?_ (fun hHeld => ?_)
  · ((try dsimp only); go_keep)
  clear hK K
  try simp only [Act.put, List.setIfInBounds_toArray, List.set_cons_zero, List.set_cons_succ]
  refine wpAnyH_done (by kernel_rfl) ?_ _
  have hd3 := H3.out.1.below (bel_d w3)
  have hR3d := hR3.out.below (bel_d w3)
  have hL3 := (HO1.out.2.2.ofB HX.out.1 H2.out.2.1).ofB HX.out.1 H3.out.2
  have HL3 := hidC (hL3.below ((bel_d w3).mono hL3.le))
  have HD3 := hidC hd3
  have HR3d := hidC hR3d
  have KT := hidC (typed_any E B WB m0 m1 m2 m3 m4 c ln st u0 u1 u2 u3 _ _ w3.drew HL3.out HX.out.1 hR3d hd3)
  have v3d : w3.drew.cell? ⟨B, 1, none⟩ = some (.slice p1 N q1) := by simpa using v3
  clear hd3 hR3d hL3 v3
  go_upto_region 2 with fail
  refine wp_region_held_drew (S := (fun _ => True)) (by kernel_rfl) ?_ (fun hHeld => ?_)
  · trivial
  refine tkT 0 ?_
  refine tkT 1 ?_
  refine tkT 2 ?_
  refine tkT 3 ?_
  refine tkT 4 ?_
  refine tkT 6 ?_
  refine tkT 7 ?_
  clear hHeld
  refine wpAnyH_ready (rs := [5, 8]) (by kernel_rfl) (by simp) ?_
  refine AllReadyH.cons (i := 5) (by simp only [List.getElem?_toArray, List.getElem?_cons_succ, List.getElem?_cons_zero]; rfl) (fun K hK => ?_) ?_
  · go_simp
    refine hK.out _ _ ?_ (fun hHeld => ?_)
    · trivial
    clear hK K
    try simp only [Act.put, List.setIfInBounds_toArray, List.set_cons_zero, List.set_cons_succ]
    clear hHeld
    refine wpAnyH_ready (rs := [8]) (by kernel_rfl) (by simp) ?_
    refine AllReadyH.cons (i := 8) (by simp only [List.getElem?_toArray, List.getElem?_cons_succ, List.getElem?_cons_zero]; rfl) (fun K hK => ?_) AllReadyH.nil
    go_simp
    (go_at_call 123; (with_reducible refine KT.out.mono ?_); rintro e w4 ⟨⟨tk, tp⟩, ws4, b4, rfl, h4, k4, ht4⟩; have H4 := hidC (And.intro h4 (And.intro k4 ht4)); clear h4 k4 ht4)
    have hR4 := hidC (HR3d.out.ofB (HD3.out.row.choose_spec.2.2) H4.out.2.1)
    obtain ⟨g, q, w5, hrun, hrow5, hrd5, hwd5, hbe5⟩ := hR4.out.reg H4.out.1 ⟨tk, tp⟩ (by have := HLn.out; omega) 23
    have H5 := hidC (And.intro hrd5 (And.intro hwd5 hbe5))
    clear hrd5 hwd5 hbe5
    rw [HN.out.2, HN.out.1] at hrun
    have hrun5 : (Builtin.append_ #[23, 23] 23 #[.slice p1 N q1, .slice (some ⟨w4.heap.size, 0, none⟩) 1 1]).run Tryz.prog (w4.alloc (.cells #[.int .i64 tk, .int .i64 tp] 50)) = .ok (.slice (some ⟨g, 0, none⟩) (N + 1) q) w5 := hrun
    have HRUN := hidC hrun5
    clear hrun hrun5
    have z5 := hrow5.frozen 1
    have c5 := hrow5.cell (i := 1) (by decide)
    have c5' : w5.cell? ⟨B, 1, none⟩ = some u1 := c5
    rw [HN.out.2] at c5'
    clear c5 hrow5
    have v4 : w4.cell? ⟨B, 1, none⟩ = some (.slice p1 N q1) := by rw [hR4.out.row.cell (i := 1) (by decide), ← HN.out.2]; rfl
    have v4' : (w4.alloc (.cells #[.int .i64 tk, .int .i64 tp] 50)).cell? ⟨B, 1, none⟩ = some (.slice p1 N q1) := kc (bel_alloc _ _) v4
    try (go_wp2_with fail)
    refine hK.out _ _ ?_ (fun hHeld => ?_)
    · trivial
    clear hK K
    try simp only [Act.put, List.setIfInBounds_toArray, List.set_cons_zero, List.set_cons_succ]
    clear hHeld
    refine wpAnyH_ready (rs := [9]) (by kernel_rfl) (by simp) ?_
    refine AllReadyH.cons (i := 9) (by simp only [List.getElem?_toArray, List.getElem?_cons_succ, List.getElem?_cons_zero]; rfl) (fun K hK => ?_) AllReadyH.nil
    go_simp
    refine hK.out _ _ ?_ (fun hHeld => ?_)
    · trivial
    clear hK K
    try simp only [Act.put, List.setIfInBounds_toArray, List.set_cons_zero, List.set_cons_succ]
    clear hHeld
    refine wpAnyH_ready (rs := [10]) (by kernel_rfl) (by simp) ?_
    refine AllReadyH.cons (i := 10) (by simp only [List.getElem?_toArray, List.getElem?_cons_succ, List.getElem?_cons_zero]; rfl) (fun K hK => ?_) AllReadyH.nil
    refine ready_appA _ _ _ _ (by rfl) _ _ _ (by rfl) (by rfl) HRUN.out ?_ _ (by rfl)
    refine hK.out _ _ ?_ (fun hHeld => ?_)
    · trivial
    clear hK K
    try simp only [Act.put, List.setIfInBounds_toArray, List.set_cons_zero, List.set_cons_succ]
    refine tkT 11 ?_
    refine tkT 12 ?_
    refine tkT 13 ?_
    clear hHeld
    refine wpAnyH_ready (rs := [14]) (by kernel_rfl) (by simp) ?_
    refine AllReadyH.cons (i := 14) (by simp only [List.getElem?_toArray, List.getElem?_cons_succ, List.getElem?_cons_zero]; rfl) (fun K hK => ?_) AllReadyH.nil
    go_simp
    refine hK.out _ _ ?_ (fun hHeld => ?_)
    · trivial
    clear hK K
    try simp only [Act.put, List.setIfInBounds_toArray, List.set_cons_zero, List.set_cons_succ]
    refine wpAnyH_done (by kernel_rfl) ?_ _
    refine bodyPost_end (by simp [results, Tryz.results88, go_sem, *]; try rfl) rfl ?_
    have hE := HX.out.1
    have l0 := HX.out.2.1.le
    have s1 := H1.out.2.size
    have s1d := (bel_d w1).size
    have s2 := H2.out.2.1.size
    have s3 := H3.out.2.size
    have s3d := (bel_d w3).size
    have s4 := H4.out.2.1.size
    have b1 := H1.out.2.bel E hE l0
    have b1d : Below E w1 w1.drew := (bel_d w1).mono (by omega)
    have b2 := H2.out.2.1.bel E hE (by omega)
    have b3 := H3.out.2.bel E hE (by omega)
    have b3d : Below E w3 w3.drew := (bel_d w3).mono (by omega)
    have b4 := H4.out.2.1.bel E hE (by omega)
    have r5 := H5.out.1
    have d5 := H5.out.2.1
    have e5 := H5.out.2.2
    rw [HN.out.1] at r5 d5 e5
    have hreg := reg_end (n := (c.regs.length : Int)) (c := c) HA.out H2.out.2.2 (by rw [HN.out.1]; exact H4.out.2.2)
    exact ⟨rfl, _, _, _, _, _, _, _, r5, d5, (((((b1.trans b1d).trans b2).trans b3).trans b3d).trans b4).trans e5, reg_say hreg⟩
  refine AllReadyH.cons (i := 8) (by simp only [List.getElem?_toArray, List.getElem?_cons_succ, List.getElem?_cons_zero]; rfl) (fun K hK => ?_) AllReadyH.nil
  go_simp
  (go_at_call 123; (with_reducible refine KT.out.mono ?_); rintro e w4 ⟨⟨tk, tp⟩, ws4, b4, rfl, h4, k4, ht4⟩; have H4 := hidC (And.intro h4 (And.intro k4 ht4)); clear h4 k4 ht4)
  have hR4 := hidC (HR3d.out.ofB (HD3.out.row.choose_spec.2.2) H4.out.2.1)
  obtain ⟨g, q, w5, hrun, hrow5, hrd5, hwd5, hbe5⟩ := hR4.out.reg H4.out.1 ⟨tk, tp⟩ (by have := HLn.out; omega) 23
  have H5 := hidC (And.intro hrd5 (And.intro hwd5 hbe5))
  clear hrd5 hwd5 hbe5
  rw [HN.out.2, HN.out.1] at hrun
  have hrun5 : (Builtin.append_ #[23, 23] 23 #[.slice p1 N q1, .slice (some ⟨w4.heap.size, 0, none⟩) 1 1]).run Tryz.prog (w4.alloc (.cells #[.int .i64 tk, .int .i64 tp] 50)) = .ok (.slice (some ⟨g, 0, none⟩) (N + 1) q) w5 := hrun
  have HRUN := hidC hrun5
  clear hrun hrun5
  have z5 := hrow5.frozen 1
  have c5 := hrow5.cell (i := 1) (by decide)
  have c5' : w5.cell? ⟨B, 1, none⟩ = some u1 := c5
  rw [HN.out.2] at c5'
  clear c5 hrow5
  have v4 : w4.cell? ⟨B, 1, none⟩ = some (.slice p1 N q1) := by rw [hR4.out.row.cell (i := 1) (by decide), ← HN.out.2]; rfl
  have v4' : (w4.alloc (.cells #[.int .i64 tk, .int .i64 tp] 50)).cell? ⟨B, 1, none⟩ = some (.slice p1 N q1) := kc (bel_alloc _ _) v4
  try (go_wp2_with fail)
  refine hK.out _ _ ?_ (fun hHeld => ?_)
  · trivial
  clear hK K
  try simp only [Act.put, List.setIfInBounds_toArray, List.set_cons_zero, List.set_cons_succ]
  clear hHeld
  refine wpAnyH_ready (rs := [5, 9]) (by kernel_rfl) (by simp) ?_
  refine AllReadyH.cons (i := 5) (by simp only [List.getElem?_toArray, List.getElem?_cons_succ, List.getElem?_cons_zero]; rfl) (fun K hK => ?_) ?_
  · go_simp
    refine hK.out _ _ ?_ (fun hHeld => ?_)
    · trivial
    clear hK K
    try simp only [Act.put, List.setIfInBounds_toArray, List.set_cons_zero, List.set_cons_succ]
    clear hHeld
    refine wpAnyH_ready (rs := [9]) (by kernel_rfl) (by simp) ?_
    refine AllReadyH.cons (i := 9) (by simp only [List.getElem?_toArray, List.getElem?_cons_succ, List.getElem?_cons_zero]; rfl) (fun K hK => ?_) AllReadyH.nil
    go_simp
    refine hK.out _ _ ?_ (fun hHeld => ?_)
    · trivial
    clear hK K
    try simp only [Act.put, List.setIfInBounds_toArray, List.set_cons_zero, List.set_cons_succ]
    clear hHeld
    refine wpAnyH_ready (rs := [10]) (by kernel_rfl) (by simp) ?_
    refine AllReadyH.cons (i := 10) (by simp only [List.getElem?_toArray, List.getElem?_cons_succ, List.getElem?_cons_zero]; rfl) (fun K hK => ?_) AllReadyH.nil
    refine ready_appA _ _ _ _ (by rfl) _ _ _ (by rfl) (by rfl) HRUN.out ?_ _ (by rfl)
    refine hK.out _ _ ?_ (fun hHeld => ?_)
    · trivial
    clear hK K
    try simp only [Act.put, List.setIfInBounds_toArray, List.set_cons_zero, List.set_cons_succ]
    refine tkT 11 ?_
    refine tkT 12 ?_
    refine tkT 13 ?_
    clear hHeld
    refine wpAnyH_ready (rs := [14]) (by kernel_rfl) (by simp) ?_
    refine AllReadyH.cons (i := 14) (by simp only [List.getElem?_toArray, List.getElem?_cons_succ, List.getElem?_cons_zero]; rfl) (fun K hK => ?_) AllReadyH.nil
    go_simp
    refine hK.out _ _ ?_ (fun hHeld => ?_)
    · trivial
    clear hK K
    try simp only [Act.put, List.setIfInBounds_toArray, List.set_cons_zero, List.set_cons_succ]
    refine wpAnyH_done (by kernel_rfl) ?_ _
    refine bodyPost_end (by simp [results, Tryz.results88, go_sem, *]; try rfl) rfl ?_
    have hE := HX.out.1
    have l0 := HX.out.2.1.le
    have s1 := H1.out.2.size
    have s1d := (bel_d w1).size
    have s2 := H2.out.2.1.size
    have s3 := H3.out.2.size
    have s3d := (bel_d w3).size
    have s4 := H4.out.2.1.size
    have b1 := H1.out.2.bel E hE l0
    have b1d : Below E w1 w1.drew := (bel_d w1).mono (by omega)
    have b2 := H2.out.2.1.bel E hE (by omega)
    have b3 := H3.out.2.bel E hE (by omega)
    have b3d : Below E w3 w3.drew := (bel_d w3).mono (by omega)
    have b4 := H4.out.2.1.bel E hE (by omega)
    have r5 := H5.out.1
    have d5 := H5.out.2.1
    have e5 := H5.out.2.2
    rw [HN.out.1] at r5 d5 e5
    have hreg := reg_end (n := (c.regs.length : Int)) (c := c) HA.out H2.out.2.2 (by rw [HN.out.1]; exact H4.out.2.2)
    exact ⟨rfl, _, _, _, _, _, _, _, r5, d5, (((((b1.trans b1d).trans b2).trans b3).trans b3d).trans b4).trans e5, reg_say hreg⟩
  refine AllReadyH.cons (i := 9) (by simp only [List.getElem?_toArray, List.getElem?_cons_succ, List.getElem?_cons_zero]; rfl) (fun K hK => ?_) AllReadyH.nil
  go_simp
  refine hK.out _ _ ?_ (fun hHeld => ?_)
  · trivial
  clear hK K
  try simp only [Act.put, List.setIfInBounds_toArray, List.set_cons_zero, List.set_cons_succ]
  clear hHeld
  refine wpAnyH_ready (rs := [5]) (by kernel_rfl) (by simp) ?_
  refine AllReadyH.cons (i := 5) (by simp only [List.getElem?_toArray, List.getElem?_cons_succ, List.getElem?_cons_zero]; rfl) (fun K hK => ?_) AllReadyH.nil
  go_simp
  refine hK.out _ _ ?_ (fun hHeld => ?_)
  · trivial
  clear hK K
  try simp only [Act.put, List.setIfInBounds_toArray, List.set_cons_zero, List.set_cons_succ]
  clear hHeld
  refine wpAnyH_ready (rs := [10]) (by kernel_rfl) (by simp) ?_
  refine AllReadyH.cons (i := 10) (by simp only [List.getElem?_toArray, List.getElem?_cons_succ, List.getElem?_cons_zero]; rfl) (fun K hK => ?_) AllReadyH.nil
  refine ready_appA _ _ _ _ (by rfl) _ _ _ (by rfl) (by rfl) HRUN.out ?_ _ (by rfl)
  refine hK.out _ _ ?_ (fun hHeld => ?_)
  · trivial
  clear hK K
  try simp only [Act.put, List.setIfInBounds_toArray, List.set_cons_zero, List.set_cons_succ]
  refine tkT 11 ?_
  refine tkT 12 ?_
  refine tkT 13 ?_
  clear hHeld
  refine wpAnyH_ready (rs := [14]) (by kernel_rfl) (by simp) ?_
  refine AllReadyH.cons (i := 14) (by simp only [List.getElem?_toArray, List.getElem?_cons_succ, List.getElem?_cons_zero]; rfl) (fun K hK => ?_) AllReadyH.nil
  go_simp
  refine hK.out _ _ ?_ (fun hHeld => ?_)
  · trivial
  clear hK K
  try simp only [Act.put, List.setIfInBounds_toArray, List.set_cons_zero, List.set_cons_succ]
  refine wpAnyH_done (by kernel_rfl) ?_ _
  refine bodyPost_end (by simp [results, Tryz.results88, go_sem, *]; try rfl) rfl ?_
  have hE := HX.out.1
  have l0 := HX.out.2.1.le
  have s1 := H1.out.2.size
  have s1d := (bel_d w1).size
  have s2 := H2.out.2.1.size
  have s3 := H3.out.2.size
  have s3d := (bel_d w3).size
  have s4 := H4.out.2.1.size
  have b1 := H1.out.2.bel E hE l0
  have b1d : Below E w1 w1.drew := (bel_d w1).mono (by omega)
  have b2 := H2.out.2.1.bel E hE (by omega)
  have b3 := H3.out.2.bel E hE (by omega)
  have b3d : Below E w3 w3.drew := (bel_d w3).mono (by omega)
  have b4 := H4.out.2.1.bel E hE (by omega)
  have r5 := H5.out.1
  have d5 := H5.out.2.1
  have e5 := H5.out.2.2
  rw [HN.out.1] at r5 d5 e5
  have hreg := reg_end (n := (c.regs.length : Int)) (c := c) HA.out H2.out.2.2 (by rw [HN.out.1]; exact H4.out.2.2)
  exact ⟨rfl, _, _, _, _, _, _, _, r5, d5, (((((b1.trans b1d).trans b2).trans b3).trans b3d).trans b4).trans e5, reg_say hreg⟩

end Go.Proofs.YtgcmnkanjcfndaaGreatDoor
/- Package asm: the reader: what an instruction's line says, plainly. -/
namespace Go.Proofs.YtgcmnkanjcfndaaGreatDoor
set_option linter.unusedVariables false
set_option linter.unusedSimpArgs false

def setA (i : Ins) (o : Nat) (v : Int) : Ins := if o = 1 then { i with d := v } else if o = 2 then { i with a := v } else if o = 3 then { i with b := v } else { i with c := v }
def insA0 (op : Nat) : Ins := ⟨(op : Int), 0, 0, 0, 0, 0, 0⟩
/-- The fields that a row names as registers, in their order. -/
def rgO (i : Ins) : List Nat := (if (rowP i.op).d != 0 then [1] else []) ++ [2, 3, 4].take (readsP i (rowP i.op)).length
/-- These taken one behind the other. -/
def goR : List Nat → Ins → List Bs → Option (Ins × List Bs)
  | [], i, ws => some (i, ws)
  | o :: os, i, ws => (rgW (nxW ws).1).bind fun n => goR os (setA i o n) (nxW ws).2
theorem row_abc : ∀ n : Nat, n < 38 → ((rowP (n : Int)).a = 0 → (rowP (n : Int)).b = 0) ∧ ((rowP (n : Int)).b = 0 → (rowP (n : Int)).c = 0) := by decide +kernel
theorem goR_fld {α : Type} (op : Nat) (hop : op < 38) (ws : List Bs) (G : Int → Int → Int → Int → List Bs → Option α) :
    ((fldLn (rowP (op : Int)).d ws).bind fun d => (fldLn (rowP (op : Int)).a d.2).bind fun a => (fldLn (rowP (op : Int)).b a.2).bind fun b => (fldLn (rowP (op : Int)).c b.2).bind fun c => G d.1 a.1 b.1 c.1 c.2) = (goR (rgO (insA0 op)) (insA0 op) ws).bind fun x => G x.1.d x.1.a x.1.b x.1.c x.2 := by
  obtain ⟨h1, h2⟩ := row_abc op hop
  unfold rgO readsP insA0
  simp only
  generalize (rowP (op : Int)).d = D at *
  generalize (rowP (op : Int)).a = A at *
  generalize (rowP (op : Int)).b = B at *
  generalize (rowP (op : Int)).c = C at *
  by_cases hd : D = 0 <;> by_cases ha : A = 0
  · simp [fld_take, hd, ha, h1 ha, h2 (h1 ha), goR]
  · by_cases hb : B = 0
    · simp [fld_take, hd, ha, hb, h2 hb, goR, setA, Option.bind_assoc]
    · by_cases hc : C = 0
      · simp [fld_take, hd, ha, hb, hc, goR, setA, Option.bind_assoc]
      · simp [fld_take, hd, ha, hb, hc, goR, setA, Option.bind_assoc]
  · simp [fld_take, hd, ha, h1 ha, h2 (h1 ha), goR, setA, Option.bind_assoc]
  · by_cases hb : B = 0
    · simp [fld_take, hd, ha, hb, h2 hb, goR, setA, Option.bind_assoc]
    · by_cases hc : C = 0
      · simp [fld_take, hd, ha, hb, hc, goR, setA, Option.bind_assoc]
      · simp [fld_take, hd, ha, hb, hc, goR, setA, Option.bind_assoc]
theorem ins_goR (ws : List Bs) : insLn ws = (opW (nxW ws).1).bind fun k => (goR (rgO (insA0 (k + 1))) (insA0 (k + 1)) (nxW ws).2).bind fun x => (endLn (rowP ((k : Int) + 1)).n x.2).bind fun e => some ⟨(k : Int) + 1, x.1.d, x.1.a, x.1.b, x.1.c, e.1, e.2⟩ := by
  rw [ins_take]
  cases h : opW (nxW ws).1 with
  | none => rfl
  | some k =>
    rw [Option.bind_some, Option.bind_some]
    have hk := (op_out h).1
    have e := goR_fld (k + 1) (by omega) (nxW ws).2 (fun d a b c l => (endLn (rowP ((k : Int) + 1)).n l).bind fun e => some (⟨(k : Int) + 1, d, a, b, c, e.1, e.2⟩ : Ins))
    rw [show (((k + 1 : Nat) : Int)) = (k : Int) + 1 by omega] at e
    exact e

theorem meanA_some {L : List Bs} : ∀ {n j : Nat} {s : Bs}, meanA L n s = some j → j < n ∧ s = (L[j]?).getD [] ∧ s ≠ []
  | 0, j, s, h => by cases h
  | n + 1, j, s, h => by
    rw [meanA] at h
    by_cases q : s = (L[n]?).getD [] ∧ s ≠ []
    · rw [if_pos q] at h
      have := Option.some.inj h
      subst this
      exact ⟨by omega, q.1, q.2⟩
    · rw [if_neg q] at h
      obtain ⟨h1, h2⟩ := meanA_some h
      exact ⟨by omega, h2⟩
theorem ops_all : ∀ k : Nat, k < 37 → meanA opsB 38 (opT ((k : Int) + 1)) = some (k + 1) := by decide +kernel
theorem ops_mean (x : Bs) : meanA opsB 38 x = (opW x).map fun k => k + 1 := by
  cases h : opW x with
  | some k =>
    obtain ⟨h1, rfl⟩ := op_out h
    exact ops_all k h1
  | none =>
    show meanA opsB 38 x = none
    refine none_or fun j hj => ?_
    obtain ⟨h1, h2, h3⟩ := meanA_some hj
    cases j with
    | zero => exact h3 (by rw [h2]; rfl)
    | succ k =>
      have e : x = opT ((k : Int) + 1) := by rw [h2]; unfold opT; rw [show ((k : Int) + 1).toNat = k + 1 by omega]
      rw [e, op_all k (by omega)] at h
      cases h

def nmB (op : Nat) : Bool := decide (op = 2 ∨ op = 29 ∨ op = 30 ∨ op = 31 ∨ op = 32 ∨ op = 33 ∨ op = 36)
theorem row_endA : ∀ op : Nat, op < 38 → nmB op = true → (rowP (op : Int)).n ≠ 0 := by decide +kernel
theorem row_endB : ∀ op : Nat, op < 38 → nmB op = true → (rowP (op : Int)).n ≠ 7 := by decide +kernel
theorem row_endC : ∀ op : Nat, op < 38 → nmB op = false → op = 0 ∨ op = 1 ∨ (rowP (op : Int)).n = 0 := by decide +kernel
theorem row_end (op : Nat) (h : op < 38) (h1 : 1 ≤ op) : (nmB op = true → (rowP (op : Int)).n ≠ 0 ∧ (rowP (op : Int)).n ≠ 7) ∧ (op = 1 → (rowP (op : Int)).n = 7 ∧ nmB op = false) ∧ (nmB op = false → op ≠ 1 → (rowP (op : Int)).n = 0) := by
  refine ⟨fun q => ⟨row_endA op h q, row_endB op h q⟩, fun q => by subst q; decide, fun q q1 => ?_⟩
  rcases row_endC op h q with e | e | e
  · omega
  · exact absurd e q1
  · exact e

/-- An instruction under way: its fields taken up to a place. -/
structure InsI (F : List Nat) (i0 : Ins) (ws0 : List Bs) (bad : Bool) (j : Nat) (i : Ins) (ws : List Bs) (b : Bool) : Prop where
  good : b = false → bad = false ∧ goR F i0 ws0 = goR (F.drop j) i ws
  wrong : b = true → bad = true ∨ goR F i0 ws0 = none
  rest : i.op = i0.op ∧ i.n = i0.n ∧ i.bits = i0.bits
theorem InsI.start (F : List Nat) (i0 : Ins) (ws0 : List Bs) (bad : Bool) : InsI F i0 ws0 bad 0 i0 ws0 bad := ⟨fun h => ⟨h, rfl⟩, fun h => .inl h, rfl, rfl, rfl⟩
theorem InsI.step {F : List Nat} {i0 i : Ins} {ws0 ws : List Bs} {bad b : Bool} {j : Nat} (h : InsI F i0 ws0 bad j i ws b) (hj : j < F.length) {n : Int} (hn : ∀ m, rgW (nxW ws).1 = some m → n = m) :
    InsI F i0 ws0 bad (j + 1) (setA i F[j] n) (nxW ws).2 (b || !(rgW (nxW ws).1).isSome) := by
  have hd : goR (F.drop j) i ws = (rgW (nxW ws).1).bind fun n => goR (F.drop (j + 1)) (setA i F[j] n) (nxW ws).2 := by
    rw [List.drop_eq_getElem_cons hj]; rfl
  refine ⟨fun hb => ?_, fun hb => ?_, ?_⟩
  · cases hb0 : b with
    | true => rw [hb0] at hb; cases hb
    | false =>
      obtain ⟨h1, h2⟩ := h.good hb0
      cases e : rgW (nxW ws).1 with
      | none => rw [hb0, e] at hb; cases hb
      | some m =>
        rw [hd, e] at h2
        rw [hn m e]
        exact ⟨h1, h2⟩
  · cases hb0 : b with
    | true => exact h.wrong hb0
    | false =>
      obtain ⟨h1, h2⟩ := h.good hb0
      cases e : rgW (nxW ws).1 with
      | none => rw [hd, e] at h2; exact .inr h2
      | some m => rw [hb0, e] at hb; cases hb
  · obtain ⟨h1, h2, h3⟩ := h.rest
    unfold setA
    split
    · exact ⟨h1, h2, h3⟩
    split
    · exact ⟨h1, h2, h3⟩
    split
    · exact ⟨h1, h2, h3⟩
    · exact ⟨h1, h2, h3⟩

theorem ins_end {ws : List Bs} {c : Cd} {O : Nat} {i i' : Ins} {ws2 ws' : List Bs} {b2 b' : Bool} (hO : (meanA opsB 38 (nxW ws).1).getD 0 = O)
    (hI : InsI (rgO (insA0 O)) (insA0 O) (nxW ws).2 (false || !(meanA opsB 38 (nxW ws).1).isSome) (rgO (insA0 O)).length i ws2 b2)
    (hE : (i'.op = i.op ∧ i'.d = i.d ∧ i'.a = i.a ∧ i'.b = i.b ∧ i'.c = i.c) ∧ if nmB O = true then (∀ x, numW (nxW ws2).1 = some x → i'.n = x) ∧ i'.bits = 0 ∧ ws' = (nxW ws2).2 ∧ b' = (b2 || !(numW (nxW ws2).1).isSome) else if O = 1 then (∀ x, hexW (nxW ws2).1 = some x → i'.bits = x) ∧ i'.n = 0 ∧ ws' = (nxW ws2).2 ∧ b' = (b2 || !(hexW (nxW ws2).1).isSome) else i'.n = 0 ∧ i'.bits = 0 ∧ ws' = ws2 ∧ b' = b2) :
    SayT ((insLn ws).map fun i => ⟨c.sign, c.regs, c.slots, c.list ++ [i]⟩) ⟨c.sign, c.regs, c.slots, c.list ++ [i']⟩ ws' b' := by
  obtain ⟨hF, hE⟩ := hE
  have hbb : b2 = true → b' = true := fun h => by
    by_cases q : nmB O = true
    · rw [if_pos q] at hE; rw [hE.2.2.2, h]; rfl
    · rw [if_neg q] at hE
      by_cases q1 : O = 1
      · rw [if_pos q1] at hE; rw [hE.2.2.2, h]; rfl
      · rw [if_neg q1] at hE; rw [hE.2.2.2, h]
  rw [ins_goR]
  rw [ops_mean] at hO hI
  cases hop : opW (nxW ws).1 with
  | none =>
    refine SayT.bad _ rfl (hbb ?_)
    cases hb : b2 with
    | true => rfl
    | false =>
      have := (hI.good hb).1
      rw [hop] at this
      cases this
  | some k =>
    have hk := (op_out hop).1
    rw [hop] at hO hI
    have hO : k + 1 = O := hO
    subst hO
    rw [Option.bind_some]
    have hI : InsI (rgO (insA0 (k + 1))) (insA0 (k + 1)) (nxW ws).2 false (rgO (insA0 (k + 1))).length i ws2 b2 := hI
    cases hb : b2 with
    | true =>
      rcases hI.wrong hb with h | h
      · cases h
      · rw [h]
        exact SayT.bad _ rfl (hbb hb)
    | false =>
      have h := (hI.good hb).2
      rw [List.drop_eq_nil_of_le (Nat.le_refl _)] at h
      rw [h, goR, Option.bind_some]
      obtain ⟨r1, r2, r3⟩ := row_end (k + 1) (by omega) (by omega)
      rw [show (((k + 1 : Nat) : Int)) = (k : Int) + 1 by omega] at r1 r2 r3
      obtain ⟨o1, o2, o3⟩ := hI.rest
      have o1 : i.op = (k : Int) + 1 := by rw [o1]; show ((k + 1 : Nat) : Int) = _; omega
      obtain ⟨f0, f1, f2, f3, f4⟩ := hF
      obtain ⟨xo, xd, xa, xb, xc, xn, xz⟩ := i'
      simp only at f0 f1 f2 f3 f4 hE
      subst f1 f2 f3 f4
      rw [o1] at f0
      subst f0
      rw [end_take]
      by_cases q : nmB (k + 1) = true
      · rw [if_pos q, hb] at hE
        obtain ⟨e1, e2, e3, e4⟩ := hE
        subst e2 e3
        rw [if_neg (r1 q).2, if_neg (r1 q).1]
        by_cases hr : (nxW ws2).2 = []
        · rw [if_pos hr]
          cases hN : numW (nxW ws2).1 with
          | none => rw [hN] at e4; exact SayT.bad _ rfl (by rw [e4]; rfl)
          | some x => rw [hN] at e4; rw [e1 x hN]; exact ⟨hr, by rw [e4]; rfl, rfl⟩
        · rw [if_neg hr]
          exact fun h => hr h.1
      · rw [if_neg q, hb] at hE
        by_cases q1 : k + 1 = 1
        · rw [if_pos q1] at hE
          obtain ⟨e1, e2, e3, e4⟩ := hE
          subst e2 e3
          rw [if_pos (r2 q1).1]
          by_cases hr : (nxW ws2).2 = []
          · rw [if_pos hr]
            cases hN : hexW (nxW ws2).1 with
            | none => rw [hN] at e4; exact SayT.bad _ rfl (by rw [e4]; rfl)
            | some x => rw [hN] at e4; rw [e1 x hN]; exact ⟨hr, by rw [e4]; rfl, rfl⟩
          · rw [if_neg hr]
            exact fun h => hr h.1
        · rw [if_neg q1] at hE
          obtain ⟨e1, e2, e3, e4⟩ := hE
          subst e1 e2 e3
          have h0 := r3 (by simpa using q) q1
          rw [if_neg (by rw [h0]; decide), if_pos h0]
          by_cases hr : ws' = []
          · rw [if_pos hr]
            exact ⟨hr, e4, rfl⟩
          · rw [if_neg hr]
            exact fun h => hr h.1

end Go.Proofs.YtgcmnkanjcfndaaGreatDoor
