import Derived.Test.YtholhpmnicibgaaGreatMark1
import Derived.Test.YtholhpmnicibgaaGreatMark24
/- Package interp: Step. -/
namespace Go.Proofs.YtholhpmnicibgaaGreat
open Go.RowKit
set_option linter.unusedVariables false
set_option linter.unusedSimpArgs false

/-- The slots ahead of a step: those without Keep begin anew, one behind the other. -/
def ahJ (c : Cd) (l : List Hd) : Nat → List Hd
  | 0 => l
  | j + 1 => match c.slots[j]? with
    | some s => if s.keep then ahJ c l j else (ahJ c l j).set j (begunP c s)
    | none => ahJ c l j
def startF (c : Cd) (l : List Hd) : Fr := ⟨fun _ => 0, fun _ => 0, fun _ => [], ahJ c l c.slots.length, fun _ _ => 0⟩
/-- A step, plainly: where it comes to. -/
def endJ (c : Cd) (l : List Hd) (G P : List (List Int)) : Fr := (goI c G P (startF c l, 0) c.list).1
theorem RunAt.put {T : Nat → Prop} {B : Nat} {w : World} {R : Nat} {a : Lay} {X : Nat → Value} {c : Cd} {l : List Hd} (h : RunAt T B w R a X c l) {d : Nat} (hd : d < l.length) {v : Value} {hh : Hd} (hv : Pt T w v hh.pats) (ho : ∀ h' : d < c.slots.length, HdOK c c.slots[d].ty hh) :
    ∃ X', RunAt T B ((w.setCell ⟨a.S, d * 2, none⟩ v).setCell ⟨a.S, d * 2 + 1, none⟩ (.int .i64 hh.whole)) R a X' c (l.set d hh) := by
  have hU : Un (fun b => b = a.S) w ((w.setCell ⟨a.S, d * 2, none⟩ v).setCell ⟨a.S, d * 2 + 1, none⟩ (.int .i64 hh.whole)) := ((Un.refl (fun b => b = a.S) w).setCell (p := ⟨a.S, d * 2, none⟩) (by rfl) _).setCell (p := ⟨a.S, d * 2 + 1, none⟩) (by rfl) _
  have hu : ∀ b, b < w.heap.size → b = a.S → T b := fun b _ e => e ▸ h.hS
  refine ⟨fun j => if j = d * 2 + 1 then .int .i64 hh.whole else if j = d * 2 then v else X j, h.hS, h.hR, Nat.lt_of_lt_of_le h.ltR hU.size, h.run.of_block (hU.block _ h.ltR fun e => h.hR (hu _ h.ltR e)), h.code.un hU hu, ⟨(h.slots.row.set (d * 2) v).set (d * 2 + 1) _, ?_, by simpa using h.slots.le, fun j hj => ?_, fun j hj => ?_⟩, by simp [h.len], fun j h1 h2 => ?_, h.bR, h.bC, h.bS⟩
  · rcases h.slots.sp with e | e
    · rw [e] at hd; exact absurd hd (Nat.not_lt_zero _)
    · exact .inr e
  · simp only [List.length_set] at hj
    simp only [List.getElem_set]
    by_cases e : d = j
    · subst e; rw [if_pos (by omega), if_pos rfl]
    · rw [if_neg (by omega), if_neg (by omega), if_neg e]; exact h.slots.whole j hj
  · simp only [List.length_set] at hj
    simp only [List.getElem_set]
    by_cases e : d = j
    · subst e; rw [if_neg (by omega), if_pos (by omega), if_pos rfl]; exact hv.un hU hu
    · rw [if_neg (by omega), if_neg (by omega), if_neg e]; exact (h.slots.pats j hj).un hU hu
  · simp only [List.length_set] at h2
    simp only [List.getElem_set]
    by_cases e : d = j
    · subst e; rw [if_pos rfl]; exact ho h1
    · rw [if_neg e]; exact h.ok j h1 h2
theorem VsT.vs {T : Nat → Prop} {w : World} {v : Value} {L : List (List Int)} (h : VsT T w v L) : Vs w v (L.map fun l => l.length) := by
  obtain ⟨p, c, hv, hh⟩ := h
  refine ⟨p, c, by rw [List.length_map]; exact hv, ?_⟩
  rcases hh with e | ⟨b, o, hp, _, _, hh⟩
  · exact .inl (by rw [e]; rfl)
  · refine .inr ⟨b, o, hp, fun i hi => ?_⟩
    rw [List.length_map] at hi
    obtain ⟨u, h1, h2⟩ := hh i hi
    obtain ⟨q, d, hq⟩ := h2.len
    refine ⟨q, d, ?_⟩
    rw [h1, hq]
    simp
/-- What is known of vectors that came in. -/
structure VsOk (L : List (List Int)) : Prop where
  len : L.length ≤ 140737488351232
  lens : ∀ l ∈ L, l.length ≤ 140737488351232
  isP : ∀ l ∈ L, ∀ y ∈ l, IsP y
theorem fitV_of {c : Cd} {L : List (List Int)} (h : fitsP c.sign (L.map fun l => l.length) = true) (hk : VsOk L) (hg : Good c) : FitV c L := by
  have key : ∀ (ps : List Par) (M : List (List Int)), (∀ p ∈ ps, mayP p = true ∧ 1 ≤ p.len) → fitsP ps (M.map fun l => l.length) = true → M.length = ps.length ∧ ∀ p (h : p < M.length), (M[p]).length = (ps[p]?).elim 0 numL := by
    intro ps
    induction ps with
    | nil => intro M _ h; cases M with
      | nil => exact ⟨rfl, fun p h => absurd h (Nat.not_lt_zero _)⟩
      | cons a M => simp [fitsP] at h
    | cons q ps ih =>
      intro M hm h
      cases M with
      | nil => simp [fitsP] at h
      | cons a M =>
        simp only [List.map_cons, fitsP, Bool.and_eq_true, decide_eq_true_eq] at h
        obtain ⟨i1, i2⟩ := ih M (fun p hp => hm p (by simp [hp])) h.2
        refine ⟨by simp [i1], fun p hp => ?_⟩
        cases p with
        | zero =>
          show a.length = numL q
          unfold numL
          omega
        | succ p => exact i2 p (by simpa using hp)
  obtain ⟨k1, k2⟩ := key c.sign L (fun p hp => ⟨hg.kind p hp, (hg.len p hp).1⟩) h
  exact ⟨k1, k2, hk.isP⟩

set_option maxRecDepth 100000 in
set_option maxHeartbeats 8000000 in
theorem step_bad {T : Nat → Prop} {B : Nat} (w : World) (R : Nat) (a : Lay) (X : Nat → Value) (c : Cd) (l : List Hd) (h : RunAt T B w R a X c l) (hg : Good c) (hnm : ∀ p ∈ c.sign, p.name.size ≤ 140737488351232) (gv pv : Value) (G P : List (List Int)) (hgv : VsT T w gv G) (hpv : VsT T w pv P) (kG : VsOk G) (kP : VsOk P) (hf : fits2 c G P = false) :
    Calls Tryz.prog 12 #[.pointer (some ⟨R, 0, none⟩), gv, pv] w fun e w' => e = .returned (.tuple #[.slice none 0 0, .int .i64 170]) ∧ Below w.heap.size w w' := by
  have r0 : w.cell? ⟨R, 0, none⟩ = some (.pointer (some ⟨a.C, 0, none⟩)) := h.run.at 0 rfl
  have c0 := h.code.c0
  obtain ⟨p0, q0, hv0⟩ : ∃ p q, a.v0 = .slice p c.sign.length q := by obtain ⟨p, q, e, _⟩ := h.code.sign; exact ⟨p, q, e⟩
  have KF : ∀ (u : Value) (L : List (List Int)), VsT T w u L → VsOk L → ∀ v, Below w.heap.size w v → Calls Tryz.prog 28 #[a.v0, u] v fun e w' => e = .returned (.bool (fitsP c.sign (L.map fun l => l.length))) ∧ Below v.heap.size v w' := fun u L hu hk v hv => sFits_any a.v0 u c.sign _ (by have := hg.signL; omega) (by rw [List.length_map]; exact hk.len) hnm (fun n hn => by obtain ⟨l, hl, rfl⟩ := List.mem_map.1 hn; exact hk.lens l hl) v (h.code.sign.row.rd |> fun q => (RowG.rd (h.code.sign.row.below hv))) ((hu.below hv).vs)
  have KG := hidM (KF gv G hgv kG)
  have KP := hidM (KF pv P hpv kP)
  rw [hv0] at c0
  simp only [hv0] at KG KP
  obtain ⟨gp, gq, hgp⟩ : ∃ p q, gv = .slice p G.length q := by obtain ⟨p, q, e, _⟩ := hgv; exact ⟨p, q, e⟩
  obtain ⟨pp, pq, hpp⟩ : ∃ p q, pv = .slice p P.length q := by obtain ⟨p, q, e, _⟩ := hpv; exact ⟨p, q, e⟩
  subst hgp hpp
  unfold fits2 at hf
  obtain ⟨fG, hfG⟩ : ∃ fG, fitsP c.sign (G.map fun l => l.length) = fG := ⟨_, rfl⟩
  obtain ⟨fP, hfP⟩ : ∃ fP, fitsP c.sign (P.map fun l => l.length) = fP := ⟨_, rfl⟩
  have e1 : fitsP c.sign (G.map (·.length)) = fG := hfG
  have e2 : fitsP c.sign (P.map (·.length)) = fP := hfP
  rw [e1, e2] at hf
  simp only [hfG, hfP] at KG KP
  obtain ⟨N0, hN0⟩ : ∃ N, c.sign.length = N := ⟨_, rfl⟩
  obtain ⟨C, hC⟩ : ∃ C, a.C = C := ⟨_, rfl⟩
  rw [hC] at r0 c0
  rw [hN0] at c0
  simp only [hN0] at KG KP
  have HR := hidM r0
  have HC := hidM c0
  clear h hg hnm hgv hpv kG kP KF e1 e2 hfG hfP hv0 hN0 hC
  cases fG with
  | false =>
    go_enter Tryz.func12, Tryz.ntmps12
    go_wp2_with (go_at_call 28; with_reducible refine (KG.out _ (bel0 _)).mono ?_; rintro e w1 ⟨rfl, hb1⟩)
    go_returns
    exact ⟨rfl, hb1⟩
  | true =>
    have hfp : fP = false := by simpa using hf
    subst hfp
    clear hf
    go_enter Tryz.func12, Tryz.ntmps12
    go_wp2_with (first
      | (go_at_call 28; (with_reducible refine (KG.out _ (bel0 _)).mono ?_); rintro e w1 ⟨rfl, hb1⟩; have r1 := kc hb1 r0; have c1 := kc hb1 c0)
      | (go_at_call 28; (with_reducible refine (KP.out _ hb1).mono ?_); rintro e w2 ⟨rfl, hb2⟩))
    go_returns
    exact ⟨rfl, bel hb1 hb2⟩

theorem step_end {T : Nat → Prop} {B : Nat} {w w1 w' : World} {R : Nat} {a : Lay} {X1 : Nat → Value} {c : Cd} {l1 : List Hd} (h1 : RunAt T B w1 R a X1 c l1) (hT : ∀ b, T b → b < w.heap.size) (hu1 : Un (fun b => b = a.S) w w1) {FR NB WB MB UB : Nat} {ub : Nat → Nat} {E' : Nat} {gv pv : Value} {G P : List (List Int)} {f : Fr} {X : Nat → Value} {M : Nat} {m : Nat → Option Value}
    (x : FX T w1.heap.size E' { a with FR := FR, NB := NB, WB := WB, MB := MB, UB := UB, ub := ub, gv := gv, pv := pv } c G P w') (h : FV T w1.heap.size E' { a with FR := FR, NB := NB, WB := WB, MB := MB, UB := UB, ub := ub, gv := gv, pv := pv } c w' X M m f) (ok : OkF c f) {w2 : World} (hb2 : Below w1.heap.size w1 w2) (un : Un (stepU { a with FR := FR, NB := NB, WB := WB, MB := MB, UB := UB, ub := ub, gv := gv, pv := pv } w1.heap.size E') w2 w') :
    (∃ X', RunAt T B w' R a X' c f.slots) ∧ Un (fun b => b = a.S) w w' ∧ VsT (fun b => b < w.heap.size) w' (.slice (some ⟨UB, 0, none⟩) c.sign.length c.sign.length) (updP c f) := by
  have hs1 := hu1.size
  have hs2 := hb2.size
  have hun : Un (fun b => b = a.S) w1 w' := ⟨un.os.trans hb2.os, un.tape.trans hb2.tape, un.output.trans hb2.output, Nat.le_trans hs2 un.size, fun b hb hne => (un.block b (by omega) (fun e => e.elim hne fun k => by omega)).trans (hb2.block b hb)⟩
  have hsub : ∀ b, b < w'.heap.size → T b → mutT T w1.heap.size E' b := fun b _ e => .inl e
  refine ⟨⟨X, h1.hS, h1.hR, Nat.lt_of_lt_of_le h1.ltR hun.size, h1.run.of_block (hun.block _ h1.ltR fun e => h1.hR (e ▸ h1.hS)), h1.code.un hun (fun b _ e => e ▸ h1.hS), ?_, h.slotsL, ok.slots, h1.bR, h1.bC, h1.bS⟩, hu1.trans hun, ?_⟩
  · have := h.slots.mono hsub
    exact ⟨this.row, this.sp, this.le, this.whole, this.pats⟩
  · have hUB := x.iUB
    have hupd : w'.rowIs UB 57 c.sign.length (fun p => .slice (some ⟨ub p, 0, none⟩) (numAt c p) (numAt c p)) := x.upd
    have hUB' : w1.heap.size ≤ UB := hUB.1
    have hlen : (updP c f).length = c.sign.length := by unfold updP; simp
    refine ⟨some ⟨UB, 0, none⟩, c.sign.length, by rw [hlen], .inr ⟨UB, 0, rfl, by omega, hupd.lt, fun i hi => ?_⟩⟩
    rw [hlen] at hi
    refine ⟨_, by rw [Nat.zero_add]; exact hupd.cell hi, ?_⟩
    have ho : w'.rowIs (ub i) 43 (numAt c i) (fun j => .int .u32 (f.outs i j)) := h.outs i hi
    have hub : w1.heap.size ≤ ub i := (x.iub i hi).1
    have hel : (updP c f)[i]'(by rw [hlen]; exact hi) = (List.range (numAt c i)).map (f.outs i) := by
      unfold updP numAt
      simp
    rw [hel]
    exact Pt.of_row ho (by omega) (by simp) (fun j hj => atL_map (α := Int) _ _ _ hj) _

set_option maxRecDepth 100000 in
set_option maxHeartbeats 8000000 in
theorem step_good {T : Nat → Prop} {B : Nat} (w : World) (R : Nat) (a : Lay) (X : Nat → Value) (c : Cd) (l : List Hd) (h : RunAt T B w R a X c l) (hc : (checkC c).1 = 0) (hk : CdOk c) (hT : ∀ b, T b → b < w.heap.size) (gv pv : Value) (G P : List (List Int)) (hgv : VsT T w gv G) (hpv : VsT T w pv P) (kG : VsOk G) (kP : VsOk P) (hf : fits2 c G P = true) :
    Calls Tryz.prog 12 #[.pointer (some ⟨R, 0, none⟩), gv, pv] w fun e w' => ∃ UB, e = .returned (.tuple #[.slice (some ⟨UB, 0, none⟩) c.sign.length c.sign.length, .int .i64 0]) ∧ (∃ X', RunAt T B w' R a X' c (endJ c l G P).slots) ∧ Un (fun b => b = a.S) w w' ∧ VsT (fun b => b < w.heap.size) w' (.slice (some ⟨UB, 0, none⟩) c.sign.length c.sign.length) (updP c (endJ c l G P)) := by
  obtain ⟨hg, htk⟩ := good_of hc
  have hnm := hk.names
  have r0 : w.cell? ⟨R, 0, none⟩ = some (.pointer (some ⟨a.C, 0, none⟩)) := h.run.at 0 rfl
  have c0 := h.code.c0
  have c2 : w.cell? ⟨a.C, 2, none⟩ = some a.v2 := h.code.cells.at 2 rfl
  obtain ⟨p0, q0, hv0⟩ : ∃ p q, a.v0 = .slice p c.sign.length q := by obtain ⟨p, q, e, _⟩ := h.code.sign; exact ⟨p, q, e⟩
  obtain ⟨p2, q2, hv2⟩ : ∃ p q, a.v2 = .slice p c.slots.length q := by obtain ⟨p, q, e, _⟩ := h.code.slots; exact ⟨p, q, e⟩
  have KF : ∀ (u : Value) (L : List (List Int)), VsT T w u L → VsOk L → ∀ v, Below w.heap.size w v → Calls Tryz.prog 28 #[a.v0, u] v fun e w' => e = .returned (.bool (fitsP c.sign (L.map fun l => l.length))) ∧ Below v.heap.size v w' := fun u L hu hk v hv => sFits_any a.v0 u c.sign _ (by have := hg.signL; omega) (by rw [List.length_map]; exact hk.len) hnm (fun n hn => by obtain ⟨l, hl, rfl⟩ := List.mem_map.1 hn; exact hk.lens l hl) v (RowG.rd (h.code.sign.row.below hv)) ((hu.below hv).vs)
  have hfG : fitsP c.sign (G.map fun l => l.length) = true := by unfold fits2 at hf; simp only [Bool.and_eq_true] at hf; exact hf.1
  have hfP : fitsP c.sign (P.map fun l => l.length) = true := by unfold fits2 at hf; simp only [Bool.and_eq_true] at hf; exact hf.2
  have KG := hidM (KF gv G hgv kG)
  have KP := hidM (KF pv P hpv kP)
  simp only [hfG, hfP, hv0] at KG KP
  have fg := fitV_of hfG kG hg
  have fp := fitV_of hfP kP hg
  rw [hv0] at c0
  rw [hv2] at c2
  obtain ⟨gp, gq, hgp⟩ : ∃ p q, gv = .slice p G.length q := by obtain ⟨p, q, e, _⟩ := hgv; exact ⟨p, q, e⟩
  obtain ⟨pp, pq, hpp⟩ : ∃ p q, pv = .slice p P.length q := by obtain ⟨p, q, e, _⟩ := hpv; exact ⟨p, q, e⟩
  subst hgp hpp
  have HH := hidM h
  have HG : Hid (Good c ∧ CdOk c ∧ (∀ b, T b → b < w.heap.size) ∧ FitV c G ∧ FitV c P ∧ takenP c ⟨[], []⟩ c.list = true) := ⟨hg, hk, hT, fg, fp, htk⟩
  have HGV : Hid (VsT T w (.slice gp G.length gq) G ∧ VsT T w (.slice pp P.length pq) P) := ⟨hgv, hpv⟩
  have HV2 := hidM hv2
  have hm4 := hg.slotsL
  have KNF : Hid (∀ (v : World) (X : Nat → Value) (l : List Hd), RunAt T B v R a X c l → (∀ b, T b → b < v.heap.size) → VsT T v (.slice gp G.length gq) G → VsT T v (.slice pp P.length pq) P → Calls Tryz.prog 29 #[.pointer (some ⟨R, 0, none⟩), .slice gp G.length gq, .slice pp P.length pq] v fun e w' => ∃ FR NB WB MB UB ub E', e = .returned (.pointer (some ⟨FR, 0, none⟩)) ∧ FX T v.heap.size E' { a with FR := FR, NB := NB, WB := WB, MB := MB, UB := UB, ub := ub, gv := .slice gp G.length gq, pv := .slice pp P.length pq } c G P w' ∧ FV T v.heap.size E' { a with FR := FR, NB := NB, WB := WB, MB := MB, UB := UB, ub := ub, gv := .slice gp G.length gq, pv := .slice pp P.length pq } c w' X 0 (fun _ => none) ⟨fun _ => 0, fun _ => 0, fun _ => [], l, fun _ _ => 0⟩ ∧ Below v.heap.size v w') := fun v X l hr ht h1 h2 => newFrame_any v R a X c l hr hg ht hnm _ _ G P h1 h2
  obtain ⟨N0, hN0⟩ : ∃ N, c.sign.length = N := ⟨_, rfl⟩
  obtain ⟨N2, hN2⟩ : ∃ N, c.slots.length = N := ⟨_, rfl⟩
  obtain ⟨C, hC⟩ : ∃ C, a.C = C := ⟨_, rfl⟩
  obtain ⟨gl, hgl⟩ : ∃ gl, G.length = gl := ⟨_, rfl⟩
  obtain ⟨pl, hpl⟩ : ∃ pl, P.length = pl := ⟨_, rfl⟩
  have HE : Hid (c.sign.length = N0 ∧ c.slots.length = N2 ∧ a.C = C) := ⟨hN0, hN2, hC⟩
  rw [hC] at r0 c0 c2
  rw [hN0] at c0
  rw [hN2] at c2 hm4
  simp only [hN0, hgl, hpl] at KG KP KNF HGV ⊢
  have HB0 : Hid (∀ v, Below w.heap.size w v → v.cell? ⟨R, 0, none⟩ = some (.pointer (some ⟨C, 0, none⟩)) ∧ v.cell? ⟨C, 0, none⟩ = some (.slice p0 N0 q0) ∧ v.cell? ⟨C, 2, none⟩ = some (.slice p2 N2 q2)) := fun v hv => ⟨kc hv r0, kc hv c0, kc hv c2⟩
  clear h hc hk hT hgv hpv kG kP hf hg htk hnm KF hfG hfP fg fp hv0 hv2 hN0 hN2 hC hgl hpl
  go_enter Tryz.func12, Tryz.ntmps12
  go_wp2_with (first
    | (go_at_call 28; (with_reducible refine (KG.out _ (bel0 _)).mono ?_); rintro e w1 ⟨rfl, hb1⟩; obtain ⟨s0, s1, s2⟩ := HB0.out w1 hb1)
    | (go_at_call 28; (with_reducible refine (KP.out _ hb1).mono ?_); rintro e w2 ⟨rfl, hb2⟩; obtain ⟨t0, t1, t2⟩ := HB0.out w2 (bel hb1 hb2)))
  have HB2 := hidM (bel hb1 hb2)
  clear r0 c0 c2 s0 s1 s2 t0 t1 t2 hb1 hb2 KG KP
  go_loopw [41] (fun iv wr => ∃ j : Nat, j ≤ N2 ∧ iv = .int .i64 j ∧ Hid (∃ X, RunAt T B wr R a X c (ahJ c l j) ∧ Un (fun b => b = a.S) w wr)) (fun iv _ => N2 - (intOf iv).toNat)
  case atStart => exact ⟨0, Nat.zero_le _, rfl, _, HH.out.below HB2.out, Un.of HB2.out⟩
  case round =>
    obtain ⟨j, hj, rfl, HR⟩ := hrel
    obtain ⟨X1, hrun, hun⟩ := HR.out
    have HRUN := hidM hrun
    have HUN := hidM hun
    by_cases hlt : j < N2
    · have hjc : j < c.slots.length := by rw [HE.out.2.1]; exact hlt
      have hjl : j < (ahJ c l j).length := by rw [hrun.len]; exact hjc
      obtain ⟨q, cap, hq, hrow⟩ := hrun.code.slots
      rw [HV2.out] at hq
      simp only [Value.slice.injEq, true_and] at hq
      obtain ⟨rfl, rfl⟩ := hq
      rcases hrow with e | ⟨sb, so, rfl, hnS, hsl, hcel⟩
      · rw [e] at hjc; exact absurd hjc (Nat.not_lt_zero _)
      have hcj := hcel j hjc
      have hty := HG.out.1.slotT (List.getElem_mem hjc)
      have hbit := HG.out.2.1.sbits _ (List.getElem_mem hjc)
      have hbok := begun_ok HG.out.1 (List.getElem_mem hjc) hbit
      have r0 : wr.cell? ⟨R, 0, none⟩ = some (.pointer (some ⟨a.C, 0, none⟩)) := hrun.run.at 0 rfl
      have r1 : wr.cell? ⟨R, 1, none⟩ = some (.slice a.sp c.slots.length a.sc) := hrun.run.at 1 rfl
      have hsp : a.sp = some ⟨a.S, 0, none⟩ := by
        rcases hrun.slots.sp with e | e
        · rw [e] at hjl; exact absurd hjl (Nat.not_lt_zero _)
        · exact e
      have x0 := hrun.slots.row.cell (i := j * 2) (by have := hrun.slots.le; omega)
      have x1 := hrun.slots.row.cell (i := j * 2 + 1) (by have := hrun.slots.le; omega)
      have x2 := hrun.slots.row.frozen (j * 2)
      have x3 := hrun.slots.row.frozen (j * 2 + 1)
      rw [hsp, HE.out.2.1] at r1
      rw [HE.out.2.2] at r0
      obtain ⟨sj, hsj⟩ : ∃ sj, c.slots[j] = sj := ⟨_, rfl⟩
      have HAH : Hid (ahJ c l (j + 1) = if sj.keep then ahJ c l j else (ahJ c l j).set j (begunP c sj)) := by
        show ahJ c l (j + 1) = _
        rw [← hsj]
        conv => lhs; unfold ahJ
        rw [List.getElem?_eq_getElem hjc]
      have HPUT : Hid (∀ v u, Below wr.heap.size wr v → Pt T v u (begunP c sj).pats → ∃ X', RunAt T B ((v.setCell ⟨a.S, j * 2, none⟩ u).setCell ⟨a.S, j * 2 + 1, none⟩ (.int .i64 (begunP c sj).whole)) R a X' c ((ahJ c l j).set j (begunP c sj))) := fun v u hv hu => (hrun.below hv).put hjl hu (fun h' => by rw [hsj] at hbok ⊢; exact hbok)
      rw [hsj] at hcj hty hbit
      have KB : ∀ v, Below wr.heap.size wr v → Calls Tryz.prog 24 #[.pointer (some ⟨a.C, 0, none⟩), slV sj] v fun e w' => ∃ g, e = .returned (.agg #[.slice (some ⟨g, 0, none⟩) (widthP c sj.ty) (widthP c sj.ty), .int .i64 sj.int_]) ∧ v.heap.size ≤ g ∧ w'.rowIs g 43 (widthP c sj.ty) (fun _ => .int .u32 (canon sj.bits)) ∧ Below v.heap.size v w' := fun v hv => begun_any a c HG.out.1 sj hbit v (hrun.code.below hv) hty
      obtain ⟨Wd, hWd⟩ : ∃ Wd, widthP c sj.ty = Wd := ⟨_, rfl⟩
      have HFill : Hid ((begunP c sj).pats = List.replicate Wd (canon sj.bits) ∧ (begunP c sj).whole = sj.int_) := by rw [← hWd]; exact ⟨rfl, rfl⟩
      rw [hWd, HE.out.2.2] at KB
      obtain ⟨bg, hbg⟩ : ∃ bg, begunP c sj = bg := ⟨_, rfl⟩
      rw [hbg] at HAH HPUT HFill
      obtain ⟨⟨tk, tp⟩, kp, bt, it⟩ := sj
      unfold slV at KB
      unfold slC at hcj
      simp only at KB hcj HFill hbit HAH
      have HKB : Hid (∀ v, Below wr.heap.size wr v → Calls Tryz.prog 24 #[.pointer (some ⟨C, 0, none⟩), .agg #[.int .i64 tk, .int .i64 tp, .bool kp, .int .u32 bt, .int .i64 it]] v fun e w' => ∃ g, e = .returned (.agg #[.slice (some ⟨g, 0, none⟩) Wd Wd, .int .i64 it]) ∧ v.heap.size ≤ g ∧ w'.rowIs g 43 Wd (fun _ => .int .u32 (canon bt)) ∧ Below v.heap.size v w') := KB
      have y0 := hcj.at 0 (v := .int .i64 tk) rfl
      rw [Nat.add_zero] at y0
      have y1 := hcj.at 1 (v := .int .i64 tp) rfl
      have y2 := hcj.at 2 (v := .bool kp) rfl
      have y3 := hcj.at 3 (v := .int .u32 bt) rfl
      have y4 := hcj.at 4 (v := .int .i64 it) rfl
      have szS : a.S < wr.heap.size := hrun.slots.row.lt
      have n1 : a.S ≠ wr.heap.size := by omega
      have n2 : a.S ≠ R := fun e => hrun.hR (by rw [← e]; exact hrun.hS)
      have HTlt : Hid (∀ b, T b → b < wr.heap.size) := fun b hb => Nat.lt_of_lt_of_le (HG.out.2.2.1 b hb) HUN.out.size
      obtain ⟨Sb, hSb⟩ : ∃ Sb, a.S = Sb := ⟨_, rfl⟩
      obtain ⟨sc, hsc⟩ : ∃ sc, a.sc = sc := ⟨_, rfl⟩
      obtain ⟨z0, hz0⟩ : ∃ z0, X1 (j * 2) = z0 := ⟨_, rfl⟩
      obtain ⟨z1, hz1⟩ : ∃ z1, X1 (j * 2 + 1) = z1 := ⟨_, rfl⟩
      rw [hz0] at x0
      rw [hz1] at x1
      simp only [hSb, hsc] at x0 x1 x2 x3 r1 n1 n2 HPUT
      have HSb := hidM hSb
      obtain ⟨V1, hV1⟩ : ∃ V1, wr.alloc (.cells #[.int .i64 tk, .int .i64 tp, .bool kp, .int .u32 bt, .int .i64 it] 65) = V1 := ⟨_, rfl⟩
      have HB5 : Hid (Below wr.heap.size wr V1) := by rw [← hV1]; exact bel_alloc _ _
      have HC5 : Hid (∀ v, Below V1.heap.size V1 v → v.cell? ⟨R, 0, none⟩ = some (.pointer (some ⟨C, 0, none⟩)) ∧ v.cell? ⟨R, 1, none⟩ = some (.slice (some ⟨Sb, 0, none⟩) N2 sc) ∧ v.cell? ⟨wr.heap.size, 0, none⟩ = some (.int .i64 tk) ∧ v.cell? ⟨wr.heap.size, 1, none⟩ = some (.int .i64 tp) ∧ v.cell? ⟨wr.heap.size, 2, none⟩ = some (.bool kp) ∧ v.cell? ⟨wr.heap.size, 3, none⟩ = some (.int .u32 bt) ∧ v.cell? ⟨wr.heap.size, 4, none⟩ = some (.int .i64 it) ∧ v.cell? ⟨Sb, j * 2, none⟩ = some z0 ∧ v.cell? ⟨Sb, j * 2 + 1, none⟩ = some z1 ∧ v.frozen? ⟨Sb, j * 2, none⟩ = false ∧ v.frozen? ⟨Sb, j * 2 + 1, none⟩ = false) := by
        intro v hv
        have hv2 := bel HB5.out hv
        rw [← hV1] at hv
        exact ⟨kc hv2 r0, kc hv2 r1, kc hv (by simp [go_sem]), kc hv (by simp [go_sem]), kc hv (by simp [go_sem]), kc hv (by simp [go_sem]), kc hv (by simp [go_sem]), kc hv2 x0, kc hv2 x1, kf hv2 x0 x2, kf hv2 x1 x3⟩
      obtain ⟨a0, a1, a2, a3, a4, a5, a6, a7, a8, a9, a10⟩ := HC5.out V1 (bel0 _)
      clear KB hWd hsj hbg hcel hcj hrun hun hty hbit hbok x0 x1 x2 x3 r0 r1 hnS hsl hsp hSb hsc hz0 hz1 hjl szS
      cases kp with
      | true =>
        go_wp2
        clear hV1
        go_roundw
        case rel =>
          refine ⟨j + 1, by omega, by go_num, X1, ?_, HUN.out.on HB5.out⟩
          rw [HAH.out]
          exact HRUN.out.below HB5.out
        case measure => simp [intOf]; omega
      | false =>
        go_wp2
        clear hV1
        refine wp_region_held_drew (S := (fun v => v.cell? ⟨R, 0, none⟩ = some (.pointer (some ⟨C, 0, none⟩)) ∧ v.cell? ⟨R, 1, none⟩ = some (.slice (some ⟨Sb, 0, none⟩) N2 sc) ∧ v.cell? ⟨wr.heap.size, 0, none⟩ = some (.int .i64 tk) ∧ v.cell? ⟨wr.heap.size, 1, none⟩ = some (.int .i64 tp) ∧ v.cell? ⟨wr.heap.size, 2, none⟩ = some (.bool false) ∧ v.cell? ⟨wr.heap.size, 3, none⟩ = some (.int .u32 bt) ∧ v.cell? ⟨wr.heap.size, 4, none⟩ = some (.int .i64 it))) (by kernel_rfl) ?_ (fun hHeld => ?_)
        · ((try dsimp only); go_keep)
        refine tkH (i := 0) (v := ?_) (hy := .inl ⟨by rfl, ?_⟩) (h := ?_)
        rotate_left 1
        · (intro wS hSw; (try dsimp only at hSw); go_simp; try (with_reducible rfl))
        try simp only [Act.put, List.setIfInBounds_toArray, List.set_cons_zero, List.set_cons_succ]
        refine tkH (i := 1) (v := ?_) (hy := .inl ⟨by rfl, ?_⟩) (h := ?_)
        rotate_left 1
        · (intro wS hSw; (try dsimp only at hSw); go_simp; try (with_reducible rfl))
        try simp only [Act.put, List.setIfInBounds_toArray, List.set_cons_zero, List.set_cons_succ]
        refine tkH (i := 2) (v := ?_) (hy := .inl ⟨by rfl, ?_⟩) (h := ?_)
        rotate_left 1
        · (intro wS hSw; (try dsimp only at hSw); go_simp; try (with_reducible rfl))
        try simp only [Act.put, List.setIfInBounds_toArray, List.set_cons_zero, List.set_cons_succ]
        refine tkH (i := 3) (v := ?_) (hy := .inl ⟨by rfl, ?_⟩) (h := ?_)
        rotate_left 1
        · (intro wS hSw; (try dsimp only at hSw); go_simp; try (with_reducible rfl))
        try simp only [Act.put, List.setIfInBounds_toArray, List.set_cons_zero, List.set_cons_succ]
        refine tkH (i := 4) (v := ?_) (hy := .inl ⟨by rfl, ?_⟩) (h := ?_)
        rotate_left 1
        · (intro wS hSw; (try dsimp only at hSw); go_simp; try (with_reducible rfl))
        try simp only [Act.put, List.setIfInBounds_toArray, List.set_cons_zero, List.set_cons_succ]
        refine tkH (i := 5) (v := ?_) (hy := .inl ⟨by rfl, ?_⟩) (h := ?_)
        rotate_left 1
        · (intro wS hSw; (try dsimp only at hSw); go_simp; try (with_reducible rfl))
        try simp only [Act.put, List.setIfInBounds_toArray, List.set_cons_zero, List.set_cons_succ]
        refine tkH (i := 6) (v := ?_) (hy := .inl ⟨by rfl, ?_⟩) (h := ?_)
        rotate_left 1
        · (intro wS hSw; (try dsimp only at hSw); go_simp; try (with_reducible rfl))
        try simp only [Act.put, List.setIfInBounds_toArray, List.set_cons_zero, List.set_cons_succ]
        refine tkH (i := 7) (v := ?_) (hy := .inl ⟨by rfl, ?_⟩) (h := ?_)
        rotate_left 1
        · (intro wS hSw; (try dsimp only at hSw); go_simp; try (with_reducible rfl))
        try simp only [Act.put, List.setIfInBounds_toArray, List.set_cons_zero, List.set_cons_succ]
        refine tkH (i := 8) (v := ?_) (hy := .inl ⟨by rfl, ?_⟩) (h := ?_)
        rotate_left 1
        · (intro wS hSw; (try dsimp only at hSw); go_simp; try (with_reducible rfl))
        try simp only [Act.put, List.setIfInBounds_toArray, List.set_cons_zero, List.set_cons_succ]
        refine tkH (i := 9) (v := ?_) (hy := .inl ⟨by rfl, ?_⟩) (h := ?_)
        rotate_left 1
        · (intro wS hSw; (try dsimp only at hSw); go_simp; try (with_reducible rfl))
        try simp only [Act.put, List.setIfInBounds_toArray, List.set_cons_zero, List.set_cons_succ]
        clear hHeld
        refine wpAnyH_ready (rs := [10]) (by kernel_rfl) (by simp) ?_
        refine AllReadyH.cons (i := 10) (by simp only [List.getElem?_toArray, List.getElem?_cons_succ, List.getElem?_cons_zero]; rfl) (fun K hK => ?_) AllReadyH.nil
        go_simp
        (go_at_call 24; refine (HKB.out _ (bel HB5.out (bel_drew _))).mono ?_; rintro e v2 ⟨g, rfl, hg2, hr2, hb6⟩; have HB6 : Hid (Below V1.heap.size V1 v2) := bel (bel_drew _) hb6; have HR6 := hidM hr2; have HG6 : Hid (V1.heap.size ≤ g) := hg2; obtain ⟨a0, a1, a2, a3, a4, a5, a6, a7, a8, a9, a10⟩ := HC5.out v2 HB6.out; clear hr2 hg2 hb6)
        try (go_wp2_with fail)
        refine hK.out _ _ ?_ (fun hHeld => ?_)
        · ((try dsimp only); go_keep)
        clear hK K
        try simp only [Act.put, List.setIfInBounds_toArray, List.set_cons_zero, List.set_cons_succ]
        refine tkH (i := 11) (v := ?_) (hy := .inl ⟨by rfl, ?_⟩) (h := ?_)
        rotate_left 1
        · (intro wS hSw; (try dsimp only at hSw); go_simp; try (with_reducible rfl))
        try simp only [Act.put, List.setIfInBounds_toArray, List.set_cons_zero, List.set_cons_succ]
        clear hHeld
        refine wpAnyH_ready (rs := [12]) (by kernel_rfl) (by simp) ?_
        refine AllReadyH.cons (i := 12) (by simp only [List.getElem?_toArray, List.getElem?_cons_succ, List.getElem?_cons_zero]; rfl) (fun K hK => ?_) AllReadyH.nil
        go_simp
        refine hK.out _ _ ?_ (fun hHeld => ?_)
        · ((try dsimp only); go_keep)
        clear hK K
        try simp only [Act.put, List.setIfInBounds_toArray, List.set_cons_zero, List.set_cons_succ]
        refine wpAnyH_done (by kernel_rfl) ?_ _
        go_wp2
        go_roundw
        case rel =>
          have hB := bel HB5.out HB6.out
          have hgs := HB5.out.size
          have hg7 := HG6.out
          have hpt : Pt T v2 (.slice (some ⟨g, 0, none⟩) Wd Wd) bg.pats := Pt.of_row HR6.out (fun e => by have := HTlt.out g e; omega) (by rw [HFill.out.1]; simp) (fun i hi => by rw [HFill.out.1]; unfold atL; simp [hi]) Wd
          obtain ⟨X', hX'⟩ := HPUT.out v2 _ hB hpt
          rw [HFill.out.2] at hX'
          refine ⟨j + 1, by omega, by go_num, X', ?_, ?_⟩
          · rw [HAH.out]
            exact hX'
          · rw [HSb.out]
            have hun := HUN.out
            rw [HSb.out] at hun
            exact ((hun.on hB).setCell (p := ⟨Sb, j * 2, none⟩) (by rfl) _).setCell (p := ⟨Sb, j * 2 + 1, none⟩) (by rfl) _
        case measure => simp [intOf]; omega
    · have hjN : j = N2 := by omega
      subst hjN
      have hTw : ∀ b, T b → b < wr.heap.size := fun b hb => Nat.lt_of_lt_of_le (HG.out.2.2.1 b hb) hun.size
      have hl9 : c.slots.length = j := HE.out.2.1
      have KN2 := hidM (KNF.out wr X1 (ahJ c l j) hrun hTw (HGV.out.1.un hun (fun b _ e => e ▸ HH.out.hS)) (HGV.out.2.un hun (fun b _ e => e ▸ HH.out.hS)))
      have HGO : Hid (∀ (v : World) (FR NB WB MB UB : Nat) (ub : Nat → Nat) (E' : Nat), FX T wr.heap.size E' { a with FR := FR, NB := NB, WB := WB, MB := MB, UB := UB, ub := ub, gv := .slice gp gl gq, pv := .slice pp pl pq } c G P v → FV T wr.heap.size E' { a with FR := FR, NB := NB, WB := WB, MB := MB, UB := UB, ub := ub, gv := .slice gp gl gq, pv := .slice pp pl pq } c v X1 0 (fun _ => none) ⟨fun _ => 0, fun _ => 0, fun _ => [], ahJ c l j, fun _ _ => 0⟩ → Below wr.heap.size wr v → Calls Tryz.prog 30 #[.pointer (some ⟨FR, 0, none⟩)] v fun e w' => e = .returned (.tuple #[]) ∧ w'.cell? ⟨FR, 7, none⟩ = some (.slice (some ⟨UB, 0, none⟩) N0 N0) ∧ (∃ X', RunAt T B w' R a X' c (endJ c l G P).slots) ∧ Un (fun b => b = a.S) w w' ∧ VsT (fun b => b < w.heap.size) w' (.slice (some ⟨UB, 0, none⟩) N0 N0) (updP c (endJ c l G P))) := by
        intro v FR NB WB MB UB ub E' hx hv hb
        have hok : OkF c ⟨fun _ => 0, fun _ => 0, fun _ => [], ahJ c l j, fun _ _ => 0⟩ := ⟨fun _ => isP_0, fun _ => ⟨Int.le_refl _, by show (0 : Int) ≤ 2147483647; decide⟩, fun _ y hy => (by cases hy), fun _ => Nat.zero_le _, hrun.len, hrun.ok⟩
        have hgo := goThrough_any v hx hv HG.out.1 hok HG.out.2.2.2.2.2 HG.out.2.1.ibits HG.out.2.2.2.1 HG.out.2.2.2.2.1
        refine hgo.mono ?_
        rintro e w' ⟨h1, h2, ⟨X2, M2, m2, h3, h4⟩, h5⟩
        have he : (goI c G P (⟨fun _ => 0, fun _ => 0, fun _ => [], ahJ c l j, fun _ _ => 0⟩, 0) c.list).1 = endJ c l G P := by unfold endJ startF; rw [hl9]
        rw [he] at h3 h4
        have f7 := h2.f7
        rw [HE.out.1] at f7
        have hfin := step_end hrun HG.out.2.2.1 hun h2 h3 h4 hb h5
        rw [HE.out.1] at hfin
        exact ⟨h1, f7, hfin⟩
      clear hrun hun hTw KNF HGV hl9
      go_wp2_with (first
        | (go_at_call 29; refine KN2.out.mono ?_; rintro e v1 ⟨FR, NB, WB, MB, UB, ub, E', rfl, hfx, hfv, hb7⟩; have HK9 := hidM (HGO.out v1 FR NB WB MB UB ub E' hfx hfv hb7); clear hfx hfv hb7)
        | (go_at_call 30; refine HK9.out.mono ?_; rintro e v2 ⟨rfl, f7, hfin⟩; have HFIN := hidM hfin; clear hfin))
      go_returns
      exact ⟨UB, rfl, HFIN.out⟩

end Go.Proofs.YtholhpmnicibgaaGreat
/- IN4, plainly: code without its loops' marks is well formed, and does the same. -/
namespace Go.Proofs.YtholhpmnicibgaaGreat
set_option linter.unusedVariables false
set_option linter.unusedSimpArgs false

def noMark (l : List Ins) : List Ins := l.filter fun i => !isMark i
def noLoop (s : Wk) : Wk := ⟨s.set, s.opens.filter fun b => !b.loop⟩
theorem noLoop_in (s : Wk) : inLoop (noLoop s) = false := by
  unfold inLoop noLoop
  dsimp only
  cases h : s.opens.filter fun b => !b.loop with
  | nil => rfl
  | cons b r =>
    have : b ∈ s.opens.filter fun b => !b.loop := by rw [h]; simp
    have := (List.mem_filter.1 this).2
    simpa using this
theorem noLoop_top {s : Wk} (h : inLoop s = false) (he : s.opens.isEmpty = false) : ∃ b r, s.opens = b :: r ∧ b.loop = false := by
  unfold inLoop at h
  cases e : s.opens with
  | nil => rw [e] at he; cases he
  | cons b r => rw [e] at h; exact ⟨b, r, rfl, h⟩
theorem marks_step {c : Cd} {s : Wk} {i : Ins} (t : takesP c s i = true) : (isMark i = true → noLoop (stepP s i) = noLoop s) ∧ (isMark i = false → takesP c (noLoop s) i = true ∧ stepP (noLoop s) i = noLoop (stepP s i)) := by
  obtain ⟨h1, h2, h3, h4⟩ := takes_open t
  constructor
  · intro hm
    unfold isMark at hm
    simp only [Bool.or_eq_true, beq_iff_eq] at hm
    rcases hm with e | e
    · rw [step36 e]
      unfold noLoop
      simp
    · rw [step35 (.inr e)]
      have hl : inLoop s = true := by
        unfold mayStandP at h3
        rw [if_neg (by omega), if_neg (by omega), if_pos e] at h3
        exact h3
      unfold inLoop at hl
      unfold leaveP noLoop
      cases ho : s.opens with
      | nil => rw [ho] at hl; cases hl
      | cons b r =>
        rw [ho] at hl
        dsimp only at hl ⊢
        rw [hl]
        simp [hl]
  · intro hm
    unfold isMark at hm
    simp only [Bool.or_eq_false_iff, beq_eq_false_iff_ne] at hm
    have hst : mayStandP c (noLoop s) i (rowP i.op) = true ∧ stepP (noLoop s) i = noLoop (stepP s i) := by
      by_cases e34 : i.op = 34
      · rw [step34 e34, step34 e34]
        unfold mayStandP at h3 ⊢
        rw [if_pos (.inl e34)] at h3 ⊢
        simp only [Bool.and_eq_true, decide_eq_true_eq] at h3
        rw [noLoop_in]
        have hle : (noLoop s).opens.length ≤ s.opens.length := List.length_filter_le _ _
        refine ⟨by simp; omega, ?_⟩
        unfold noLoop
        simp
      · by_cases e35 : i.op = 35
        · rw [step35 (.inl e35), step35 (.inl e35)]
          unfold mayStandP at h3 ⊢
          rw [if_neg (by omega), if_pos e35] at h3 ⊢
          simp only [Bool.and_eq_true, Bool.not_eq_true'] at h3
          obtain ⟨b, r, ho, hb⟩ := noLoop_top h3.2 h3.1
          rw [noLoop_in]
          unfold leaveP noLoop
          rw [ho]
          simp [hb]
        · rw [step_other e34 e35 hm.1 hm.2, step_other e34 e35 hm.1 hm.2]
          refine ⟨?_, ?_⟩
          · unfold mayStandP
            rw [if_neg (by omega), if_neg e35, if_neg hm.2, noLoop_in]
            rfl
          · unfold addP noLoop
            dsimp only
            split <;> rfl
    refine ⟨?_, hst.2⟩
    unfold takesP
    simp only [Bool.and_eq_true]
    exact ⟨h1, h2, hst.1, h4⟩
theorem marks_taken {c : Cd} : ∀ (l : List Ins) (s : Wk), takenP c s l = true → takenP c (noLoop s) (noMark l) = true ∧ runP (noLoop s) (noMark l) = noLoop (runP s l)
  | [], s, _ => ⟨rfl, rfl⟩
  | i :: l, s, h => by
    unfold takenP at h
    simp only [Bool.and_eq_true] at h
    obtain ⟨m1, m2⟩ := marks_step h.1
    obtain ⟨i1, i2⟩ := marks_taken l (stepP s i) h.2
    unfold noMark at i1 i2 ⊢
    cases hm : isMark i with
    | true =>
      rw [List.filter_cons_of_neg (by simp [hm]), ← m1 hm]
      exact ⟨i1, i2⟩
    | false =>
      rw [List.filter_cons_of_pos (by simp [hm])]
      obtain ⟨n1, n2⟩ := m2 hm
      unfold takenP runP
      rw [n1, n2]
      exact ⟨i1, i2⟩
/-- Without its marks code is well formed as well. -/
theorem marks_check {c : Cd} (h : (checkC c).1 = 0) : (checkC { c with list := noMark c.list }).1 = 0 := by
  obtain ⟨h1, h2, h3⟩ := checkC_ok.1 h
  obtain ⟨k1, k2⟩ := marks_taken c.list ⟨[], []⟩ h2
  refine checkC_ok.2 ⟨?_, ?_, ?_⟩
  · have hl : (noMark c.list).length ≤ c.list.length := List.length_filter_le _ _
    unfold aheadP at h1 ⊢
    by_cases e1 : checkP c.sign = 0
    · rw [if_neg (by simp [e1])] at h1 ⊢
      by_cases e2 : 16384 < c.regs.length ∨ 32768 < c.list.length
      · rw [if_pos e2] at h1; cases h1
      · rw [if_neg e2] at h1
        rw [if_neg (by show ¬ (16384 < c.regs.length ∨ 32768 < (noMark c.list).length); omega)]
        exact h1
    · rw [if_pos e1] at h1; exact absurd h1 e1
  · rw [takenP_list]; exact k1
  · show (runP ⟨[], []⟩ (noMark c.list)).opens.isEmpty = true
    have e : (⟨[], []⟩ : Wk) = noLoop ⟨[], []⟩ := rfl
    rw [e, k2]
    unfold noLoop
    simp only [List.isEmpty_iff] at h3 ⊢
    rw [h3]
    rfl
theorem ahJ_list (c : Cd) (L : List Ins) (l : List Hd) : ∀ j, ahJ { c with list := L } l j = ahJ c l j
  | 0 => rfl
  | j + 1 => by
    unfold ahJ
    rw [ahJ_list c L l j]
    rfl
theorem marks_end (c : Cd) (l : List Hd) (G P : List (List Int)) : endJ { c with list := noMark c.list } l G P = endJ c l G P := by
  unfold endJ
  have e : startF { c with list := noMark c.list } l = startF c l := by
    unfold startF
    rw [ahJ_list]
  rw [e]
  show (goI c G P (startF c l, 0) (c.list.filter fun i => !isMark i)).1 = _
  rw [go_marks]

end Go.Proofs.YtholhpmnicibgaaGreat
/- Package interp: Slot. The statements' own sameVectors. -/
namespace Go.Proofs.YtholhpmnicibgaaGreat
open Go.RowKit
set_option linter.unusedVariables false
set_option linter.unusedSimpArgs false

set_option maxRecDepth 100000 in
set_option maxHeartbeats 4000000 in
theorem slot_any {T : Nat → Prop} {B : Nat} (w : World) (R : Nat) (a : Lay) (X : Nat → Value) (c : Cd) (l : List Hd) (h : RunAt T B w R a X c l) (hg : Good c) (n : Nat) (hn : n < l.length) :
    Calls Tryz.prog 16 #[.pointer (some ⟨R, 0, none⟩), .int .i64 n] w fun e w' => ∃ p d, e = .returned (.tuple #[.slice p (l[n]).pats.length d, .int .i64 (l[n]).whole, .int .i64 0]) ∧ Pt (fun b => b < w.heap.size) w' (.slice p (l[n]).pats.length d) (l[n]).pats ∧ Below w.heap.size w w' := by
  have hnc : n < c.slots.length := by rw [← h.len]; exact hn
  have r1 : w.cell? ⟨R, 1, none⟩ = some (.slice a.sp c.slots.length a.sc) := h.run.at 1 rfl
  have hsp : a.sp = some ⟨a.S, 0, none⟩ := by
    rcases h.slots.sp with e | e
    · rw [e] at hn; exact absurd hn (Nat.not_lt_zero _)
    · exact e
  rw [hsp] at r1
  have s1 := h.slots.row.cell (i := 2 * n) (by have := h.slots.le; omega)
  have s2 := h.slots.row.cell (i := 2 * n + 1) (by have := h.slots.le; omega)
  rw [h.slots.whole n hn] at s2
  have hp := h.slots.pats n hn
  have hw := (h.ok n hnc hn).1
  have hwd := hg.width c.slots[n].ty
  obtain ⟨q, cap, hq⟩ := hp.len
  have KC := hidM (fun (v : World) (hv : Below w.heap.size w v) => clone_F (X (2 * n)) l[n].pats v (hp.row.below hv) (by omega))
  rw [hq] at s1 KC
  rw [Nat.mul_comm 2 n] at s1 s2
  have hN := hg.slotsL
  obtain ⟨Sb, hSb⟩ : ∃ Sb, a.S = Sb := ⟨_, rfl⟩
  obtain ⟨N, hN'⟩ : ∃ N, c.slots.length = N := ⟨_, rfl⟩
  obtain ⟨sc, hsc⟩ : ∃ sc, a.sc = sc := ⟨_, rfl⟩
  obtain ⟨pt, hpt⟩ : ∃ pt, l[n].pats = pt := ⟨_, rfl⟩
  obtain ⟨wh, hwh⟩ : ∃ wh, l[n].whole = wh := ⟨_, rfl⟩
  rw [hpt] at KC s1
  rw [hwh] at s2
  rw [hpt, hwh]
  obtain ⟨L, hL⟩ : ∃ L, pt.length = L := ⟨_, rfl⟩
  simp only [hSb, hN', hsc, hL] at r1 s1 s2 hN hnc KC ⊢
  have e1 : ¬ ((n : Int) < 0) := by omega
  have e2 : ¬ ((N : Int) ≤ (n : Int)) := by omega
  have e3 : (n : Int) < (N : Int) := by omega
  clear h hg hsp hp hw hwd hq hSb hN' hsc hpt hwh hL hn
  go_enter Tryz.func16, Tryz.ntmps16
  go_wp2
  refine wp_region_held_drew (S := (fun v => v.cell? ⟨R, 1, none⟩ = some (.slice (some ⟨Sb, 0, none⟩) N sc) ∧ v.cell? ⟨Sb, n * 2, none⟩ = some (.slice q L cap) ∧ v.cell? ⟨Sb, n * 2 + 1, none⟩ = some (.int .i64 wh))) (by kernel_rfl) ?_ (fun hHeld => ?_)
  · ((try dsimp only); go_keep)
  refine tkH (i := 0) (v := ?_) (hy := .inl ⟨by rfl, ?_⟩) (h := ?_)
  rotate_left 1
  · (intro wS hSw; (try dsimp only at hSw); go_simp; try (with_reducible rfl))
  try simp only [Act.put, List.setIfInBounds_toArray, List.set_cons_zero, List.set_cons_succ]
  refine tkH (i := 1) (v := ?_) (hy := .inl ⟨by rfl, ?_⟩) (h := ?_)
  rotate_left 1
  · (intro wS hSw; (try dsimp only at hSw); go_simp; try (with_reducible rfl))
  try simp only [Act.put, List.setIfInBounds_toArray, List.set_cons_zero, List.set_cons_succ]
  refine tkH (i := 2) (v := ?_) (hy := .inl ⟨by rfl, ?_⟩) (h := ?_)
  rotate_left 1
  · (intro wS hSw; (try dsimp only at hSw); go_simp; try (with_reducible rfl))
  try simp only [Act.put, List.setIfInBounds_toArray, List.set_cons_zero, List.set_cons_succ]
  refine tkH (i := 3) (v := ?_) (hy := .inl ⟨by rfl, ?_⟩) (h := ?_)
  rotate_left 1
  · (intro wS hSw; (try dsimp only at hSw); go_simp; try (with_reducible rfl))
  try simp only [Act.put, List.setIfInBounds_toArray, List.set_cons_zero, List.set_cons_succ]
  refine tkH (i := 4) (v := ?_) (hy := .inl ⟨by rfl, ?_⟩) (h := ?_)
  rotate_left 1
  · (intro wS hSw; (try dsimp only at hSw); go_simp; try (with_reducible rfl))
  try simp only [Act.put, List.setIfInBounds_toArray, List.set_cons_zero, List.set_cons_succ]
  refine tkH (i := 5) (v := ?_) (hy := .inl ⟨by rfl, ?_⟩) (h := ?_)
  rotate_left 1
  · (intro wS hSw; (try dsimp only at hSw); go_simp; try (with_reducible rfl))
  try simp only [Act.put, List.setIfInBounds_toArray, List.set_cons_zero, List.set_cons_succ]
  refine tkH (i := 6) (v := ?_) (hy := .inl ⟨by rfl, ?_⟩) (h := ?_)
  rotate_left 1
  · (intro wS hSw; (try dsimp only at hSw); go_simp; try (with_reducible rfl))
  try simp only [Act.put, List.setIfInBounds_toArray, List.set_cons_zero, List.set_cons_succ]
  refine tkH (i := 7) (v := ?_) (hy := .inl ⟨by rfl, ?_⟩) (h := ?_)
  rotate_left 1
  · (intro wS hSw; (try dsimp only at hSw); go_simp; try (with_reducible rfl))
  try simp only [Act.put, List.setIfInBounds_toArray, List.set_cons_zero, List.set_cons_succ]
  refine tkH (i := 9) (v := ?_) (hy := .inl ⟨by rfl, ?_⟩) (h := ?_)
  rotate_left 1
  · (intro wS hSw; (try dsimp only at hSw); go_simp; try (with_reducible rfl))
  try simp only [Act.put, List.setIfInBounds_toArray, List.set_cons_zero, List.set_cons_succ]
  refine tkH (i := 10) (v := ?_) (hy := .inl ⟨by rfl, ?_⟩) (h := ?_)
  rotate_left 1
  · (intro wS hSw; (try dsimp only at hSw); go_simp; try (with_reducible rfl))
  try simp only [Act.put, List.setIfInBounds_toArray, List.set_cons_zero, List.set_cons_succ]
  refine tkH (i := 11) (v := ?_) (hy := .inl ⟨by rfl, ?_⟩) (h := ?_)
  rotate_left 1
  · (intro wS hSw; (try dsimp only at hSw); go_simp; try (with_reducible rfl))
  try simp only [Act.put, List.setIfInBounds_toArray, List.set_cons_zero, List.set_cons_succ]
  refine tkH (i := 12) (v := ?_) (hy := .inl ⟨by rfl, ?_⟩) (h := ?_)
  rotate_left 1
  · (intro wS hSw; (try dsimp only at hSw); go_simp; try (with_reducible rfl))
  try simp only [Act.put, List.setIfInBounds_toArray, List.set_cons_zero, List.set_cons_succ]
  refine tkH (i := 13) (v := ?_) (hy := .inl ⟨by rfl, ?_⟩) (h := ?_)
  rotate_left 1
  · (intro wS hSw; (try dsimp only at hSw); go_simp; try (with_reducible rfl))
  try simp only [Act.put, List.setIfInBounds_toArray, List.set_cons_zero, List.set_cons_succ]
  refine tkH (i := 14) (v := ?_) (hy := .inl ⟨by rfl, ?_⟩) (h := ?_)
  rotate_left 1
  · (intro wS hSw; (try dsimp only at hSw); go_simp; try (with_reducible rfl))
  try simp only [Act.put, List.setIfInBounds_toArray, List.set_cons_zero, List.set_cons_succ]
  refine tkH (i := 15) (v := ?_) (hy := .inl ⟨by rfl, ?_⟩) (h := ?_)
  rotate_left 1
  · (intro wS hSw; (try dsimp only at hSw); go_simp; try (with_reducible rfl))
  try simp only [Act.put, List.setIfInBounds_toArray, List.set_cons_zero, List.set_cons_succ]
  refine tkH (i := 16) (v := ?_) (hy := .inl ⟨by rfl, ?_⟩) (h := ?_)
  rotate_left 1
  · (intro wS hSw; (try dsimp only at hSw); go_simp; try (with_reducible rfl))
  try simp only [Act.put, List.setIfInBounds_toArray, List.set_cons_zero, List.set_cons_succ]
  clear hHeld
  refine wpAnyH_ready (rs := [8]) (by kernel_rfl) (by simp) ?_
  refine AllReadyH.cons (i := 8) (by simp only [List.getElem?_toArray, List.getElem?_cons_succ, List.getElem?_cons_zero]; rfl) (fun K hK => ?_) AllReadyH.nil
  go_simp
  (go_at_call 33; refine (KC.out _ (bel_drew _)).mono ?_; rintro e w1 ⟨p, d, rfl, hr, -, hb1⟩; have HB1 := bel (bel_drew _) hb1; have HR := hidM hr; have z1 := kc HB1 r1; have z2 := kc HB1 s1; have z3 := kc HB1 s2; clear hb1 hr)
  try (go_wp2_with fail)
  refine hK.out _ _ ?_ (fun hHeld => ?_)
  · ((try dsimp only); go_keep)
  clear hK K
  try simp only [Act.put, List.setIfInBounds_toArray, List.set_cons_zero, List.set_cons_succ]
  refine tkH (i := 17) (v := ?_) (hy := .inl ⟨by rfl, ?_⟩) (h := ?_)
  rotate_left 1
  · (intro wS hSw; (try dsimp only at hSw); go_simp; try (with_reducible rfl))
  try simp only [Act.put, List.setIfInBounds_toArray, List.set_cons_zero, List.set_cons_succ]
  refine tkH (i := 18) (v := ?_) (hy := .inl ⟨by rfl, ?_⟩) (h := ?_)
  rotate_left 1
  · (intro wS hSw; (try dsimp only at hSw); go_simp; try (with_reducible rfl))
  try simp only [Act.put, List.setIfInBounds_toArray, List.set_cons_zero, List.set_cons_succ]
  refine tkH (i := 19) (v := ?_) (hy := .inl ⟨by rfl, ?_⟩) (h := ?_)
  rotate_left 1
  · (intro wS hSw; (try dsimp only at hSw); go_simp; try (with_reducible rfl))
  try simp only [Act.put, List.setIfInBounds_toArray, List.set_cons_zero, List.set_cons_succ]
  refine wpAnyH_done (by kernel_rfl) ?_ _
  go_wp2
  go_returns
  exact ⟨p, d, rfl, HR.out, HB1⟩

/-- Lists of lists that read alike are the same. -/
theorem VsT.cellsOf {T : Nat → Prop} {w : World} {v : Value} {L : List (List Int)} (h : VsT T w v L) : ∃ p c, v = .slice p L.length c ∧ ∀ i (hi : i < L.length), ∃ b o q d, p = some ⟨b, o, none⟩ ∧ w.cell? ⟨b, o + i, none⟩ = some (.slice q (L[i]).length d) ∧ Reads w q (L[i]).length (fun j => .int .u32 (atL L[i] j)) := by
  obtain ⟨p, c, hv, hh⟩ := h
  refine ⟨p, c, hv, fun i hi => ?_⟩
  rcases hh with e | ⟨b, o, hp, _, _, hh⟩
  · rw [e] at hi; exact absurd hi (Nat.not_lt_zero _)
  · obtain ⟨u, h1, h2⟩ := hh i hi
    obtain ⟨q, d, hq⟩ := h2.len
    rw [hq] at h1 h2
    exact ⟨b, o, q, d, hp, h1, h2.reads.2⟩

set_option maxRecDepth 100000 in
set_option maxHeartbeats 8000000 in
theorem same_any {T T' : Nat → Prop} (w : World) (u v : Value) (L : List (List Int)) (hu : VsT T w u L) (hv : VsT T' w v L) (hL : L.length ≤ 1048576) (hl : ∀ l ∈ L, l.length ≤ 1048576) :
    Calls Tryz.prog 14 #[u, v] w fun e w' => e = .returned (.bool true) ∧ Below w.heap.size w w' := by
  obtain ⟨p, c, rfl, hcu⟩ := hu.cellsOf
  obtain ⟨p', c', rfl, hcv⟩ := hv.cellsOf
  obtain ⟨N, hN⟩ : ∃ N, L.length = N := ⟨_, rfl⟩
  rw [hN] at hL ⊢
  have HCU : Hid (∀ i (hi : i < L.length), ∃ b o q d, p = some ⟨b, o, none⟩ ∧ w.cell? ⟨b, o + i, none⟩ = some (.slice q (L[i]).length d) ∧ Reads w q (L[i]).length (fun j => .int .u32 (atL L[i] j))) := hcu
  have HCV : Hid (∀ i (hi : i < L.length), ∃ b o q d, p' = some ⟨b, o, none⟩ ∧ w.cell? ⟨b, o + i, none⟩ = some (.slice q (L[i]).length d) ∧ Reads w q (L[i]).length (fun j => .int .u32 (atL L[i] j))) := hcv
  have HN : Hid (L.length = N ∧ ∀ l ∈ L, l.length ≤ 1048576) := ⟨hN, hl⟩
  clear hu hv hcu hcv hN hl
  go_enter Tryz.func14, Tryz.ntmps14
  go_wp2
  go_loopw [5] (fun iv wr => ∃ j : Nat, j ≤ N ∧ iv = .int .i64 j ∧ Hid (Below w.heap.size w wr)) (fun iv _ => N - (intOf iv).toNat)
  case atStart => exact ⟨0, Nat.zero_le _, rfl, bel0 _⟩
  case round =>
    obtain ⟨j, hj, rfl, HB⟩ := hrel
    by_cases hlt : j < N
    · have hjL : j < L.length := by rw [HN.out.1]; exact hlt
      obtain ⟨b, o, q, d, rfl, h1, h2⟩ := HCU.out j hjL
      obtain ⟨b', o', q', d', rfl, h1', h2'⟩ := HCV.out j hjL
      have hln := HN.out.2 _ (List.getElem_mem hjL)
      obtain ⟨M, hM⟩ : ∃ M, (L[j]).length = M := ⟨_, rfl⟩
      obtain ⟨Y, hY⟩ : ∃ Y, atL L[j] = Y := ⟨_, rfl⟩
      rw [hM] at h1 h2 h1' h2' hln
      simp only [hY] at h2 h2'
      have k1 := kc HB.out h1
      have k2 := kc HB.out h1'
      have HRU := hidM (h2.below HB.out)
      have HRV := hidM (h2'.below HB.out)
      clear h1 h1' h2 h2' hM hY
      go_wp2
      refine wp_region_held_drew (S := (fun x => x.cell? ⟨b, o + j, none⟩ = some (.slice q M d) ∧ x.cell? ⟨b', o' + j, none⟩ = some (.slice q' M d'))) (by kernel_rfl) ?_ (fun hHeld => ?_)
      · ((try dsimp only); go_keep)
      refine tkH (i := 0) (v := ?_) (hy := .inl ⟨by rfl, ?_⟩) (h := ?_)
      rotate_left 1
      · (intro wS hSw; (try dsimp only at hSw); go_simp; try (with_reducible rfl))
      try simp only [Act.put, List.setIfInBounds_toArray, List.set_cons_zero, List.set_cons_succ]
      refine tkH (i := 1) (v := ?_) (hy := .inl ⟨by rfl, ?_⟩) (h := ?_)
      rotate_left 1
      · (intro wS hSw; (try dsimp only at hSw); go_simp; try (with_reducible rfl))
      try simp only [Act.put, List.setIfInBounds_toArray, List.set_cons_zero, List.set_cons_succ]
      refine tkH (i := 2) (v := ?_) (hy := .inl ⟨by rfl, ?_⟩) (h := ?_)
      rotate_left 1
      · (intro wS hSw; (try dsimp only at hSw); go_simp; try (with_reducible rfl))
      try simp only [Act.put, List.setIfInBounds_toArray, List.set_cons_zero, List.set_cons_succ]
      refine tkH (i := 3) (v := ?_) (hy := .inl ⟨by rfl, ?_⟩) (h := ?_)
      rotate_left 1
      · (intro wS hSw; (try dsimp only at hSw); go_simp; try (with_reducible rfl))
      try simp only [Act.put, List.setIfInBounds_toArray, List.set_cons_zero, List.set_cons_succ]
      refine tkH (i := 4) (v := ?_) (hy := .inl ⟨by rfl, ?_⟩) (h := ?_)
      rotate_left 1
      · (intro wS hSw; (try dsimp only at hSw); go_simp; try (with_reducible rfl))
      try simp only [Act.put, List.setIfInBounds_toArray, List.set_cons_zero, List.set_cons_succ]
      refine tkH (i := 5) (v := ?_) (hy := .inl ⟨by rfl, ?_⟩) (h := ?_)
      rotate_left 1
      · (intro wS hSw; (try dsimp only at hSw); go_simp; try (with_reducible rfl))
      try simp only [Act.put, List.setIfInBounds_toArray, List.set_cons_zero, List.set_cons_succ]
      refine tkH (i := 6) (v := ?_) (hy := .inl ⟨by rfl, ?_⟩) (h := ?_)
      rotate_left 1
      · (intro wS hSw; (try dsimp only at hSw); go_simp; try (with_reducible rfl))
      try simp only [Act.put, List.setIfInBounds_toArray, List.set_cons_zero, List.set_cons_succ]
      refine tkH (i := 7) (v := ?_) (hy := .inl ⟨by rfl, ?_⟩) (h := ?_)
      rotate_left 1
      · (intro wS hSw; (try dsimp only at hSw); go_simp; try (with_reducible rfl))
      try simp only [Act.put, List.setIfInBounds_toArray, List.set_cons_zero, List.set_cons_succ]
      refine tkH (i := 8) (v := ?_) (hy := .inl ⟨by rfl, ?_⟩) (h := ?_)
      rotate_left 1
      · (intro wS hSw; (try dsimp only at hSw); go_simp; try (with_reducible rfl))
      try simp only [Act.put, List.setIfInBounds_toArray, List.set_cons_zero, List.set_cons_succ]
      refine tkH (i := 9) (v := ?_) (hy := .inl ⟨by rfl, ?_⟩) (h := ?_)
      rotate_left 1
      · (intro wS hSw; (try dsimp only at hSw); go_simp; try (with_reducible rfl))
      try simp only [Act.put, List.setIfInBounds_toArray, List.set_cons_zero, List.set_cons_succ]
      refine tkH (i := 10) (v := ?_) (hy := .inl ⟨by rfl, ?_⟩) (h := ?_)
      rotate_left 1
      · (intro wS hSw; (try dsimp only at hSw); go_simp; try (with_reducible rfl))
      try simp only [Act.put, List.setIfInBounds_toArray, List.set_cons_zero, List.set_cons_succ]
      refine wpAnyH_done (by kernel_rfl) ?_ _
      go_wp2
      rename World => W0
      go_loopw [6] (fun iv wr2 => ∃ k : Nat, k ≤ M ∧ iv = .int .i64 k ∧ Hid (Below W0.heap.size W0 wr2)) (fun iv _ => M - (intOf iv).toNat)
      case atStart => exact ⟨0, Nat.zero_le _, rfl, bel_drew _⟩
      case round =>
        obtain ⟨k, hk, rfl, HB2⟩ := hrel
        have m1 := kc HB2.out k1
        have m2 := kc HB2.out k2
        by_cases hlt2 : k < M
        · rcases HRU.out with e | ⟨ub, uo, hue, hur⟩
          · omega
          rcases HRV.out with e | ⟨vb, vo, hve, hvr⟩
          · omega
          have n1 := kc HB2.out (hur k hlt2)
          have n2 := kc HB2.out (hvr k hlt2)
          subst hue hve
          clear hur hvr HRU HRV
          go_wp2
          refine wp_region_held_drew (S := (fun x => x.cell? ⟨b, o + j, none⟩ = some (.slice (some ⟨ub, uo, none⟩) M d) ∧ x.cell? ⟨b', o' + j, none⟩ = some (.slice (some ⟨vb, vo, none⟩) M d') ∧ x.cell? ⟨ub, uo + k, none⟩ = some (.int .u32 (Y k)) ∧ x.cell? ⟨vb, vo + k, none⟩ = some (.int .u32 (Y k)))) (by kernel_rfl) ?_ (fun hHeld => ?_)
          · ((try dsimp only); go_keep)
          refine tkH (i := 0) (v := ?_) (hy := .inl ⟨by rfl, ?_⟩) (h := ?_)
          rotate_left 1
          · (intro wS hSw; (try dsimp only at hSw); go_simp; try (with_reducible rfl))
          try simp only [Act.put, List.setIfInBounds_toArray, List.set_cons_zero, List.set_cons_succ]
          refine tkH (i := 1) (v := ?_) (hy := .inl ⟨by rfl, ?_⟩) (h := ?_)
          rotate_left 1
          · (intro wS hSw; (try dsimp only at hSw); go_simp; try (with_reducible rfl))
          try simp only [Act.put, List.setIfInBounds_toArray, List.set_cons_zero, List.set_cons_succ]
          refine tkH (i := 2) (v := ?_) (hy := .inl ⟨by rfl, ?_⟩) (h := ?_)
          rotate_left 1
          · (intro wS hSw; (try dsimp only at hSw); go_simp; try (with_reducible rfl))
          try simp only [Act.put, List.setIfInBounds_toArray, List.set_cons_zero, List.set_cons_succ]
          refine tkH (i := 3) (v := ?_) (hy := .inl ⟨by rfl, ?_⟩) (h := ?_)
          rotate_left 1
          · (intro wS hSw; (try dsimp only at hSw); go_simp; try (with_reducible rfl))
          try simp only [Act.put, List.setIfInBounds_toArray, List.set_cons_zero, List.set_cons_succ]
          refine tkH (i := 4) (v := ?_) (hy := .inl ⟨by rfl, ?_⟩) (h := ?_)
          rotate_left 1
          · (intro wS hSw; (try dsimp only at hSw); go_simp; try (with_reducible rfl))
          try simp only [Act.put, List.setIfInBounds_toArray, List.set_cons_zero, List.set_cons_succ]
          refine tkH (i := 5) (v := ?_) (hy := .inl ⟨by rfl, ?_⟩) (h := ?_)
          rotate_left 1
          · (intro wS hSw; (try dsimp only at hSw); go_simp; try (with_reducible rfl))
          try simp only [Act.put, List.setIfInBounds_toArray, List.set_cons_zero, List.set_cons_succ]
          refine tkH (i := 6) (v := ?_) (hy := .inl ⟨by rfl, ?_⟩) (h := ?_)
          rotate_left 1
          · (intro wS hSw; (try dsimp only at hSw); go_simp; try (with_reducible rfl))
          try simp only [Act.put, List.setIfInBounds_toArray, List.set_cons_zero, List.set_cons_succ]
          refine tkH (i := 7) (v := ?_) (hy := .inl ⟨by rfl, ?_⟩) (h := ?_)
          rotate_left 1
          · (intro wS hSw; (try dsimp only at hSw); go_simp; try (with_reducible rfl))
          try simp only [Act.put, List.setIfInBounds_toArray, List.set_cons_zero, List.set_cons_succ]
          refine tkH (i := 8) (v := ?_) (hy := .inl ⟨by rfl, ?_⟩) (h := ?_)
          rotate_left 1
          · (intro wS hSw; (try dsimp only at hSw); go_simp; try (with_reducible rfl))
          try simp only [Act.put, List.setIfInBounds_toArray, List.set_cons_zero, List.set_cons_succ]
          refine tkH (i := 9) (v := ?_) (hy := .inl ⟨by rfl, ?_⟩) (h := ?_)
          rotate_left 1
          · (intro wS hSw; (try dsimp only at hSw); go_simp; try (with_reducible rfl))
          try simp only [Act.put, List.setIfInBounds_toArray, List.set_cons_zero, List.set_cons_succ]
          refine tkH (i := 10) (v := ?_) (hy := .inl ⟨by rfl, ?_⟩) (h := ?_)
          rotate_left 1
          · (intro wS hSw; (try dsimp only at hSw); go_simp; try (with_reducible rfl))
          try simp only [Act.put, List.setIfInBounds_toArray, List.set_cons_zero, List.set_cons_succ]
          refine tkH (i := 11) (v := ?_) (hy := .inl ⟨by rfl, ?_⟩) (h := ?_)
          rotate_left 1
          · (intro wS hSw; (try dsimp only at hSw); go_simp; try (with_reducible rfl))
          try simp only [Act.put, List.setIfInBounds_toArray, List.set_cons_zero, List.set_cons_succ]
          refine tkH (i := 12) (v := ?_) (hy := .inl ⟨by rfl, ?_⟩) (h := ?_)
          rotate_left 1
          · (intro wS hSw; (try dsimp only at hSw); go_simp; try (with_reducible rfl))
          try simp only [Act.put, List.setIfInBounds_toArray, List.set_cons_zero, List.set_cons_succ]
          refine tkH (i := 13) (v := ?_) (hy := .inl ⟨by rfl, ?_⟩) (h := ?_)
          rotate_left 1
          · (intro wS hSw; (try dsimp only at hSw); go_simp; try (with_reducible rfl))
          try simp only [Act.put, List.setIfInBounds_toArray, List.set_cons_zero, List.set_cons_succ]
          refine tkH (i := 14) (v := ?_) (hy := .inl ⟨by rfl, ?_⟩) (h := ?_)
          rotate_left 1
          · (intro wS hSw; (try dsimp only at hSw); go_simp; try (with_reducible rfl))
          try simp only [Act.put, List.setIfInBounds_toArray, List.set_cons_zero, List.set_cons_succ]
          refine wpAnyH_done (by kernel_rfl) ?_ _
          go_wp2
          go_roundw
          case rel => exact ⟨k + 1, by omega, by go_num, bel HB2.out (bel_drew _)⟩
          case measure => simp [intOf]; omega
        · go_wp2
          go_roundw
          case rel => exact ⟨j + 1, by omega, by go_num, bel HB.out HB2.out⟩
          case measure => simp [intOf]; omega
    · go_wp2
      go_ret
      exact ⟨rfl, HB.out⟩

end Go.Proofs.YtholhpmnicibgaaGreat
/- The statements' own half. -/
namespace Go.Proofs.YtholhpmnicibgaaGreat
open Go.RowKit
set_option linter.unusedVariables false
set_option linter.unusedSimpArgs false

def hName : ByteArray := ⟨#[119]⟩
/-- Code that halves, and counts from k on. -/
def halfC (k : Int) : Cd := ⟨[⟨hName, 1, 2⟩], [⟨3, 0⟩, ⟨1, 0⟩, ⟨2, 0⟩], [⟨⟨2, 0⟩, true, 0, k⟩], [⟨29, 0, 0, 0, 0, 0, 0⟩, ⟨1, 1, 0, 0, 0, 0, 1056964608⟩, ⟨6, 0, 0, 1, 0, 0, 0⟩, ⟨31, 0, 0, 0, 0, 0, 0⟩, ⟨32, 2, 0, 0, 0, 0, 0⟩, ⟨21, 2, 2, 0, 0, 0, 0⟩, ⟨33, 0, 2, 0, 0, 0, 0⟩]⟩
theorem half_ahead (k : Int) (h0 : 0 ≤ k) (h1 : k ≤ 2147483647) : aheadP (halfC k) = 0 := by
  have e1 : checkP (halfC k).sign = 0 := by show checkP [⟨hName, 1, 2⟩] = 0; decide +kernel
  have e2 : slotsMay (halfC k) = true := by
    unfold slotsMay halfC
    simp [slotMay, typeMay, begins, wholeB, h0, h1]
  have e3 : typesMay (halfC k) = true := by
    unfold typesMay halfC
    simp [typeMay, isPl]
  unfold aheadP
  rw [if_neg (by simp [e1]), if_neg (by show ¬ (16384 < 3 ∨ 32768 < 7); decide), if_neg (by show ¬ (4096 < 1); decide), e2, e3]
  rfl
theorem half_check (k : Int) (h0 : 0 ≤ k) (h1 : k ≤ 2147483647) : (checkC (halfC k)).1 = 0 := by
  rw [checkC_ok]
  exact ⟨half_ahead k h0 h1, by rfl, by rfl⟩
theorem half_ok (k : Int) : CdOk (halfC k) := by
  refine ⟨by show (1 : Nat) ≤ _; decide, fun p hp => ?_, by show (3 : Nat) ≤ _; decide, by show (1 : Nat) ≤ _; decide, by show (7 : Nat) ≤ _; decide, fun s hs => ?_, fun i hi => ?_⟩
  · simp [halfC] at hp; rw [hp]; decide
  · simp [halfC] at hs; rw [hs]; show (0 : Int) ≤ 0 ∧ (0 : Int) < 4294967296; decide
  · simp [halfC] at hi
    rcases hi with e | e | e | e | e | e | e <;> rw [e] <;> decide
theorem half_start (k : Int) : startH (halfC k) = [⟨[], k⟩] := by rfl
theorem half_steps (k y : Int) (G P : List (List Int)) : (endJ (halfC k) [⟨[], y⟩] G P).slots = [⟨[], min y 2147483646 + 1⟩] := by rfl
theorem half_fits (k : Int) (x y : Int) : fits2 (halfC k) [[x, y]] [[x, y]] = true := by rfl
theorem half_nofit (k : Int) : fits2 (halfC k) [] [] = false := by rfl
theorem half_upd : updP (halfC 4) (endJ (halfC 4) [⟨[], 4⟩] [[1073741824, 1065353216]] [[1073741824, 1065353216]]) = [[1065353216, 1056964608]] := by decide +kernel

end Go.Proofs.YtholhpmnicibgaaGreat
