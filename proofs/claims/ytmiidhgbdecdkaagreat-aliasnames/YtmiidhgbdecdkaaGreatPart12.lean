import Derived.Test.YtmiidhgbdecdkaaGreatPart11
namespace Go.Proofs.YtmiidhgbdecdkaaGreat
open Go.RowKit
set_option linter.unusedVariables false
set_option linter.unusedSimpArgs false
theorem new_partsbox (w : World) : ∃ W, w.alloc (.cells #[.map none, .int .i64 0] 93) = W ∧ W.heap[w.heap.size]? = some (.cells #[.map none, .int .i64 0] 93) ∧ Below w.heap.size w W :=
 ⟨_, rfl, box_heapA _ _, (Below.refl _ _).alloc (Nat.le_refl _) _⟩
theorem put_eightC {v : World} {R : Nat} {a0 a1 a2 a3 a4 a5 a6 a7 : Value} {t : TypeId} (h : v.heap[R]? = some (.cells #[a0, a1, a2, a3, a4, a5, a6, a7] t)) (b0 b1 b2 b3 b4 b5 b6 b7 : Value) :
  ((((((((v.setCell ⟨R, 0, none⟩ b0).setCell ⟨R, 1, none⟩ b1).setCell ⟨R, 2, none⟩ b2).setCell ⟨R, 3, none⟩ b3).setCell ⟨R, 4, none⟩ b4).setCell ⟨R, 5, none⟩ b5).setCell ⟨R, 6, none⟩ b6).setCell ⟨R, 7, none⟩ b7).heap[R]? = some (.cells #[b0, b1, b2, b3, b4, b5, b6, b7] t) := by
 have := put_oneA (put_oneA (put_oneA (put_oneA (put_oneA (put_oneA (put_oneA (put_oneA h 0 b0) 1 b1) 2 b2) 3 b3) 4 b4) 5 b5) 6 b6) 7 b7
 simp only [List.setIfInBounds_toArray, List.set_cons_zero, List.set_cons_succ] at this
 exact this
theorem PM.off {w w' : World} {b n : Nat} {nd : ByteArray → Option Nd} {S : Blk} (h : PM w b n nd S) {R : Nat} (hb : b ≠ R) (hS : ∀ j, S j → j ≠ R) (hk : ∀ x, x ≠ R → w'.heap[x]? = w.heap[x]?) : PM w' b n nd S := by
 obtain ⟨f, h1, h2⟩ := h
 refine ⟨f, h1.block (hk b hb), fun x => ?_⟩
 have := h2 x
 cases hx : nd x with
 | none => rw [hx] at this; exact this
 | some t =>
  rw [hx] at this
  obtain ⟨p, c, e1, e2⟩ := this
  exact ⟨p, c, e1, e2.inKeep fun j hj => hk j (hS j hj)⟩
def PtS (w : World) (q : Option Addr) (Ln c : Nat) (f : Fn) (x1 x2 : Array Value) (wr : World) : Prop :=
 Below w.heap.size w wr ∧ wr.heap[w.heap.size]? = some (.cells #[.slice q Ln c, .func f x1 x2] 47) ∧ wr.heap[w.heap.size + 1]? = some (.cells #[.map none, .int .i64 0] 93)
theorem PtS.below {w wr x : World} {q : Option Addr} {Ln c : Nat} {f : Fn} {x1 x2 : Array Value} (h : PtS w q Ln c f x1 x2 wr) (k : Below wr.heap.size wr x) : PtS w q Ln c f x1 x2 x :=
 ⟨bel h.1 k, (k.block _ (hlt h.2.1)).trans h.2.1, (k.block _ (hlt h.2.2)).trans h.2.2⟩
set_option maxRecDepth 100000 in
set_option maxHeartbeats 4000000 in
theorem aparts_any (L : List (ByteArray × Nd)) (t : Nd) (q : Option Addr) (c : Nat) (f : Fn) (x1 x2 : Array Value) (b o : Nat) (S : Blk) (g0 : ByteArray → Option Nd) (w : World) (hl : L.length ≤ 40000) (hla : t.args.length ≤ 40000) (hLs : ∀ x ∈ L, x.1.size ≤ maxLen) (hLa : ∀ x ∈ L, x.2.args = []) (hks : ∀ x ∈ t.args, x.key.size ≤ maxLen) (hS : ∀ j, S j → j < w.heap.size) (h : ArgsG w q L) (hn : NodeA w (inH S) b o t) (hg : giveP L t = .ok g0) :
  Calls Tryz.prog 48 #[.agg #[.slice q L.length c, .func f x1 x2], .pointer (some ⟨b, o, none⟩)] w fun e w' => ∃ bm m, e = .returned (.agg #[.map (some bm), .int .i64 t.at_]) ∧ PM w' bm m (partsL t.at_ L g0) S ∧ w.heap.size < bm ∧ Below w.heap.size w w' := by
 have hgv := fun (x : World) (k : Below w.heap.size w x) => give_any L t q c f x1 x2 b o S x hl hla hLs hks (fun j hj => by have := hS j hj; have := k.size; omega) (h.kp (Kp.of k)) (hn.below k)
 obtain ⟨-, -, -, -, -, e6, -⟩ := hn
 obtain ⟨Ln, hLn⟩ : ∃ n, L.length = n := ⟨_, rfl⟩
 have HN : Hid (L.length = Ln ∧ t.args.length ≤ 40000) := ⟨hLn, hla⟩
 rw [hLn] at hl hgv ⊢
 have HGV : Hid (∀ x, Below w.heap.size w x → Calls Tryz.prog 47 #[.agg #[.slice q Ln c, .func f x1 x2], .pointer (some ⟨b, o, none⟩)] x fun e w' => Below x.heap.size x w' ∧ ∃ bm m, e = .returned (.tuple #[.map (some bm), .int .i64 0, .int .i64 0]) ∧ PM w' bm m g0 S ∧ m ≤ t.args.length ∧ x.heap.size ≤ bm) := fun x k => (hgv x k).mono fun e w' ⟨hb, hr⟩ => by
  refine ⟨hb, ?_⟩
  rcases hr with ⟨er, a, h1, -⟩ | ⟨g, bm, m, h1, h2, h3, h4, h5⟩
  ·rw [hg] at h1; cases h1
  ·rw [hg] at h1
   cases h1
   exact ⟨bm, m, h2, h3, h4, h5⟩
 obtain ⟨A, hA⟩ : ∃ A, t.at_ = A := ⟨_, rfl⟩
 rw [hA] at e6 ⊢
 have H6 : Hid (w.cell? ⟨b, o + 6, none⟩ = some (.int .i64 A)) := e6
 have HA : Hid (ArgsG w q L) := h
 have HSW : Hid ((∀ j, S j → j < w.heap.size) ∧ (∀ x ∈ L, x.1.size ≤ maxLen) ∧ ∀ x ∈ L, x.2.args = []) := ⟨hS, hLs, hLa⟩
 obtain ⟨W, hW⟩ : ∃ W, w.alloc (.cells #[.slice q Ln c, .func f x1 x2] 47) = W := ⟨_, rfl⟩
 have hbx : Below w.heap.size w W := by rw [← hW]; exact bel_alloc _ _
 have hxx : W.heap[w.heap.size]? = some (.cells #[.slice q Ln c, .func f x1 x2] 47) := by rw [← hW]; exact box_heapA _ _
 have hsz : W.heap.size = w.heap.size + 1 := by rw [← hW]; simp
 obtain ⟨W1, hW1, hX1, hB1⟩ := new_partsbox W
 rw [hsz] at hX1
 have HST : Hid (PtS w q Ln c f x1 x2 W1) := ⟨bel hbx hB1, (hB1.block _ (hlt hxx)).trans hxx, hX1⟩
 have HSB : Hid (Below w.heap.size w W1 ∧ w.heap.size + 1 < W1.heap.size) := ⟨HST.out.1, hlt HST.out.2.2⟩
 obtain ⟨⟨s0, s1⟩, -⟩ := twoC HST.out.2.1
 clear hgv hg hLn hA e6 h hS hLs hLa hks hbx hxx hX1 hB1 hla
 go_enter Tryz.func48, Tryz.ntmps48
 go_upto_region 2 with (go_at_call 47; (with_reducible refine (HGV.out _ HSB.out.1).mono ?_); rintro e v1 ⟨hb1, bm, m, rfl, hpm, hm, hbm⟩; have HP1 : Hid (PtS w q Ln c f x1 x2 v1) := HST.out.below hb1; have HPM : Hid (PM v1 bm m g0 S ∧ m ≤ 40000 ∧ w.heap.size + 1 < bm) := ⟨hpm, by have := HN.out.2; omega, by have := HSB.out.2; omega⟩; clear hb1 hpm hm hbm)
 obtain ⟨⟨u0, u1⟩, -⟩ := twoC HP1.out.2.1
 clear s0 s1 hW hW1 hsz HST HGV
 go_wp2
 go_loopw [23] (fun iv wr => ∃ j : Nat, j ≤ Ln ∧ iv = .int .i64 j ∧ Hid (∃ m g, PtS w q Ln c f x1 x2 wr ∧ PM wr bm m g S ∧ m ≤ 40000 + j ∧ partsL A L g0 = partsL A (L.drop j) g)) (fun iv _ => Ln - (intOf iv).toNat)
 case atStart => exact ⟨0, Nat.zero_le _, rfl, m, g0, HP1.out, HPM.out.1, HPM.out.2.1, rfl⟩
 case round =>
  obtain ⟨j, hj, rfl, HS⟩ := hrel
  obtain ⟨m2, g, hps, hpm, hm2, hpl⟩ := HS.out
  have HBM : Hid (w.heap.size + 1 < bm) := HPM.out.2.2
  clear HS u0 u1 HP1 HPM
  have HPS : Hid (PtS w q Ln c f x1 x2 wr) := hps
  have HPM : Hid (PM wr bm m2 g S) := hpm
  have HM2 : Hid (m2 ≤ 40000 + j) := hm2
  by_cases hlt0 : j < Ln
  ·have hll : j < L.length := by rw [HN.out.1]; exact hlt0
   obtain ⟨ga, hga, y0, y1, y2, y3, y4, y5, y6, y7⟩ := args_at (HA.out.kp (Kp.of hps.1)) hll
   subst hga
   have hdr : L.drop j = L[j] :: L.drop (j + 1) := List.drop_eq_getElem_cons hll
   have hsx : L[j].1.size ≤ maxLen := HSW.out.2.1 _ (List.getElem_mem hll)
   have hxa : L[j].2.args = [] := HSW.out.2.2 _ (List.getElem_mem hll)
   obtain ⟨XX, hXX⟩ : ∃ X, L[j] = X := ⟨_, rfl⟩
   rw [hXX] at hdr y0 y1 y2 y3 y4 y5 y7 hsx hxa
   obtain ⟨NM, X⟩ := XX
   have HPL : Hid (partsL A L g0 = partsL A (L.drop (j + 1)) (if (g NM).isSome then g else updN g NM (atN X A))) := by
    show _ = _
    rw [hpl, hdr]
    rfl
   simp only at y0 y1 y2 y3 y4 y5 y7 hsx hxa
   have HXA : Hid (X.args = []) := hxa
   obtain ⟨W4, hW4, hX4, hB4⟩ := new_arg wr
   obtain ⟨⟨q0, q1, q2, q3, q4, q5, q6, q7⟩, r0, r1, r2, r3, r4, r5, r6, r7⟩ := eightC hX4
   have HX4 := hidM hX4
   have HB4 := hidM hB4
   have HNS : Hid (NM.size ≤ maxLen) := hsx
   have i1 : (0 : Int) ≤ (j : Int) := by omega
   have i2 : (j : Int) < (Ln : Int) := by omega
   clear hX4 hB4 hdr hsx hxa hXX hpl hps hpm hm2 hll
   go_upto_region 5 with fail
   have hXU := put_eightC HX4.out (.string NM) (.int .i64 X.kind) (.string X.name) (.int .u32 X.num) (.int .i64 X.int_) (.string X.key) (.slice none 0 0) (.int .i64 X.at_)
   have hBU := below_eight HB4.out (.string NM) (.int .i64 X.kind) (.string X.name) (.int .u32 X.num) (.int .i64 X.int_) (.string X.key) (.slice none 0 0) (.int .i64 X.at_)
   obtain ⟨U, hU⟩ : ∃ UU, ((((((((W4.setCell ⟨wr.heap.size, 0, none⟩ (.string NM)).setCell ⟨wr.heap.size, 1, none⟩ (.int .i64 X.kind)).setCell ⟨wr.heap.size, 2, none⟩ (.string X.name)).setCell ⟨wr.heap.size, 3, none⟩ (.int .u32 X.num)).setCell ⟨wr.heap.size, 4, none⟩ (.int .i64 X.int_)).setCell ⟨wr.heap.size, 5, none⟩ (.string X.key)).setCell ⟨wr.heap.size, 6, none⟩ (.slice none 0 0)).setCell ⟨wr.heap.size, 7, none⟩ (.int .i64 X.at_)) = UU := ⟨_, rfl⟩
   rw [hU] at hXU hBU ⊢
   have HBU : Hid (Below wr.heap.size wr U) := hBU
   obtain ⟨O, hO⟩ : ∃ O, wr.heap.size = O := ⟨_, rfl⟩
   have HO : Hid (wr.heap.size = O) := hO
   rw [hO] at hXU ⊢
   have HXU := hidM hXU
   clear q0 q1 q2 q3 q4 q5 q6 q7 r0 r1 r2 r3 r4 r5 r6 r7 y0 y1 y2 y3 y4 y5 y6 y7
   obtain ⟨⟨o0, o1, o2, o3, o4, o5, o6, o7⟩, -⟩ := eightC hXU
   obtain ⟨W6, hW6, hX6, hB6, -⟩ := new_box U
   obtain ⟨⟨q0, q1, q2, q3, q4, q5, q6⟩, r0, r1, r2, r3, r4, r5, r6⟩ := sevenA hX6
   have HX6 := hidM hX6
   have HB6 := hidM hB6
   clear hX6 hB6 hXU hBU hO hU hW4
   rcases (HPM.out.below HBU.out).look2 HNS.out with ⟨y, py, cy, hy, hrun⟩ | ⟨hy, hrun⟩
   ·unfold nv at hrun
    have HPN : Hid (partsL A L g0 = partsL A (L.drop (j + 1)) g) := by show _ = _; rw [HPL.out, hy]; rfl
    clear hy HPL
    go_upto_region 6 with fail
    have hBE := below_seven HB6.out (.int .i64 y.kind) (.string y.name) (.int .u32 y.num) (.int .i64 y.int_) (.string y.key) (.slice py y.args.length cy) (.int .i64 y.at_)
    obtain ⟨U2, hU2⟩ : ∃ UU, (((((((W6.setCell ⟨U.heap.size, 0, none⟩ (.int .i64 y.kind)).setCell ⟨U.heap.size, 1, none⟩ (.string y.name)).setCell ⟨U.heap.size, 2, none⟩ (.int .u32 y.num)).setCell ⟨U.heap.size, 3, none⟩ (.int .i64 y.int_)).setCell ⟨U.heap.size, 4, none⟩ (.string y.key)).setCell ⟨U.heap.size, 5, none⟩ (.slice py y.args.length cy)).setCell ⟨U.heap.size, 6, none⟩ (.int .i64 y.at_)) = UU := ⟨_, rfl⟩
    rw [hU2] at hBE ⊢
    have HBE := hidM (bel HBU.out hBE)
    clear hU2 hBE q0 q1 q2 q3 q4 q5 q6 r0 r1 r2 r3 r4 r5 r6 o0 o1 o2 o3 o4 o5 o6 o7 hrun hW6
    go_wp2
    go_roundw
    case rel => exact ⟨j + 1, by omega, by go_num, m2, g, HPS.out.below HBE.out, HPM.out.below HBE.out, by have := HM2.out; omega, HPN.out⟩
    case measure => simp [intOf]; omega
   ·have HPN : Hid (partsL A L g0 = partsL A (L.drop (j + 1)) (updN g NM (atN X A))) := by show _ = _; rw [HPL.out, hy]; rfl
    clear hy HPL
    go_upto_region 7 with fail
    have hBE := below_seven HB6.out (.int .i64 0) (.string ⟨#[]⟩) (.int .u32 0) (.int .i64 0) (.string ⟨#[]⟩) (.slice none 0 0) (.int .i64 0)
    obtain ⟨U2, hU2⟩ : ∃ UU, (((((((W6.setCell ⟨U.heap.size, 0, none⟩ (.int .i64 0)).setCell ⟨U.heap.size, 1, none⟩ (.string ⟨#[]⟩)).setCell ⟨U.heap.size, 2, none⟩ (.int .u32 0)).setCell ⟨U.heap.size, 3, none⟩ (.int .i64 0)).setCell ⟨U.heap.size, 4, none⟩ (.string ⟨#[]⟩)).setCell ⟨U.heap.size, 5, none⟩ (.slice none 0 0)).setCell ⟨U.heap.size, 6, none⟩ (.int .i64 0)) = UU := ⟨_, rfl⟩
    rw [hU2] at hBE ⊢
    have HBE := hidM (bel HBU.out hBE)
    have hX2 := (hBE.block _ (hlt HXU.out)).trans HXU.out
    have HX2 := hidM hX2
    clear o0 o1 o2 o3 o4 o5 o6 o7 q0 q1 q2 q3 q4 q5 q6 r0 r1 r2 r3 r4 r5 r6 hrun hW6
    obtain ⟨⟨o0, o1, o2, o3, o4, o5, o6, o7⟩, -⟩ := eightC hX2
    obtain ⟨W8, hW8, hX8, hB8, -⟩ := new_box U2
    obtain ⟨⟨q0, q1, q2, q3, q4, q5, q6⟩, r0, r1, r2, r3, r4, r5, r6⟩ := sevenA hX8
    have HX8 := hidM hX8
    have HB8 := hidM hB8
    clear hU2 hBE hX2 hX8 hB8
    go_upto_region 8 with fail
    have hX9 := put_sevenA HX8.out (.int .i64 X.kind) (.string X.name) (.int .u32 X.num) (.int .i64 X.int_) (.string X.key) (.slice none 0 0) (.int .i64 X.at_)
    have hB9 := below_seven HB8.out (.int .i64 X.kind) (.string X.name) (.int .u32 X.num) (.int .i64 X.int_) (.string X.key) (.slice none 0 0) (.int .i64 X.at_)
    obtain ⟨U3, hU3⟩ : ∃ UU, (((((((W8.setCell ⟨U2.heap.size, 0, none⟩ (.int .i64 X.kind)).setCell ⟨U2.heap.size, 1, none⟩ (.string X.name)).setCell ⟨U2.heap.size, 2, none⟩ (.int .u32 X.num)).setCell ⟨U2.heap.size, 3, none⟩ (.int .i64 X.int_)).setCell ⟨U2.heap.size, 4, none⟩ (.string X.key)).setCell ⟨U2.heap.size, 5, none⟩ (.slice none 0 0)).setCell ⟨U2.heap.size, 6, none⟩ (.int .i64 X.at_)) = UU := ⟨_, rfl⟩
    rw [hU3] at hX9 hB9 ⊢
    have HB9 := hidM (bel HBE.out hB9)
    obtain ⟨O2, hO2⟩ : ∃ O, U2.heap.size = O := ⟨_, rfl⟩
    have HO2 : Hid (wr.heap.size ≤ O2) := by show _ ≤ _; rw [← hO2]; exact HBE.out.size
    have hXO := (hB9.block _ (hlt HX2.out)).trans HX2.out
    have HXO := hidM hXO
    have HNE : Hid (O ≠ O2) := by show O ≠ O2; have := hlt HX2.out; omega
    rw [hO2] at hX9 ⊢
    have HX9 := hidM hX9
    clear o0 o1 o2 o3 o4 o5 o6 o7 q0 q1 q2 q3 q4 q5 q6 r0 r1 r2 r3 r4 r5 r6 hW8
    obtain ⟨⟨q0, q1, q2, q3, q4, q5, q6⟩, r0, r1, r2, r3, r4, r5, r6⟩ := sevenA hX9
    have a6 := (((HPS.out.1).trans (HB9.out.mono HPS.out.1.size)).cell (mcell_lt H6.out)).trans H6.out
    clear hU3 hX9 hB9 hO2 hXO
    go_upto_region 9 with fail
    have hXA := put_oneA HX9.out 6 (.int .i64 A)
    simp only [List.setIfInBounds_toArray, List.set_cons_zero, List.set_cons_succ] at hXA
    have hBA := below_at HB9.out HO2.out 6 (.int .i64 A)
    have hXB := (Below.heap_setCell U3 ⟨O2, 6, none⟩ (.int .i64 A) O HNE.out).trans HXO.out
    obtain ⟨U4, hU4⟩ : ∃ U, U3.setCell ⟨O2, 6, none⟩ (.int .i64 A) = U := ⟨_, rfl⟩
    rw [hU4] at hXA hBA hXB ⊢
    clear q0 q1 q2 q3 q4 q5 q6 r0 r1 r2 r3 r4 r5 r6 a6
    obtain ⟨⟨q0, q1, q2, q3, q4, q5, q6⟩, -⟩ := sevenA hXA
    obtain ⟨⟨o0, -⟩, -⟩ := eightC hXB
    have HBA : Hid (Below wr.heap.size wr U4) := hBA
    have hbw := HPS.out.1.size
    obtain ⟨w7, hrun7, hpm7, hg7⟩ := (HPM.out.below hBA).put (by have := HM2.out; unfold maxLen; omega) (fun i hi => ⟨by have := HSW.out.1 i hi; have := HBM.out; omega, by have := HSW.out.1 i hi; have := hBA.size; omega⟩) HNS.out (x := atN X A) (p := none) (c := 0) (by show Kids _ _ (.slice none X.args.length 0) X.args; rw [HXA.out]; exact kids_none _ _)
    unfold nv at hrun7
    simp only [atN, HXA.out, List.length_nil] at hrun7
    have HF : Hid (∃ m g, PtS w (some ⟨ga, 0, none⟩) Ln c f x1 x2 w7 ∧ PM w7 bm m g S ∧ m ≤ 40000 + (j + 1) ∧ partsL A L g0 = partsL A (L.drop (j + 1)) g) := by
     have hps := HPS.out.below hBA
     have hbm := HBM.out
     refine ⟨m2 + 1, _, ⟨Below.map hps.1 hg7 hps.1.size (by omega), ?_, ?_⟩, hpm7, by have := HM2.out; omega, HPN.out⟩
     ·exact (hg7.block _ (hlt hps.2.1) (fun e => by have : w.heap.size = bm := Option.some.inj e; omega)).trans hps.2.1
     ·exact (hg7.block _ (hlt hps.2.2) (fun e => by have : w.heap.size + 1 = bm := Option.some.inj e; omega)).trans hps.2.2
    clear hU4 hXA hBA hXB hpm7 hg7 hbw
    go_wp2
    go_roundw
    case rel => exact ⟨j + 1, by omega, by go_num, HF.out⟩
    case measure => simp [intOf]; omega
  ·have : j = Ln := by omega
   subst this
   have i2 : ¬ ((j : Int) < (j : Int)) := by omega
   have HPL : Hid (partsL A L g0 = g) := by show _ = _; rw [hpl, List.drop_of_length_le (by rw [HN.out.1]; exact Nat.le_refl _)]; rfl
   have a6 := (hps.1.cell (mcell_lt H6.out)).trans H6.out
   obtain ⟨⟨u0, u1⟩, v0, v1⟩ := twoC hps.2.2
   clear hpl hps hpm hm2
   go_wp2
   refine bodyPost_ret (by simp [results, Tryz.results48, go_sem, u0, u1, v0, v1]; try rfl) rfl ?_
   have hbE := below_at (below_at HPS.out.1 (R := w.heap.size + 1) (by omega) 0 (.map (some bm))) (R := w.heap.size + 1) (by omega) 1 (.int .i64 A)
   have hbm := HBM.out
   refine ⟨bm, rfl, ⟨m2, ?_⟩, by omega, hbE⟩
   rw [HPL.out]
   exact HPM.out.off (R := w.heap.size + 1) (by omega) (fun j hj => by have := HSW.out.1 j hj; omega) (fun x hx => by rw [Below.heap_setCell _ _ _ _ hx, Below.heap_setCell _ _ _ _ hx])
end Go.Proofs.YtmiidhgbdecdkaaGreat
