import Derived.Test.YtnogokikiekcbaaPart8
/- Package sched: mayBe, Check. -/
namespace Go.Proofs.Ytnogokikiekcbaa
open Go.RowKit
set_option linter.unusedVariables false
set_option linter.unusedSimpArgs false

/-- The count of those that are left, in a box of its own. -/
def Lft (G : Nat) (n : Int) (w : World) : Prop := w.heap[G]? = some (.cells #[.int .i64 n] 3)
theorem Lft.cell {G : Nat} {n : Int} {w : World} (h : Lft G n w) : w.cell? ⟨G, 0, none⟩ = some (.int .i64 n) ∧ w.frozen? ⟨G, 0, none⟩ = false := by
  unfold Lft at h
  simp [World.cell?, World.frozen?, h]
theorem Lft.below {G : Nat} {n : Int} {w w' : World} (h : Lft G n w) (k : Below w.heap.size w w') : Lft G n w' := (k.block G (hlt h)).trans h
theorem Lft.set {G : Nat} {n m : Int} {w : World} (h : Lft G n w) : Lft G m (w.setCell ⟨G, 0, none⟩ (.int .i64 m)) := by
  unfold Lft at h ⊢
  simp [World.setCell, Array.getElem?_modify, h]

theorem may_zero (d n : Nat) (t : Sc) (h : d = 0 ∨ n = 0 ∨ fitsP t = false) : may d n t = none := by unfold may; rw [if_pos h]
theorem may_go (d n : Nat) (t : Sc) (h1 : d ≠ 0) (h2 : n ≠ 0) (h3 : fitsP t = true) : may d n t = mayL (d - 1) (n - 1) t.kids := by
  unfold may; rw [if_neg]; rw [h3]; simp; omega
theorem mayL_append : ∀ (l m : List Sc) (d n : Nat), mayL d n (l ++ m) = (mayL d n l).bind fun k => mayL d k m
  | [], m, d, n => by simp [mayL_nil]
  | t :: r, m, d, n => by
    rw [List.cons_append, mayL_cons, mayL_cons]
    cases may d n t with
    | none => rfl
    | some k => simp only [Option.bind_some]; exact mayL_append r m d k
theorem mayL_step {l : List Sc} {j : Nat} (hj : j < l.length) (d n k : Nat) (h : mayL d n (l.take j) = some k) : mayL d n (l.take (j + 1)) = may d k l[j] := by
  rw [List.take_succ_eq_append_getElem hj, mayL_append, h, Option.bind_some, mayL_cons]
  cases may d k l[j] with
  | none => rfl
  | some m => simp [mayL_nil]
theorem mayL_stop {l : List Sc} {j : Nat} (d n : Nat) (h : mayL d n (l.take j) = none) : mayL d n l = none := by
  rw [← List.take_append_drop j l, mayL_append, h]; rfl
theorem sok_kid {t : Sc} (h : sok t) {j : Nat} (hj : j < t.kids.length) : sok t.kids[j] := (sokL_iff _).1 h.2 _ (List.getElem_mem hj)

def MayA (t : Sc) : Prop := ∀ (d n : Nat) (W w : World) (b o G : Nat), d ≤ 64 → n ≤ 4096 → sok t → SA W b o t → Below W.heap.size W w → W.heap.size ≤ G → Lft G n w →
  Calls Try.prog 32 #[.pointer (some ⟨b, o, none⟩), .int .i64 (d : Int), .pointer (some ⟨G, 0, none⟩)] w fun e w' => e = .returned (.bool (may d n t).isSome) ∧ Below W.heap.size W w' ∧ ∀ m, may d n t = some m → Lft G m w'

set_option maxRecDepth 100000 in
set_option maxHeartbeats 4000000 in
theorem mayBe_to : ∀ t, MayA t := by
  apply stree
  intro t ih d n W w b o G hd hn hok hA hW hG hL
  have HIH : Hid (∀ k ∈ t.kids, MayA k) := ih
  have HA : Hid (SA W b o t) := hA
  have HOK : Hid (sok t) := hok
  obtain ⟨pn, cn, pi, ci, pk, ck, hc⟩ := hA.cells
  have HC : Hid (∀ v, Below W.heap.size W v → v.cell? ⟨b, o + 3, none⟩ = some (.slice pk t.kids.length ck)) := fun v hv => (hc v hv).2.2.2.1
  obtain ⟨g0, g1⟩ := hL.cell
  have HL : Hid (Lft G ((n : Int) - 1) (w.setCell ⟨G, 0, none⟩ (.int .i64 ((n : Int) - 1)))) := hL.set
  have HB1 : Hid (Below W.heap.size W (w.setCell ⟨G, 0, none⟩ (.int .i64 ((n : Int) - 1)))) := hW.setCell hG _
  obtain ⟨w1, hw1⟩ : ∃ w1, w.setCell ⟨G, 0, none⟩ (.int .i64 ((n : Int) - 1)) = w1 := ⟨_, rfl⟩
  rw [hw1] at HL HB1
  have hwr : IntKind.i64.wrap ((n : Int) - 1) = (n : Int) - 1 := by rw [IntKind.wrap_i64]; omega
  have hwd : IntKind.i64.wrap ((d : Int) - 1) = (d : Int) - 1 := by rw [IntKind.wrap_i64]; omega
  have q1 := HL.out.cell.1
  obtain ⟨F, hF⟩ : ∃ F, fitsP t = F := ⟨_, rfl⟩
  have HW : Hid (Calls Try.prog 64 #[.pointer (some ⟨b, o, none⟩)] w1 fun e w' => e = .returned (.bool F) ∧ Below w1.heap.size w1 w') := by
    have := fitsRow_any t b o hok.sz w1 (hA.below HB1.out)
    rw [hF] at this; exact this
  obtain ⟨N, hN⟩ : ∃ N, t.kids.length = N := ⟨_, rfl⟩
  have HN : Hid (t.kids.length = N) := hN
  rw [hN] at HC
  have HNL : N ≤ 17592186043904 := by rw [← hN]; exact hok.sz.2.2.2.2
  by_cases h1 : d = 0
  · have HR : Hid (may d n t = none) := may_zero d n t (.inl h1)
    have HR2 : Hid ((may d n t).isSome = false) := by show _ = _; rw [HR.out]; rfl
    rw [HR2.out]
    have z1 : ((d : Int) == 0) = true := by simp [h1]
    clear hc hL hA hok ih HIH hN HN h1 HR2 HW hF HA HOK
    go_enter Try.func32, Try.ntmps32
    go_wp2
    go_ret
    exact ⟨rfl, HB1.out, fun m hm => by rw [HR.out] at hm; cases hm⟩
  have z1 : ((d : Int) == 0) = false := by simp; omega
  by_cases h2 : n = 0
  · have HR : Hid (may d n t = none) := may_zero d n t (.inr (.inl h2))
    have HR2 : Hid ((may d n t).isSome = false) := by show _ = _; rw [HR.out]; rfl
    rw [HR2.out]
    have z2 : (n : Int) - 1 < 0 := by omega
    clear hc hL hA hok ih HIH hN HN h1 h2 HR2 HW hF HA HOK
    go_enter Try.func32, Try.ntmps32
    go_wp2
    go_ret
    exact ⟨rfl, HB1.out, fun m hm => by rw [HR.out] at hm; cases hm⟩
  have z2 : ¬ (n : Int) - 1 < 0 := by omega
  cases F
  · have HR : Hid (may d n t = none) := may_zero d n t (.inr (.inr hF))
    have HR2 : Hid ((may d n t).isSome = false) := by show _ = _; rw [HR.out]; rfl
    rw [HR2.out]
    clear hc hL hA hok ih HIH hN HN h1 h2 HR2 hF HA HOK
    go_enter Try.func32, Try.ntmps32
    go_wp2_with (go_at_call 64; (with_reducible refine HW.out.mono ?_); rintro e w2 ⟨rfl, hb2⟩)
    go_ret
    exact ⟨rfl, HB1.out.trans (hb2.mono HB1.out.size), fun m hm => by rw [HR.out] at hm; cases hm⟩
  · have HR : Hid (may d n t = mayL (d - 1) (n - 1) t.kids) := may_go d n t h1 h2 hF
    obtain ⟨R, hR⟩ : ∃ R, may d n t = R := ⟨_, rfl⟩
    rw [hR]
    rw [hR] at HR
    obtain ⟨d', hd'⟩ : ∃ d', d - 1 = d' := ⟨_, rfl⟩
    obtain ⟨n', hn'⟩ : ∃ n', n - 1 = n' := ⟨_, rfl⟩
    rw [hd', hn'] at HR
    have hdd : ((d : Int) - 1) = (d' : Int) := by omega
    have hnn : ((n : Int) - 1) = (n' : Int) := by omega
    rw [hnn] at HL hw1 z2 q1
    have hwr2 : IntKind.i64.wrap ((n : Int) - 1) = (n' : Int) := by rw [IntKind.wrap_i64]; omega
    clear hwr hwd
    have hdl : d' ≤ 64 := by omega
    have hnl : n' ≤ 4096 := by omega
    clear hc hL hA hok ih hN h1 h2 hF hR
    go_enter Try.func32, Try.ntmps32
    go_wp2_with (go_at_call 64; (with_reducible refine HW.out.mono ?_); rintro e w2 ⟨rfl, hb2⟩; have HB2 : Below W.heap.size W w2 := HB1.out.trans (hb2.mono HB1.out.size); have c3 := HC.out w2 HB2)
    have HL2 : Hid (Lft G (n' : Int) w2) := HL.out.below hb2
    clear c3 q1 HW HB1 HL
    go_loopw [31] (fun iv wr => Below W.heap.size W wr ∧ ∃ j k : Nat, j ≤ N ∧ iv = .int .i64 j ∧ k ≤ 4096 ∧ Hid (mayL d' n' (t.kids.take j) = some k ∧ Lft G (k : Int) wr)) (fun iv _ => N - (intOf iv).toNat)
    case atStart => exact ⟨HB2, 0, n', Nat.zero_le _, rfl, hnl, (by show _ ∧ _; exact ⟨by rw [List.take_zero, mayL_nil], HL2.out⟩)⟩
    case round =>
      obtain ⟨hb, j, k, hj, rfl, hk, HS⟩ := hrel
      have c3 := HC.out wr hb
      by_cases hlt0 : j < N
      · have hll : j < t.kids.length := by rw [HN.out]; exact hlt0
        obtain ⟨_, _, _, _, pk', ck', e0, e1, e2, e3, k1, k2, k3⟩ := HA.out.open
        have e3' := bcell e3 hb
        rw [HN.out] at e3'
        rw [c3] at e3'
        simp only [Option.some.injEq, Value.slice.injEq] at e3'
        obtain ⟨rfl, -, -⟩ := e3'
        obtain ⟨b1, o1, rfl, hsa⟩ := k3 j hll
        have hcl := HIH.out t.kids[j] (List.getElem_mem hll) d' k W wr b1 (o1 + j * 4) G hdl hk (sok_kid HOK.out hll) hsa hb hG HS.out.2
        have hst := mayL_step hll d' n' k HS.out.1
        obtain ⟨M, hM⟩ : ∃ M, may d' k t.kids[j] = M := ⟨_, rfl⟩
        rw [hM] at hcl hst
        have HCL : Hid (Calls Try.prog 32 #[.pointer (some ⟨b1, o1 + j * 4, none⟩), .int .i64 (d' : Int), .pointer (some ⟨G, 0, none⟩)] wr fun e w' => e = .returned (.bool M.isSome) ∧ Below W.heap.size W w' ∧ ∀ m, M = some m → Lft G m w') := hcl
        have hwd2 : IntKind.i64.wrap ((d : Int) - 1) = (d' : Int) := by rw [IntKind.wrap_i64]; omega
        have i1 : (0 : Int) ≤ (j : Int) := by omega
        have i2 : (j : Int) < (N : Int) := by omega
        cases M with
        | none =>
          have HX : Hid (R = none) := by show R = none; rw [HR.out, mayL_stop d' n' (hst)]
          have HX2 : Hid (R.isSome = false) := by show _ = _; rw [HX.out]; rfl
          rw [Option.isSome_none] at HCL
          clear hcl hst hM HIH HS HR k1 k2 k3 hsa e0 e1 e2 e3 HA HOK
          go_wp2_with (go_at_call 32; (with_reducible refine HCL.out.mono ?_); rintro e w3 ⟨rfl, hb3, hb4⟩)
          go_ret
          exact ⟨ret_bool HX2.out.symm, hb3, fun m hm => by rw [HX.out] at hm; cases hm⟩
        | some m =>
          have HX : Hid (mayL d' n' (t.kids.take (j + 1)) = some m) := hst
          have hmk : m ≤ 4096 := by have := may_le hM; omega
          rw [Option.isSome_some] at HCL
          clear hcl hst hM HIH HS HR k1 k2 k3 hsa e0 e1 e2 e3 HA HOK
          go_wp2_with (go_at_call 32; (with_reducible refine HCL.out.mono ?_); rintro e w3 ⟨rfl, hb3, hb4⟩)
          have HL3 : Hid (Lft G (m : Int) w3) := hb4 m rfl
          go_roundw
          case rel => exact ⟨hb3, j + 1, m, by omega, by go_num, hmk, ⟨HX.out, HL3.out⟩⟩
          case measure => simp [intOf]; omega
      · have : j = N := by omega
        subst this
        have HX : Hid (R = some k) := by
          show R = some k
          have := HS.out.1
          rw [List.take_of_length_le (by rw [HN.out]; exact Nat.le_refl _)] at this
          rw [HR.out, this]
        have HX2 : Hid (R.isSome = true) := by show _ = _; rw [HX.out]; rfl
        clear HIH HR
        go_wp2
        go_ret
        exact ⟨ret_bool HX2.out.symm, hb, fun m hm => by rw [HX.out] at hm; cases hm; exact HS.out.2⟩

/-- A schedule may be. -/
def okS (t : Sc) : Bool := (may 64 4096 t).isSome

set_option maxRecDepth 100000 in
set_option maxHeartbeats 1000000 in
theorem check_any (t : Sc) (a c d : Value) (hok : sok t) (w : World) (h : SV w t a c d) :
    Calls Try.prog 14 #[.agg #[.int .i64 t.op, a, c, d]] w fun e w' => e = .returned (.int .i64 (if okS t = true then 0 else 1)) ∧ Below w.heap.size w w' := by
  have hbx := h.box
  have hb0 := bel_alloc w (.cells #[.int .i64 t.op, a, c, d] 26)
  obtain ⟨w1, hw1⟩ : ∃ w1, w.alloc (.cells #[.int .i64 t.op, a, c, d] 26) = w1 := ⟨_, rfl⟩
  rw [hw1] at hbx hb0
  have hs1 : w1.heap.size = w.heap.size + 1 := by rw [← hw1]; simp
  have hL : Lft w1.heap.size 4096 (w1.alloc (.cells #[.int .i64 4096] 3)) := box_heap w1 _
  have hcl := mayBe_to t 64 4096 w1 (w1.alloc (.cells #[.int .i64 4096] 3)) w.heap.size 0 w1.heap.size (Nat.le_refl _) (Nat.le_refl _) hok hbx (bel_alloc _ _) (Nat.le_refl _) hL
  rw [← hw1] at hcl
  rw [show (may 64 4096 t).isSome = okS t from rfl] at hcl
  obtain ⟨K, hK⟩ : ∃ K, okS t = K := ⟨_, rfl⟩
  rw [hK] at hcl ⊢
  rw [hw1] at hcl
  have HW : Hid (Calls Try.prog 32 #[.pointer (some ⟨w.heap.size, 0, none⟩), .int .i64 64, .pointer (some ⟨w.heap.size + 1, 0, none⟩)] (w1.alloc (.cells #[.int .i64 4096] 3)) fun e w' => e = .returned (.bool K) ∧ Below w.heap.size w w') := by rw [← hs1]; exact hcl.mono fun e w' ⟨he, hb, _⟩ => ⟨he, hb0.trans (hb.mono hb0.size)⟩
  rw [← hw1] at HW
  clear hcl hK hL hbx hb0 h hs1 hw1
  cases K
  · go_enter Try.func14, Try.ntmps14
    go_wp2_with (go_at_call 32; (with_reducible refine HW.out.mono ?_); rintro e w2 ⟨rfl, hb2⟩)
    go_ret
    exact ⟨rfl, hb2⟩
  · go_enter Try.func14, Try.ntmps14
    go_wp2_with (go_at_call 32; (with_reducible refine HW.out.mono ?_); rintro e w2 ⟨rfl, hb2⟩)
    go_ret
    exact ⟨rfl, hb2⟩

end Go.Proofs.Ytnogokikiekcbaa
/- Package sched: the values of polynomials, exponentials, cosines, inverses. -/
namespace Go.Proofs.Ytnogokikiekcbaa
open Go.RowKit
set_option linter.unusedVariables false
set_option linter.unusedSimpArgs false

theorem ratio_any (a b : Int) (ha : -9223372036854775808 ≤ a ∧ a ≤ 9223372036854775807) (hb : -9223372036854775808 ≤ b ∧ b ≤ 9223372036854775807) (w : World) :
    Calls Try.prog 72 #[.int .i64 a, .int .i64 b] w fun e w' => e = .returned (.int .u32 (rat a b)) ∧ Below w.heap.size w w' := by
  have HB : Below w.heap.size w w := bel0 w
  go_enter Try.func72, Try.ntmps72
  go_wp2_with (first
    | (go_at_call 86; refine (f_from (by with_reducible assumption) _).mono ?_; rintro e wx ⟨rfl, hbx⟩; have HB : Below w.heap.size w wx := (by first | exact bel HB hbx | exact bel (by go_grown) hbx))
    | (go_at_call 85; refine (f_div (by with_reducible first | assumption | exact pat_add _ _ | exact pat_sub _ _ | exact pat_mul _ _ | exact pat_div _ _ | exact pat_sqrt _ | exact pat_from _ | exact pat_rat _ _ | exact pat_qrt _ | exact pat_qrN _ _ | exact pat_0 | exact pat_1 | exact pat_h) (by with_reducible first | assumption | exact pat_add _ _ | exact pat_sub _ _ | exact pat_mul _ _ | exact pat_div _ _ | exact pat_sqrt _ | exact pat_from _ | exact pat_rat _ _ | exact pat_qrt _ | exact pat_qrN _ _ | exact pat_0 | exact pat_1 | exact pat_h) _).mono ?_; rintro e wx ⟨rfl, hbx⟩; have HB : Below w.heap.size w wx := (by first | exact bel HB hbx | exact bel (by go_grown) hbx)))
  go_ret
  exact ⟨rfl, HB⟩

theorem cells_2_3 {w : World} {b o : Nat} {op : Int} {n0 n1 i0 i1 i2 : Int} {ks : List Sc} (h : SA w b o ⟨op, [n0, n1], [i0, i1, i2], ks⟩) : ∃ b1 o1 c1 b2 o2 c2, ∀ v, Below w.heap.size w v → v.cell? ⟨b, o, none⟩ = some (.int .i64 op) ∧ v.cell? ⟨b, o + 1, none⟩ = some (.slice (some ⟨b1, o1, none⟩) 2 c1) ∧ v.cell? ⟨b, o + 2, none⟩ = some (.slice (some ⟨b2, o2, none⟩) 3 c2) ∧ v.cell? ⟨b1, o1, none⟩ = some (.int .u32 n0) ∧ v.cell? ⟨b1, o1 + 1, none⟩ = some (.int .u32 n1) ∧ v.cell? ⟨b2, o2, none⟩ = some (.int .i64 i0) ∧ v.cell? ⟨b2, o2 + 1, none⟩ = some (.int .i64 i1) ∧ v.cell? ⟨b2, o2 + 2, none⟩ = some (.int .i64 i2) := by
  obtain ⟨pn, cn, pi, ci, pk, ck, hc⟩ := h.cells
  have r1 := (hc w (bel0 w)).2.2.2.2.1
  have r2 := (hc w (bel0 w)).2.2.2.2.2
  obtain ⟨b1, o1, rfl, -⟩ := r1.get (i := 0) (by simp)
  obtain ⟨b2, o2, rfl, -⟩ := r2.get (i := 0) (by simp)
  refine ⟨b1, o1, cn, b2, o2, ci, fun v hv => ⟨(hc v hv).1, (hc v hv).2.1, (hc v hv).2.2.1, ?_, ?_, ?_, ?_, ?_⟩⟩
  · obtain ⟨b', o', e, h'⟩ := r1.get (i := 0) (by simp)
    simp only [Option.some.injEq, Addr.mk.injEq] at e
    obtain ⟨rfl, rfl, -⟩ := e
    exact bcell h' hv
  · obtain ⟨b', o', e, h'⟩ := r1.get (i := 1) (by simp)
    simp only [Option.some.injEq, Addr.mk.injEq] at e
    obtain ⟨rfl, rfl, -⟩ := e
    exact bcell h' hv
  · obtain ⟨b', o', e, h'⟩ := r2.get (i := 0) (by simp)
    simp only [Option.some.injEq, Addr.mk.injEq] at e
    obtain ⟨rfl, rfl, -⟩ := e
    exact bcell h' hv
  · obtain ⟨b', o', e, h'⟩ := r2.get (i := 1) (by simp)
    simp only [Option.some.injEq, Addr.mk.injEq] at e
    obtain ⟨rfl, rfl, -⟩ := e
    exact bcell h' hv
  · obtain ⟨b', o', e, h'⟩ := r2.get (i := 2) (by simp)
    simp only [Option.some.injEq, Addr.mk.injEq] at e
    obtain ⟨rfl, rfl, -⟩ := e
    exact bcell h' hv

theorem cells_2_2 {w : World} {b o : Nat} {op : Int} {n0 n1 i0 i1 : Int} {ks : List Sc} (h : SA w b o ⟨op, [n0, n1], [i0, i1], ks⟩) : ∃ b1 o1 c1 b2 o2 c2, ∀ v, Below w.heap.size w v → v.cell? ⟨b, o, none⟩ = some (.int .i64 op) ∧ v.cell? ⟨b, o + 1, none⟩ = some (.slice (some ⟨b1, o1, none⟩) 2 c1) ∧ v.cell? ⟨b, o + 2, none⟩ = some (.slice (some ⟨b2, o2, none⟩) 2 c2) ∧ v.cell? ⟨b1, o1, none⟩ = some (.int .u32 n0) ∧ v.cell? ⟨b1, o1 + 1, none⟩ = some (.int .u32 n1) ∧ v.cell? ⟨b2, o2, none⟩ = some (.int .i64 i0) ∧ v.cell? ⟨b2, o2 + 1, none⟩ = some (.int .i64 i1) := by
  obtain ⟨pn, cn, pi, ci, pk, ck, hc⟩ := h.cells
  have r1 := (hc w (bel0 w)).2.2.2.2.1
  have r2 := (hc w (bel0 w)).2.2.2.2.2
  obtain ⟨b1, o1, rfl, -⟩ := r1.get (i := 0) (by simp)
  obtain ⟨b2, o2, rfl, -⟩ := r2.get (i := 0) (by simp)
  refine ⟨b1, o1, cn, b2, o2, ci, fun v hv => ⟨(hc v hv).1, (hc v hv).2.1, (hc v hv).2.2.1, ?_, ?_, ?_, ?_⟩⟩
  · obtain ⟨b', o', e, h'⟩ := r1.get (i := 0) (by simp)
    simp only [Option.some.injEq, Addr.mk.injEq] at e
    obtain ⟨rfl, rfl, -⟩ := e
    exact bcell h' hv
  · obtain ⟨b', o', e, h'⟩ := r1.get (i := 1) (by simp)
    simp only [Option.some.injEq, Addr.mk.injEq] at e
    obtain ⟨rfl, rfl, -⟩ := e
    exact bcell h' hv
  · obtain ⟨b', o', e, h'⟩ := r2.get (i := 0) (by simp)
    simp only [Option.some.injEq, Addr.mk.injEq] at e
    obtain ⟨rfl, rfl, -⟩ := e
    exact bcell h' hv
  · obtain ⟨b', o', e, h'⟩ := r2.get (i := 1) (by simp)
    simp only [Option.some.injEq, Addr.mk.injEq] at e
    obtain ⟨rfl, rfl, -⟩ := e
    exact bcell h' hv

theorem cells_2_1 {w : World} {b o : Nat} {op : Int} {n0 n1 i0 : Int} {ks : List Sc} (h : SA w b o ⟨op, [n0, n1], [i0], ks⟩) : ∃ b1 o1 c1 b2 o2 c2, ∀ v, Below w.heap.size w v → v.cell? ⟨b, o, none⟩ = some (.int .i64 op) ∧ v.cell? ⟨b, o + 1, none⟩ = some (.slice (some ⟨b1, o1, none⟩) 2 c1) ∧ v.cell? ⟨b, o + 2, none⟩ = some (.slice (some ⟨b2, o2, none⟩) 1 c2) ∧ v.cell? ⟨b1, o1, none⟩ = some (.int .u32 n0) ∧ v.cell? ⟨b1, o1 + 1, none⟩ = some (.int .u32 n1) ∧ v.cell? ⟨b2, o2, none⟩ = some (.int .i64 i0) := by
  obtain ⟨pn, cn, pi, ci, pk, ck, hc⟩ := h.cells
  have r1 := (hc w (bel0 w)).2.2.2.2.1
  have r2 := (hc w (bel0 w)).2.2.2.2.2
  obtain ⟨b1, o1, rfl, -⟩ := r1.get (i := 0) (by simp)
  obtain ⟨b2, o2, rfl, -⟩ := r2.get (i := 0) (by simp)
  refine ⟨b1, o1, cn, b2, o2, ci, fun v hv => ⟨(hc v hv).1, (hc v hv).2.1, (hc v hv).2.2.1, ?_, ?_, ?_⟩⟩
  · obtain ⟨b', o', e, h'⟩ := r1.get (i := 0) (by simp)
    simp only [Option.some.injEq, Addr.mk.injEq] at e
    obtain ⟨rfl, rfl, -⟩ := e
    exact bcell h' hv
  · obtain ⟨b', o', e, h'⟩ := r1.get (i := 1) (by simp)
    simp only [Option.some.injEq, Addr.mk.injEq] at e
    obtain ⟨rfl, rfl, -⟩ := e
    exact bcell h' hv
  · obtain ⟨b', o', e, h'⟩ := r2.get (i := 0) (by simp)
    simp only [Option.some.injEq, Addr.mk.injEq] at e
    obtain ⟨rfl, rfl, -⟩ := e
    exact bcell h' hv

theorem cells_1_1 {w : World} {b o : Nat} {op : Int} {n0 i0 : Int} {ks : List Sc} (h : SA w b o ⟨op, [n0], [i0], ks⟩) : ∃ b1 o1 c1 b2 o2 c2, ∀ v, Below w.heap.size w v → v.cell? ⟨b, o, none⟩ = some (.int .i64 op) ∧ v.cell? ⟨b, o + 1, none⟩ = some (.slice (some ⟨b1, o1, none⟩) 1 c1) ∧ v.cell? ⟨b, o + 2, none⟩ = some (.slice (some ⟨b2, o2, none⟩) 1 c2) ∧ v.cell? ⟨b1, o1, none⟩ = some (.int .u32 n0) ∧ v.cell? ⟨b2, o2, none⟩ = some (.int .i64 i0) := by
  obtain ⟨pn, cn, pi, ci, pk, ck, hc⟩ := h.cells
  have r1 := (hc w (bel0 w)).2.2.2.2.1
  have r2 := (hc w (bel0 w)).2.2.2.2.2
  obtain ⟨b1, o1, rfl, -⟩ := r1.get (i := 0) (by simp)
  obtain ⟨b2, o2, rfl, -⟩ := r2.get (i := 0) (by simp)
  refine ⟨b1, o1, cn, b2, o2, ci, fun v hv => ⟨(hc v hv).1, (hc v hv).2.1, (hc v hv).2.2.1, ?_, ?_⟩⟩
  · obtain ⟨b', o', e, h'⟩ := r1.get (i := 0) (by simp)
    simp only [Option.some.injEq, Addr.mk.injEq] at e
    obtain ⟨rfl, rfl, -⟩ := e
    exact bcell h' hv
  · obtain ⟨b', o', e, h'⟩ := r2.get (i := 0) (by simp)
    simp only [Option.some.injEq, Addr.mk.injEq] at e
    obtain ⟨rfl, rfl, -⟩ := e
    exact bcell h' hv

set_option maxRecDepth 100000 in
set_option maxHeartbeats 2000000 in
theorem poly_any (n0 n1 i0 i1 i2 n : Int) (ks : List Sc) (hp : ∀ x ∈ [n0, n1], Pat x) (hn : 0 ≤ n ∧ n ≤ 2147483647) (hq : 1 ≤ i0 ∧ i0 ≤ 1024) (hs : 1 ≤ i1 ∧ i1 ≤ 2147483647) (hg : 0 ≤ i2 ∧ i2 ≤ 2147483647) (b o : Nat) (w : World) (h : SA w b o ⟨2, [n0, n1], [i0, i1, i2], ks⟩) :
    Calls Try.prog 51 #[.pointer (some ⟨b, o, none⟩), .int .i64 n] w fun e w' => e = .returned (.int .u32 (polyV n0 n1 i0 i1 i2 n)) ∧ Below w.heap.size w w' := by
  have HB : Below w.heap.size w w := bel0 w
  obtain ⟨b1, o1, k1, b2, o2, k2, hc⟩ := cells_2_3 h
  have HC : Hid (∀ v, Below w.heap.size w v → _) := hc
  have pn0 : Pat n0 := hp _ (by simp)
  have pn1 : Pat n1 := hp _ (by simp)
  obtain ⟨c0, c1, c2, d0, d1, g0, g1, g2⟩ := hc w HB
  clear h hc hp
  have w1 : IntKind.i64.wrap (n - i2) = n - i2 := by rw [IntKind.wrap_i64]; omega
  obtain ⟨M, hM⟩ : ∃ M, min (max (n - i2) 0) i1 = M := ⟨_, rfl⟩
  have hMb : 0 ≤ M ∧ M ≤ 2147483647 := by omega
  have HV : Hid (polyV n0 n1 i0 i1 i2 n = fadd (fmul (fsub n0 n1) (fpow (fsub 1065353216 (rat M i1)) i0)) n1) := by show _ = _; unfold polyV; rw [hM]
  rw [HV.out]
  clear HV
  have hpw := pat_pow i0 (pat_sub 1065353216 (rat M i1))
  go_enter Try.func51, Try.ntmps51
  go_wp2
  go_region_held3 (fun w' => w'.cell? ⟨b, o + 1, none⟩ = some (.slice (some ⟨b1, o1, none⟩) 2 k1) ∧ w'.cell? ⟨b, o + 2, none⟩ = some (.slice (some ⟨b2, o2, none⟩) 3 k2) ∧ w'.cell? ⟨b1, o1, none⟩ = some (.int .u32 n0) ∧ w'.cell? ⟨b1, o1 + 1, none⟩ = some (.int .u32 n1) ∧ w'.cell? ⟨b2, o2, none⟩ = some (.int .i64 i0) ∧ w'.cell? ⟨b2, o2 + 1, none⟩ = some (.int .i64 i1) ∧ w'.cell? ⟨b2, o2 + 2, none⟩ = some (.int .i64 i2)) (go_keep) (fail)
  clear c0 c1 c2 d0 d1 g0 g1 g2
  obtain ⟨c0, c1, c2, d0, d1, g0, g1, g2⟩ := HC.out w.drew (bel_d w)
  go_wp2
  go_region_held3 (fun w' => w'.cell? ⟨b, o + 1, none⟩ = some (.slice (some ⟨b1, o1, none⟩) 2 k1) ∧ w'.cell? ⟨b, o + 2, none⟩ = some (.slice (some ⟨b2, o2, none⟩) 3 k2) ∧ w'.cell? ⟨b1, o1, none⟩ = some (.int .u32 n0) ∧ w'.cell? ⟨b1, o1 + 1, none⟩ = some (.int .u32 n1) ∧ w'.cell? ⟨b2, o2, none⟩ = some (.int .i64 i0) ∧ w'.cell? ⟨b2, o2 + 1, none⟩ = some (.int .i64 i1) ∧ w'.cell? ⟨b2, o2 + 2, none⟩ = some (.int .i64 i2)) (go_keep) (fail)
  clear c0 c1 c2 d0 d1 g0 g1 g2
  clear HB
  have HB : Below w.heap.size w w.drew.drew := bel (bel_d w) (bel_d _)
  go_wp2_with (first
    | (go_at_call 72; (refine (ratio_any _ _ (by constructor <;> omega) (by constructor <;> omega) _).mono ?_); rintro e wx ⟨rfl, hbx⟩; have HB : Below w.heap.size w wx := (by first | exact bel HB hbx | exact bel (by go_grown) hbx))
    | (go_at_call 73; refine (f_pow (by with_reducible first | assumption | exact pat_add _ _ | exact pat_sub _ _ | exact pat_mul _ _ | exact pat_div _ _ | exact pat_sqrt _ | exact pat_from _ | exact pat_rat _ _ | exact pat_qrt _ | exact pat_qrN _ _ | exact pat_0 | exact pat_1 | exact pat_h) (by constructor <;> omega) _).mono ?_; rintro e wx ⟨rfl, hbx⟩; have HB : Below w.heap.size w wx := (by first | exact bel HB hbx | exact bel (by go_grown) hbx))
    | (go_at_call 39; refine (f_sub (by with_reducible first | assumption | exact pat_add _ _ | exact pat_sub _ _ | exact pat_mul _ _ | exact pat_div _ _ | exact pat_sqrt _ | exact pat_from _ | exact pat_rat _ _ | exact pat_qrt _ | exact pat_qrN _ _ | exact pat_0 | exact pat_1 | exact pat_h) (by with_reducible first | assumption | exact pat_add _ _ | exact pat_sub _ _ | exact pat_mul _ _ | exact pat_div _ _ | exact pat_sqrt _ | exact pat_from _ | exact pat_rat _ _ | exact pat_qrt _ | exact pat_qrN _ _ | exact pat_0 | exact pat_1 | exact pat_h) _).mono ?_; rintro e wx ⟨rfl, hbx⟩; have HB : Below w.heap.size w wx := (by first | exact bel HB hbx | exact bel (by go_grown) hbx))
    | (go_at_call 59; refine (f_mul (by with_reducible first | assumption | exact pat_add _ _ | exact pat_sub _ _ | exact pat_mul _ _ | exact pat_div _ _ | exact pat_sqrt _ | exact pat_from _ | exact pat_rat _ _ | exact pat_qrt _ | exact pat_qrN _ _ | exact pat_0 | exact pat_1 | exact pat_h) (by with_reducible first | assumption | exact pat_add _ _ | exact pat_sub _ _ | exact pat_mul _ _ | exact pat_div _ _ | exact pat_sqrt _ | exact pat_from _ | exact pat_rat _ _ | exact pat_qrt _ | exact pat_qrN _ _ | exact pat_0 | exact pat_1 | exact pat_h) _).mono ?_; rintro e wx ⟨rfl, hbx⟩; have HB : Below w.heap.size w wx := (by first | exact bel HB hbx | exact bel (by go_grown) hbx))
    | (go_at_call 58; refine (f_add (by with_reducible first | assumption | exact pat_add _ _ | exact pat_sub _ _ | exact pat_mul _ _ | exact pat_div _ _ | exact pat_sqrt _ | exact pat_from _ | exact pat_rat _ _ | exact pat_qrt _ | exact pat_qrN _ _ | exact pat_0 | exact pat_1 | exact pat_h) (by with_reducible first | assumption | exact pat_add _ _ | exact pat_sub _ _ | exact pat_mul _ _ | exact pat_div _ _ | exact pat_sqrt _ | exact pat_from _ | exact pat_rat _ _ | exact pat_qrt _ | exact pat_qrN _ _ | exact pat_0 | exact pat_1 | exact pat_h) _).mono ?_; rintro e wx ⟨rfl, hbx⟩; have HB : Below w.heap.size w wx := (by first | exact bel HB hbx | exact bel (by go_grown) hbx)))
  go_ret
  exact ⟨rfl, HB⟩

set_option maxRecDepth 100000 in
set_option maxHeartbeats 2000000 in
theorem expo_any (n0 n1 i0 i1 n : Int) (ks : List Sc) (hp : ∀ x ∈ [n0, n1], Pat x) (hn : 0 ≤ n ∧ n ≤ 2147483647) (hs : 1 ≤ i0 ∧ i0 ≤ 2147483647) (hg : 0 ≤ i1 ∧ i1 ≤ 2147483647) (b o : Nat) (w : World) (h : SA w b o ⟨3, [n0, n1], [i0, i1], ks⟩) :
    Calls Try.prog 52 #[.pointer (some ⟨b, o, none⟩), .int .i64 n] w fun e w' => e = .returned (.int .u32 (expoV n0 n1 i0 i1 n)) ∧ Below w.heap.size w w' := by
  have HB : Below w.heap.size w w := bel0 w
  obtain ⟨b1, o1, k1, b2, o2, k2, hc⟩ := cells_2_2 h
  have HC : Hid (∀ v, Below w.heap.size w v → _) := hc
  have pn0 : Pat n0 := hp _ (by simp)
  have pn1 : Pat n1 := hp _ (by simp)
  obtain ⟨c0, c1, c2, d0, d1, g0, g1⟩ := hc w HB
  clear h hc hp
  have w1 : IntKind.i64.wrap (n - i1) = n - i1 := by rw [IntKind.wrap_i64]; omega
  obtain ⟨M, hM⟩ : ∃ M, max (n - i1) 0 = M := ⟨_, rfl⟩
  have hMb : 0 ≤ M ∧ M ≤ 2147483647 := by omega
  have hq1 : Int.tdiv M i0 = M / i0 := Int.tdiv_eq_ediv_of_nonneg hMb.1
  have hq2 : 0 ≤ M / i0 ∧ M / i0 ≤ 2147483647 := ⟨Int.ediv_nonneg hMb.1 (by omega), Int.le_trans (Int.ediv_le_self _ hMb.1) hMb.2⟩
  obtain ⟨Q, hQ⟩ : ∃ Q, M / i0 = Q := ⟨_, rfl⟩
  have HV : Hid (expoV n0 n1 i0 i1 n = fmul n0 (fpow n1 Q)) := by show _ = _; unfold expoV; rw [hM, hQ]
  rw [hQ] at hq1 hq2
  have w2 : IntKind.i64.wrap Q = Q := by rw [IntKind.wrap_i64]; omega
  have z1 : (i0 == 0) = false := by simp; omega
  rw [HV.out]
  clear HV hQ
  have hpw := pat_pow Q pn1
  go_enter Try.func52, Try.ntmps52
  go_wp2
  go_region_held3 (fun w' => w'.cell? ⟨b, o + 1, none⟩ = some (.slice (some ⟨b1, o1, none⟩) 2 k1) ∧ w'.cell? ⟨b, o + 2, none⟩ = some (.slice (some ⟨b2, o2, none⟩) 2 k2) ∧ w'.cell? ⟨b1, o1, none⟩ = some (.int .u32 n0) ∧ w'.cell? ⟨b1, o1 + 1, none⟩ = some (.int .u32 n1) ∧ w'.cell? ⟨b2, o2, none⟩ = some (.int .i64 i0) ∧ w'.cell? ⟨b2, o2 + 1, none⟩ = some (.int .i64 i1)) (go_keep) (fail)
  clear c0 c1 c2 d0 d1 g0 g1
  obtain ⟨c0, c1, c2, d0, d1, g0, g1⟩ := HC.out w.drew (bel_d w)
  go_wp2
  go_region_held3 (fun w' => w'.cell? ⟨b, o + 1, none⟩ = some (.slice (some ⟨b1, o1, none⟩) 2 k1) ∧ w'.cell? ⟨b, o + 2, none⟩ = some (.slice (some ⟨b2, o2, none⟩) 2 k2) ∧ w'.cell? ⟨b1, o1, none⟩ = some (.int .u32 n0) ∧ w'.cell? ⟨b1, o1 + 1, none⟩ = some (.int .u32 n1) ∧ w'.cell? ⟨b2, o2, none⟩ = some (.int .i64 i0) ∧ w'.cell? ⟨b2, o2 + 1, none⟩ = some (.int .i64 i1)) (go_keep) (fail)
  clear c0 c1 c2 d0 d1 g0 g1
  clear HB
  have HB : Below w.heap.size w w.drew.drew := bel (bel_d w) (bel_d _)
  go_wp2_with (first
    | (go_at_call 73; refine (f_pow (by with_reducible first | assumption | exact pat_add _ _ | exact pat_sub _ _ | exact pat_mul _ _ | exact pat_div _ _ | exact pat_sqrt _ | exact pat_from _ | exact pat_rat _ _ | exact pat_qrt _ | exact pat_qrN _ _ | exact pat_0 | exact pat_1 | exact pat_h) (by constructor <;> omega) _).mono ?_; rintro e wx ⟨rfl, hbx⟩; have HB : Below w.heap.size w wx := (by first | exact bel HB hbx | exact bel (by go_grown) hbx))
    | (go_at_call 59; refine (f_mul (by with_reducible first | assumption | exact pat_add _ _ | exact pat_sub _ _ | exact pat_mul _ _ | exact pat_div _ _ | exact pat_sqrt _ | exact pat_from _ | exact pat_rat _ _ | exact pat_qrt _ | exact pat_qrN _ _ | exact pat_0 | exact pat_1 | exact pat_h) (by with_reducible first | assumption | exact pat_add _ _ | exact pat_sub _ _ | exact pat_mul _ _ | exact pat_div _ _ | exact pat_sqrt _ | exact pat_from _ | exact pat_rat _ _ | exact pat_qrt _ | exact pat_qrN _ _ | exact pat_0 | exact pat_1 | exact pat_h) _).mono ?_; rintro e wx ⟨rfl, hbx⟩; have HB : Below w.heap.size w wx := (by first | exact bel HB hbx | exact bel (by go_grown) hbx)))
  go_ret
  exact ⟨rfl, HB⟩

set_option maxRecDepth 100000 in
set_option maxHeartbeats 2000000 in
theorem cos_any (n0 n1 i0 n : Int) (ks : List Sc) (hp : ∀ x ∈ [n0, n1], Pat x) (hn : 0 ≤ n ∧ n ≤ 2147483647) (hs : 1 ≤ i0 ∧ i0 ≤ 2147483647) (b o : Nat) (w : World) (h : SA w b o ⟨4, [n0, n1], [i0], ks⟩) :
    Calls Try.prog 53 #[.pointer (some ⟨b, o, none⟩), .int .i64 n] w fun e w' => e = .returned (.int .u32 (cosV n0 n1 i0 n)) ∧ Below w.heap.size w w' := by
  have HB : Below w.heap.size w w := bel0 w
  obtain ⟨b1, o1, k1, b2, o2, k2, hc⟩ := cells_2_1 h
  have HC : Hid (∀ v, Below w.heap.size w v → _) := hc
  have pn0 : Pat n0 := hp _ (by simp)
  have pn1 : Pat n1 := hp _ (by simp)
  obtain ⟨c0, c1, c2, d0, d1, g0⟩ := hc w HB
  clear h hc hp
  obtain ⟨M, hM⟩ : ∃ M, min n i0 = M := ⟨_, rfl⟩
  have hMb : 0 ≤ M ∧ M ≤ 2147483647 := by omega
  have HV : Hid (cosV n0 n1 i0 n = fmul (fadd (fmul (fsub 1065353216 n1) (fmul 1056964608 (fadd 1065353216 (wave (rat M i0))))) n1) n0) := by show _ = _; unfold cosV; rw [hM]
  rw [HV.out]
  clear HV
  have hpw := pat_wave (pat_rat M i0)
  go_enter Try.func53, Try.ntmps53
  go_wp2
  go_region_held3 (fun w' => w'.cell? ⟨b, o + 1, none⟩ = some (.slice (some ⟨b1, o1, none⟩) 2 k1) ∧ w'.cell? ⟨b, o + 2, none⟩ = some (.slice (some ⟨b2, o2, none⟩) 1 k2) ∧ w'.cell? ⟨b1, o1, none⟩ = some (.int .u32 n0) ∧ w'.cell? ⟨b1, o1 + 1, none⟩ = some (.int .u32 n1) ∧ w'.cell? ⟨b2, o2, none⟩ = some (.int .i64 i0)) (go_keep) (fail)
  clear c0 c1 c2 d0 d1 g0
  obtain ⟨c0, c1, c2, d0, d1, g0⟩ := HC.out w.drew (bel_d w)
  clear HB
  have HB : Below w.heap.size w w.drew := bel_d w
  go_wp2_with (first
    | (go_at_call 72; (refine (ratio_any _ _ (by constructor <;> omega) (by constructor <;> omega) _).mono ?_); rintro e wx ⟨rfl, hbx⟩; have HB : Below w.heap.size w wx := (by first | exact bel HB hbx | exact bel (by go_grown) hbx))
    | (go_at_call 17; refine (wave_any _ (by with_reducible first | assumption | exact pat_add _ _ | exact pat_sub _ _ | exact pat_mul _ _ | exact pat_div _ _ | exact pat_sqrt _ | exact pat_from _ | exact pat_rat _ _ | exact pat_qrt _ | exact pat_qrN _ _ | exact pat_0 | exact pat_1 | exact pat_h) _).mono ?_; rintro e wx ⟨rfl, hbx⟩; have HB : Below w.heap.size w wx := (by first | exact bel HB hbx | exact bel (by go_grown) hbx))
    | (go_at_call 39; refine (f_sub (by with_reducible first | assumption | exact pat_add _ _ | exact pat_sub _ _ | exact pat_mul _ _ | exact pat_div _ _ | exact pat_sqrt _ | exact pat_from _ | exact pat_rat _ _ | exact pat_qrt _ | exact pat_qrN _ _ | exact pat_0 | exact pat_1 | exact pat_h) (by with_reducible first | assumption | exact pat_add _ _ | exact pat_sub _ _ | exact pat_mul _ _ | exact pat_div _ _ | exact pat_sqrt _ | exact pat_from _ | exact pat_rat _ _ | exact pat_qrt _ | exact pat_qrN _ _ | exact pat_0 | exact pat_1 | exact pat_h) _).mono ?_; rintro e wx ⟨rfl, hbx⟩; have HB : Below w.heap.size w wx := (by first | exact bel HB hbx | exact bel (by go_grown) hbx))
    | (go_at_call 59; refine (f_mul (by with_reducible first | assumption | exact pat_add _ _ | exact pat_sub _ _ | exact pat_mul _ _ | exact pat_div _ _ | exact pat_sqrt _ | exact pat_from _ | exact pat_rat _ _ | exact pat_qrt _ | exact pat_qrN _ _ | exact pat_0 | exact pat_1 | exact pat_h) (by with_reducible first | assumption | exact pat_add _ _ | exact pat_sub _ _ | exact pat_mul _ _ | exact pat_div _ _ | exact pat_sqrt _ | exact pat_from _ | exact pat_rat _ _ | exact pat_qrt _ | exact pat_qrN _ _ | exact pat_0 | exact pat_1 | exact pat_h) _).mono ?_; rintro e wx ⟨rfl, hbx⟩; have HB : Below w.heap.size w wx := (by first | exact bel HB hbx | exact bel (by go_grown) hbx))
    | (go_at_call 58; refine (f_add (by with_reducible first | assumption | exact pat_add _ _ | exact pat_sub _ _ | exact pat_mul _ _ | exact pat_div _ _ | exact pat_sqrt _ | exact pat_from _ | exact pat_rat _ _ | exact pat_qrt _ | exact pat_qrN _ _ | exact pat_0 | exact pat_1 | exact pat_h) (by with_reducible first | assumption | exact pat_add _ _ | exact pat_sub _ _ | exact pat_mul _ _ | exact pat_div _ _ | exact pat_sqrt _ | exact pat_from _ | exact pat_rat _ _ | exact pat_qrt _ | exact pat_qrN _ _ | exact pat_0 | exact pat_1 | exact pat_h) _).mono ?_; rintro e wx ⟨rfl, hbx⟩; have HB : Below w.heap.size w wx := (by first | exact bel HB hbx | exact bel (by go_grown) hbx)))
  go_ret
  exact ⟨rfl, HB⟩

set_option maxRecDepth 100000 in
set_option maxHeartbeats 2000000 in
theorem inv_any (n0 i0 n : Int) (ks : List Sc) (hp : ∀ x ∈ [n0], Pat x) (hn : 0 ≤ n ∧ n ≤ 2147483647) (hs : 1 ≤ i0 ∧ i0 ≤ 2147483647) (b o : Nat) (w : World) (h : SA w b o ⟨7, [n0], [i0], ks⟩) :
    Calls Try.prog 56 #[.pointer (some ⟨b, o, none⟩), .int .i64 n] w fun e w' => e = .returned (.int .u32 (invV n0 i0 n)) ∧ Below w.heap.size w w' := by
  have HB : Below w.heap.size w w := bel0 w
  obtain ⟨b1, o1, k1, b2, o2, k2, hc⟩ := cells_1_1 h
  have HC : Hid (∀ v, Below w.heap.size w v → _) := hc
  have pn0 : Pat n0 := hp _ (by simp)
  obtain ⟨c0, c1, c2, d0, g0⟩ := hc w HB
  clear h hc hp
  obtain ⟨M, hM⟩ : ∃ M, max n i0 = M := ⟨_, rfl⟩
  have hMb : 0 ≤ M ∧ M ≤ 2147483647 := by omega
  have HV : Hid (invV n0 i0 n = fmul n0 (fsqrt (rat i0 M))) := by show _ = _; unfold invV; rw [hM]
  rw [HV.out]
  clear HV
  go_enter Try.func56, Try.ntmps56
  go_wp2
  go_region_held3 (fun w' => w'.cell? ⟨b, o + 1, none⟩ = some (.slice (some ⟨b1, o1, none⟩) 1 k1) ∧ w'.cell? ⟨b, o + 2, none⟩ = some (.slice (some ⟨b2, o2, none⟩) 1 k2) ∧ w'.cell? ⟨b1, o1, none⟩ = some (.int .u32 n0) ∧ w'.cell? ⟨b2, o2, none⟩ = some (.int .i64 i0)) (go_keep) (first
    | (go_at_call 72; (refine (ratio_any _ _ (by constructor <;> omega) (by constructor <;> omega) _).mono ?_); rintro e wx ⟨rfl, hbx⟩; have HB : Below w.heap.size w wx := (by first | exact bel HB hbx | exact bel (bel_d _) hbx); obtain ⟨c0, c1, c2, d0, g0⟩ := HC.out wx HB)
    | (go_at_call 74; refine (f_sqrt (by with_reducible first | assumption | exact pat_add _ _ | exact pat_sub _ _ | exact pat_mul _ _ | exact pat_div _ _ | exact pat_sqrt _ | exact pat_from _ | exact pat_rat _ _ | exact pat_qrt _ | exact pat_qrN _ _ | exact pat_0 | exact pat_1 | exact pat_h) _).mono ?_; rintro e wx ⟨rfl, hbx⟩; have HB : Below w.heap.size w wx := (by first | exact bel HB hbx | exact bel (bel_d _) hbx); obtain ⟨c0, c1, c2, d0, g0⟩ := HC.out wx HB)
    | (go_at_call 59; refine (f_mul (by with_reducible first | assumption | exact pat_add _ _ | exact pat_sub _ _ | exact pat_mul _ _ | exact pat_div _ _ | exact pat_sqrt _ | exact pat_from _ | exact pat_rat _ _ | exact pat_qrt _ | exact pat_qrN _ _ | exact pat_0 | exact pat_1 | exact pat_h) (by with_reducible first | assumption | exact pat_add _ _ | exact pat_sub _ _ | exact pat_mul _ _ | exact pat_div _ _ | exact pat_sqrt _ | exact pat_from _ | exact pat_rat _ _ | exact pat_qrt _ | exact pat_qrN _ _ | exact pat_0 | exact pat_1 | exact pat_h) _).mono ?_; rintro e wx ⟨rfl, hbx⟩; have HB : Below w.heap.size w wx := (by first | exact bel HB hbx | exact bel (bel_d _) hbx); obtain ⟨c0, c1, c2, d0, g0⟩ := HC.out wx HB))
  all_goals go_wp2
  all_goals go_ret
  all_goals exact ⟨rfl, HB⟩

end Go.Proofs.Ytnogokikiekcbaa
/- Package sched: piecewise, join, both, at, Value. -/
namespace Go.Proofs.Ytnogokikiekcbaa
open Go.RowKit
set_option linter.unusedVariables false
set_option linter.unusedSimpArgs false

theorem kid_le (n : Int) : ∀ l : List Int, kidOf n l ≤ l.length
  | [] => Nat.le_refl _
  | b :: bs => by
    have := kid_le n bs
    simp only [kidOf]
    split <;> simp <;> omega
theorem kid_step (n : Int) : ∀ (l : List Int) (j : Nat) (hj : j < l.length), j ≤ kidOf n l → (l[j] ≤ n ↔ j < kidOf n l)
  | [], j, hj, _ => absurd hj (Nat.not_lt_zero _)
  | b :: bs, 0, hj, h => by
    simp only [kidOf, List.getElem_cons_zero]
    split <;> simp_all
  | b :: bs, j + 1, hj, h => by
    simp only [kidOf] at h ⊢
    split at h
    · rename_i hb
      rw [if_pos hb]
      have := kid_step n bs j (by simpa using hj) (by omega)
      simp only [List.getElem_cons_succ]
      omega
    · omega
theorem piece_take (n : Int) : ∀ (bs ss : List Int) (v : Int), bs.length = ss.length → pieceV n v bs ss = (ss.take (kidOf n bs)).foldl fmul v
  | [], [], v, _ => by simp [pieceV, kidOf]
  | b :: bs, s :: ss, v, h => by
    simp only [pieceV, kidOf]
    split
    · rw [piece_take n bs ss (fmul v s) (by simpa using h)]; simp
    · simp
/-- The value behind j boundaries. -/
def pmul (v : Int) (ss : List Int) (j : Nat) : Int := (ss.take j).foldl fmul v
theorem pmul_succ (v : Int) (ss : List Int) (j : Nat) (h : j < ss.length) : pmul v ss (j + 1) = fmul (pmul v ss j) ss[j] := by
  unfold pmul; rw [List.take_succ_eq_append_getElem h, List.foldl_append]; rfl
theorem pat_pmul {v : Int} (hv : Pat v) (ss : List Int) (j : Nat) (h : j ≤ ss.length) : Pat (pmul v ss j) := by
  cases j with
  | zero => exact hv
  | succ j => rw [pmul_succ v ss j h]; exact pat_mul _ _
theorem from_le {n : Int} {l : List Int} (hl : risesA 0 l = true) (hn : 0 ≤ n) (j : Nat) (hj : j ≤ kidOf n l) : 0 ≤ fromOf l j ∧ fromOf l j ≤ n ∧ fromOf l j ≤ 2147483647 ∨ j = 0 ∧ fromOf l j = 0 := by
  cases j with
  | zero => right; exact ⟨rfl, rfl⟩
  | succ j =>
    left
    have hk := kid_le n l
    have hj2 : j < l.length := by omega
    have h1 := (kid_step n l j hj2 (by omega)).2 (by omega)
    have h2 := risesA_get l 0 hl j hj2
    have e : fromOf l (j + 1) = l[j] := by simp [fromOf, hj2]
    rw [e]
    omega
theorem from_at (l : List Int) (j : Nat) (h : j < l.length) : fromOf l (j + 1) = l[j] := by simp [fromOf, h]

set_option maxRecDepth 100000 in
set_option maxHeartbeats 2000000 in
theorem piece_any (n0 n : Int) (ss is : List Int) (ks : List Sc) (hp : Pat n0) (hps : ∀ x ∈ ss, 0 ≤ x ∧ x < 4294967296) (hl : is.length = ss.length) (hll : is.length ≤ 2147483647) (b o : Nat) (w : World) (h : SA w b o ⟨5, n0 :: ss, is, ks⟩) :
    Calls Try.prog 54 #[.pointer (some ⟨b, o, none⟩), .int .i64 n] w fun e w' => e = .returned (.int .u32 (pieceV n n0 is ss)) ∧ Below w.heap.size w w' := by
  rw [piece_take n is ss n0 hl]
  obtain ⟨K, hK⟩ : ∃ K, kidOf n is = K := ⟨_, rfl⟩
  rw [hK]
  have HKL : K ≤ is.length := by rw [← hK]; exact kid_le n is
  have HST : Hid (∀ j (hj : j < is.length), j ≤ K → (is[j] ≤ n ↔ j < K)) := fun j hj h => by rw [← hK] at h ⊢; exact kid_step n is j hj h
  rw [show (ss.take K).foldl fmul n0 = pmul n0 ss K from rfl]
  obtain ⟨pn, cn, pi, ci, pk, ck, hc⟩ := h.cells
  obtain ⟨N, hN⟩ : ∃ N, is.length = N := ⟨_, rfl⟩
  have HN : Hid (is.length = N) := hN
  have HNS : Hid (ss.length = N) := hl ▸ hN
  have r1 := (hc w (bel0 w)).2.2.2.2.1
  obtain ⟨b1, o1, rfl, d0⟩ := r1.get (i := 0) (by simp)
  have HD : Hid (∀ j (hj : j < ss.length), w.cell? ⟨b1, o1 + (j + 1), none⟩ = some (.int .u32 ss[j])) := fun j hj => by
    obtain ⟨b', o', e, h'⟩ := r1.get (i := j + 1) (by simpa using hj)
    simp only [Option.some.injEq, Addr.mk.injEq] at e
    obtain ⟨rfl, rfl, -⟩ := e
    simpa using h'
  have HI : Hid (Row w .i64 (.slice pi is.length ci) is) := (hc w (bel0 w)).2.2.2.2.2
  have HC : Hid (∀ v, Below w.heap.size w v → v.cell? ⟨b, o + 1, none⟩ = some (.slice (some ⟨b1, o1, none⟩) (N + 1) cn) ∧ v.cell? ⟨b, o + 2, none⟩ = some (.slice pi N ci)) := fun v hv => by
    have h1 := (hc v hv).2.1
    have h2 := (hc v hv).2.2.1
    simp only [List.length_cons] at h1
    rw [HNS.out] at h1
    simp only at h2
    rw [hN] at h2
    exact ⟨h1, h2⟩
  have HPS : Hid (∀ x ∈ ss, 0 ≤ x ∧ x < 4294967296) := hps
  obtain ⟨c1, c2⟩ := HC.out w (bel0 w)
  rw [hN] at hll HKL
  have z0 : (0 : Int) < ((N + 1 : Nat) : Int) := by omega
  have z0' : (0 : Int) < (N : Int) + 1 := by omega
  have d0' : w.cell? ⟨b1, o1, none⟩ = some (.int .u32 n0) := d0
  clear hc r1 h hl hN hK hps d0
  go_enter Try.func54, Try.ntmps54
  go_wp2
  go_loopw [5, 19] (fun sv iv wr => Below w.heap.size w wr ∧ ∃ j : Nat, j ≤ K ∧ iv = .int .i64 j ∧ sv = .int .u32 (pmul n0 ss j)) (fun _ iv _ => N - (intOf iv).toNat)
  case atStart => exact ⟨bel0 w, 0, Nat.zero_le _, rfl, rfl⟩
  case round =>
    obtain ⟨hb, j, hj, rfl, rfl⟩ := hrel
    by_cases hlt0 : j < N
    · have hli : j < is.length := by rw [HN.out]; exact hlt0
      have hls : j < ss.length := by rw [HNS.out]; exact hlt0
      obtain ⟨b2, o2, rfl, g1⟩ := HI.out.get hli
      have g1 := bcell g1 hb
      have hst := HST.out j hli hj
      obtain ⟨x, hx⟩ : ∃ x, is[j] = x := ⟨_, rfl⟩
      rw [hx] at g1 hst
      have i1 : (0 : Int) ≤ (j : Int) := by omega
      have i2 : (j : Int) < (N : Int) := by omega
      by_cases hle : x ≤ n
      · have hjk := hst.1 hle
        have c1 := (HC.out wr hb).1
        have d1 := bcell (HD.out j hls) hb
        have hsuc := pmul_succ n0 ss j hls
        have hp1 : Pat (pmul n0 ss j) := pat_pmul hp ss j (by omega)
        have hp2 : Pat ss[j] := HPS.out _ (List.getElem_mem hls)
        obtain ⟨y, hy⟩ : ∃ y, ss[j] = y := ⟨_, rfl⟩
        rw [hy] at d1 hp2 hsuc
        obtain ⟨P, hP⟩ : ∃ P, pmul n0 ss j = P := ⟨_, rfl⟩
        rw [hP] at hp1 hsuc ⊢
        have HSU : Hid (pmul n0 ss (j + 1) = fmul P y) := hsuc
        have w1 : IntKind.i64.wrap ((j : Int) + 1) = (j : Int) + 1 := by rw [IntKind.wrap_i64]; omega
        have i3 : (0 : Int) ≤ (j : Int) + 1 := by omega
        have i4 : (j : Int) + 1 < (N : Int) + 1 := by omega
        have t1 : ((j : Int) + 1).toNat = j + 1 := by omega
        have o1' : ¬ n < x := by omega
        clear hsuc hst hx hy hP HST HD
        have HB : Below wr.heap.size wr wr := bel0 wr
        go_wp2_with ((go_at_call 59; refine (f_mul (by with_reducible first | assumption | exact pat_add _ _ | exact pat_sub _ _ | exact pat_mul _ _ | exact pat_div _ _ | exact pat_sqrt _ | exact pat_from _ | exact pat_rat _ _ | exact pat_qrt _ | exact pat_qrN _ _ | exact pat_0 | exact pat_1 | exact pat_h) (by with_reducible first | assumption | exact pat_add _ _ | exact pat_sub _ _ | exact pat_mul _ _ | exact pat_div _ _ | exact pat_sqrt _ | exact pat_from _ | exact pat_rat _ _ | exact pat_qrt _ | exact pat_qrN _ _ | exact pat_0 | exact pat_1 | exact pat_h) _).mono ?_; rintro e wx ⟨rfl, hbx⟩; have HB : Below wr.heap.size wr wx := (by first | exact bel HB hbx | exact bel (by go_grown) hbx)))
        go_roundw
        case rel => exact ⟨bel hb HB, j + 1, by omega, by go_num, by rw [HSU.out]⟩
        case measure => simp [intOf]; omega
      · have hjk : j = K := by omega
        have o1' : n < x := by omega
        subst hjk
        clear hst hx HST HD
        go_wp2
        go_ret
        exact ⟨rfl, hb⟩
    · have : j = K := by omega
      subst this
      have z : ¬ (j : Int) < (N : Int) := by omega
      clear HST HD
      go_wp2
      go_ret
      exact ⟨rfl, hb⟩

end Go.Proofs.Ytnogokikiekcbaa
/- Package sched: join, both, at, Value. -/
namespace Go.Proofs.Ytnogokikiekcbaa
open Go.RowKit
set_option linter.unusedVariables false
set_option linter.unusedSimpArgs false

/-- What at says of a schedule, wherever it lies. -/
def AtA (t : Sc) : Prop := ∀ (n : Int) (b o : Nat) (w : World), 0 ≤ n → n ≤ 2147483647 → sok t → allT t → SA w b o t →
  Calls Try.prog 29 #[.pointer (some ⟨b, o, none⟩), .int .i64 n] w fun e w' => e = .returned (.int .u32 (valT t n)) ∧ Below w.heap.size w w'

set_option maxRecDepth 100000 in
set_option maxHeartbeats 2000000 in
theorem join_any (n : Int) (t : Sc) (hn : 0 ≤ n ∧ n ≤ 2147483647) (hr : risesA 0 t.ints = true) (hkl : t.kids.length = t.ints.length + 1) (hok : sok t) (hall : allF t.kids) (ih : ∀ k ∈ t.kids, AtA k) (b o : Nat) (w : World) (h : SA w b o t) :
    Calls Try.prog 55 #[.pointer (some ⟨b, o, none⟩), .int .i64 n] w fun e w' => e = .returned (.int .u32 ((valsL t.kids).getD (kidOf n t.ints) id (n - fromOf t.ints (kidOf n t.ints)))) ∧ Below w.heap.size w w' := by
  obtain ⟨K, hK⟩ : ∃ K, kidOf n t.ints = K := ⟨_, rfl⟩
  rw [hK]
  have HKL : K ≤ t.ints.length := by rw [← hK]; exact kid_le n t.ints
  have hkk : K < t.kids.length := by omega
  have HST : Hid (∀ j (hj : j < t.ints.length), j ≤ K → (t.ints[j] ≤ n ↔ j < K)) := fun j hj h => by rw [← hK] at h ⊢; exact kid_step n t.ints j hj h
  have hfr : 0 ≤ fromOf t.ints K ∧ fromOf t.ints K ≤ n := by
    have := from_le hr hn.1 K (by rw [hK]; exact Nat.le_refl _)
    omega
  rw [vals_at t hkk]
  obtain ⟨pn, cn, pi, ci, pk, ck, hc⟩ := h.cells
  obtain ⟨-, -, -, -, pk', ck', -, -, -, e3, -, -, k3⟩ := h.open
  have e3' := (hc w (bel0 w)).2.2.2.1
  rw [e3] at e3'
  simp only [Option.some.injEq, Value.slice.injEq, true_and] at e3'
  obtain ⟨rfl, rfl⟩ := e3'
  obtain ⟨b3, o3, rfl, hsa⟩ := k3 K hkk
  have hmem := List.getElem_mem hkk
  have HCL : Hid (∀ v, Below w.heap.size w v → Calls Try.prog 29 #[.pointer (some ⟨b3, o3 + K * 4, none⟩), .int .i64 (n - fromOf t.ints K)] v fun e w' => e = .returned (.int .u32 (valT t.kids[K] (n - fromOf t.ints K))) ∧ Below v.heap.size v w') := fun v hv =>
    ih _ hmem (n - fromOf t.ints K) b3 (o3 + K * 4) v (by omega) (by omega) ((sokL_iff _).1 hok.2 _ hmem) ((allF_iff _).1 hall _ hmem) (hsa.below hv)
  obtain ⟨V, hV⟩ : ∃ V, valT t.kids[K] (n - fromOf t.ints K) = V := ⟨_, rfl⟩
  rw [hV] at HCL ⊢
  obtain ⟨N, hN⟩ : ∃ N, t.ints.length = N := ⟨_, rfl⟩
  have HN : Hid (t.ints.length = N) := hN
  have HI : Hid (Row w .i64 (.slice pi t.ints.length ci) t.ints) := (hc w (bel0 w)).2.2.2.2.2
  have HC : Hid (∀ v, Below w.heap.size w v → v.cell? ⟨b, o + 2, none⟩ = some (.slice pi N ci) ∧ v.cell? ⟨b, o + 3, none⟩ = some (.slice (some ⟨b3, o3, none⟩) (N + 1) ck')) := fun v hv => by
    have h1 := (hc v hv).2.2.1
    have h2 := (hc v hv).2.2.2.1
    rw [hN] at h1
    rw [hkl, hN] at h2
    exact ⟨h1, h2⟩
  obtain ⟨c2, c3⟩ := HC.out w (bel0 w)
  have hll : N ≤ 2147483647 := by
    have := risesA_len t.ints 0 hr (by decide)
    rw [hN] at this
    omega
  rw [hN] at HKL
  have hkN : (K : Int) < (N : Int) + 1 := by omega
  have hk0 : (0 : Int) ≤ (K : Int) := by omega
  have hwf : IntKind.i64.wrap (n - fromOf t.ints K) = n - fromOf t.ints K := by rw [IntKind.wrap_i64]; omega
  clear hc h k3 hsa e3 hok hall ih hV hK hN hkl hmem hkk
  go_enter Try.func55, Try.ntmps55
  go_wp2
  go_loopw [5, 6, 14] (fun kv fv iv wr => wr = w ∧ ∃ j : Nat, j ≤ K ∧ iv = .int .i64 j ∧ kv = .int .i64 j ∧ fv = .int .i64 (fromOf t.ints j)) (fun _ _ iv _ => N - (intOf iv).toNat)
  case atStart => exact ⟨rfl, 0, Nat.zero_le _, rfl, rfl, rfl⟩
  case round =>
    obtain ⟨rfl, j, hj, rfl, rfl, rfl⟩ := hrel
    by_cases hlt0 : j < N
    · have hli : j < t.ints.length := by rw [HN.out]; exact hlt0
      obtain ⟨b2, o2, rfl, g1⟩ := HI.out.get hli
      have hst := HST.out j hli hj
      have hfa := from_at t.ints j hli
      obtain ⟨x, hx⟩ : ∃ x, t.ints[j] = x := ⟨_, rfl⟩
      rw [hx] at g1 hst hfa
      have HFA : Hid (fromOf t.ints (j + 1) = x) := hfa
      have i1 : (0 : Int) ≤ (j : Int) := by omega
      have i2 : (j : Int) < (N : Int) := by omega
      by_cases hle : x ≤ n
      · have hjk := hst.1 hle
        have w1 : IntKind.i64.wrap ((j : Int) + 1) = (j : Int) + 1 := by rw [IntKind.wrap_i64]; omega
        have o1' : ¬ n < x := by omega
        clear hst hx HST hfa
        go_wp2
        go_roundw
        case rel => exact ⟨trivial, j + 1, by omega, by go_num, by go_num, by rw [HFA.out]⟩
        case measure => simp [intOf]; omega
      · have hjk : j = K := by omega
        have o1' : n < x := by omega
        subst hjk
        clear hst hx HST hfa HFA
        go_wp2_with (go_at_call 29; (with_reducible refine (HCL.out _ (bel0 _)).mono ?_); rintro e w1 ⟨rfl, hb1⟩)
        go_ret
        exact ⟨rfl, hb1⟩
    · have : j = K := by omega
      subst this
      have z : ¬ (j : Int) < (N : Int) := by omega
      clear HST
      go_wp2_with (go_at_call 29; (with_reducible refine (HCL.out _ (bel0 _)).mono ?_); rintro e w1 ⟨rfl, hb1⟩)
      go_ret
      exact ⟨rfl, hb1⟩

set_option maxRecDepth 100000 in
set_option maxHeartbeats 2000000 in
theorem both_any (k : Nat) (hen : Ent k) (f : Int → Int → Int) (hk : ∀ a b (v : World), Pat a → Pat b → Calls Try.prog k #[.int .u32 a, .int .u32 b] v fun e v' => e = .returned (.int .u32 (f a b)) ∧ Below v.heap.size v v')
    (n : Int) (t : Sc) (x y : Int) (px : Pat x) (py : Pat y) (b o b3 o3 ck : Nat) (w : World) (hc : w.cell? ⟨b, o + 3, none⟩ = some (.slice (some ⟨b3, o3, none⟩) 2 ck))
    (h0 : ∀ v, Below w.heap.size w v → Calls Try.prog 29 #[.pointer (some ⟨b3, o3, none⟩), .int .i64 n] v fun e w' => e = .returned (.int .u32 x) ∧ Below v.heap.size v w')
    (h1 : ∀ v, Below w.heap.size w v → Calls Try.prog 29 #[.pointer (some ⟨b3, o3 + 4, none⟩), .int .i64 n] v fun e w' => e = .returned (.int .u32 y) ∧ Below v.heap.size v w') :
    Calls Try.prog 57 #[.pointer (some ⟨b, o, none⟩), .int .i64 n, .func (.func k) #[] #[]] w fun e w' => e = .returned (.int .u32 (f x y)) ∧ Below w.heap.size w w' := by
  unfold Ent at hen
  have H0 : Hid (∀ v, Below w.heap.size w v → Calls Try.prog 29 #[.pointer (some ⟨b3, o3, none⟩), .int .i64 n] v fun e w' => e = .returned (.int .u32 x) ∧ Below v.heap.size v w') := h0
  have H1 : Hid (∀ v, Below w.heap.size w v → Calls Try.prog 29 #[.pointer (some ⟨b3, o3 + 4, none⟩), .int .i64 n] v fun e w' => e = .returned (.int .u32 y) ∧ Below v.heap.size v w') := h1
  have HK : Hid (∀ v : World, Calls Try.prog k #[.int .u32 x, .int .u32 y] v fun e v' => e = .returned (.int .u32 (f x y)) ∧ Below v.heap.size v v') := fun v => hk x y v px py
  clear h0 h1 hk
  go_enter Try.func57, Try.ntmps57
  go_wp2
  go_region_held3 (fun w' => w'.cell? ⟨b, o + 3, none⟩ = some (.slice (some ⟨b3, o3, none⟩) 2 ck)) (go_keep) (first
    | (go_at_call 29; (with_reducible refine (H0.out _ (bel_d _)).mono ?_); rintro e w1 ⟨rfl, hb1⟩; have HB : Below w.heap.size w w1 := bel (bel_d _) hb1; have hc1 := bcell hc HB)
    | (go_at_call 29; (with_reducible refine (H1.out _ HB).mono ?_); rintro e w2 ⟨rfl, hb2⟩; have HB2 : Below w.heap.size w w2 := bel HB hb2; have hc2 := bcell hc HB2)
    | ((with_reducible refine (HK.out _).mono ?_); rintro e w3 ⟨rfl, hb3⟩; have HB3 : Below w.heap.size w w3 := bel HB2 hb3; have hc3 := bcell hc HB3))
  all_goals go_wp2
  all_goals go_ret
  all_goals exact ⟨rfl, HB3⟩

end Go.Proofs.Ytnogokikiekcbaa
