import Derived.Test.YtnogokikiekcbabSchFits
/- Package sched: mayBe, Check. -/
namespace Go.Proofs.Ytnogokikiekcbab
open Go.RowKit
set_option linter.unusedVariables false
set_option linter.unusedSimpArgs false

/-- The count of those that are left, in a box of its own. -/
def Lft (G : Nat) (n : Int) (w : World) : Prop := w.heap[G]? = some (.cells #[.int .i64 n] 3)
theorem Lft.cell {G : Nat} {n : Int} {w : World} (h : Lft G n w) : w.cell? ⟨G, 0, none⟩ = some (.int .i64 n) ∧ w.frozen? ⟨G, 0, none⟩ = false := by
  unfold Lft at h
  simp [World.cell?, World.frozen?, h]
theorem Lft.below {G : Nat} {n : Int} {w w' : World} (h : Lft G n w) (k : Below w.heap.size w w') : Lft G n w' := (k.block G (hlt h)).trans h
theorem Lft.set {G : Nat} {n m : Int} {w : World} (h : Lft G n w) : Lft G m (w.setCell ⟨G, 0, none⟩ (.int .i64 m)) := by
  unfold Lft at h ⊢
  simp [World.setCell, Array.getElem?_modify, h]

theorem may_zero (d n : Nat) (t : Sc) (h : d = 0 ∨ n = 0 ∨ fitsP t = false) : may d n t = none := by unfold may; rw [if_pos h]
theorem may_go (d n : Nat) (t : Sc) (h1 : d ≠ 0) (h2 : n ≠ 0) (h3 : fitsP t = true) : may d n t = mayL (d - 1) (n - 1) t.kids := by
  unfold may; rw [if_neg]; rw [h3]; simp; omega
theorem mayL_append : ∀ (l m : List Sc) (d n : Nat), mayL d n (l ++ m) = (mayL d n l).bind fun k => mayL d k m
  | [], m, d, n => by simp [mayL_nil]
  | t :: r, m, d, n => by
    rw [List.cons_append, mayL_cons, mayL_cons]
    cases may d n t with
    | none => rfl
    | some k => simp only [Option.bind_some]; exact mayL_append r m d k
theorem mayL_step {l : List Sc} {j : Nat} (hj : j < l.length) (d n k : Nat) (h : mayL d n (l.take j) = some k) : mayL d n (l.take (j + 1)) = may d k l[j] := by
  rw [List.take_succ_eq_append_getElem hj, mayL_append, h, Option.bind_some, mayL_cons]
  cases may d k l[j] with
  | none => rfl
  | some m => simp [mayL_nil]
theorem mayL_stop {l : List Sc} {j : Nat} (d n : Nat) (h : mayL d n (l.take j) = none) : mayL d n l = none := by
  rw [← List.take_append_drop j l, mayL_append, h]; rfl
theorem sok_kid {t : Sc} (h : sok t) {j : Nat} (hj : j < t.kids.length) : sok t.kids[j] := (sokL_iff _).1 h.2 _ (List.getElem_mem hj)

def MayA (t : Sc) : Prop := ∀ (d n : Nat) (W w : World) (b o G : Nat), d ≤ 64 → n ≤ 4096 → sok t → SA W b o t → Below W.heap.size W w → W.heap.size ≤ G → Lft G n w →
  Calls Try.prog 19 #[.pointer (some ⟨b, o, none⟩), .int .i64 (d : Int), .pointer (some ⟨G, 0, none⟩)] w fun e w' => e = .returned (.bool (may d n t).isSome) ∧ Below W.heap.size W w' ∧ ∀ m, may d n t = some m → Lft G m w'

set_option maxRecDepth 100000 in
set_option maxHeartbeats 4000000 in
theorem mayBe_to : ∀ t, MayA t := by
  apply stree
  intro t ih d n W w b o G hd hn hok hA hW hG hL
  have HIH : Hid (∀ k ∈ t.kids, MayA k) := ih
  have HA : Hid (SA W b o t) := hA
  have HOK : Hid (sok t) := hok
  obtain ⟨pn, cn, pi, ci, pk, ck, hc⟩ := hA.cells
  have HC : Hid (∀ v, Below W.heap.size W v → v.cell? ⟨b, o + 3, none⟩ = some (.slice pk t.kids.length ck)) := fun v hv => (hc v hv).2.2.2.1
  obtain ⟨g0, g1⟩ := hL.cell
  have HL : Hid (Lft G ((n : Int) - 1) (w.setCell ⟨G, 0, none⟩ (.int .i64 ((n : Int) - 1)))) := hL.set
  have HB1 : Hid (Below W.heap.size W (w.setCell ⟨G, 0, none⟩ (.int .i64 ((n : Int) - 1)))) := hW.setCell hG _
  obtain ⟨w1, hw1⟩ : ∃ w1, w.setCell ⟨G, 0, none⟩ (.int .i64 ((n : Int) - 1)) = w1 := ⟨_, rfl⟩
  rw [hw1] at HL HB1
  have hwr : IntKind.i64.wrap ((n : Int) - 1) = (n : Int) - 1 := by rw [IntKind.wrap_i64]; omega
  have hwd : IntKind.i64.wrap ((d : Int) - 1) = (d : Int) - 1 := by rw [IntKind.wrap_i64]; omega
  have q1 := HL.out.cell.1
  obtain ⟨F, hF⟩ : ∃ F, fitsP t = F := ⟨_, rfl⟩
  have HW : Hid (Calls Try.prog 32 #[.pointer (some ⟨b, o, none⟩)] w1 fun e w' => e = .returned (.bool F) ∧ Below w1.heap.size w1 w') := by
    have := fitsRow_any t b o hok.sz w1 (hA.below HB1.out)
    rw [hF] at this; exact this
  obtain ⟨N, hN⟩ : ∃ N, t.kids.length = N := ⟨_, rfl⟩
  have HN : Hid (t.kids.length = N) := hN
  rw [hN] at HC
  have HNL : N ≤ 17592186043904 := by rw [← hN]; exact hok.sz.2.2.2.2
  by_cases h1 : d = 0
  · have HR : Hid (may d n t = none) := may_zero d n t (.inl h1)
    have HR2 : Hid ((may d n t).isSome = false) := by show _ = _; rw [HR.out]; rfl
    rw [HR2.out]
    have z1 : ((d : Int) == 0) = true := by simp [h1]
    clear hc hL hA hok ih HIH hN HN h1 HR2 HW hF HA HOK
    go_enter Try.func19, Try.ntmps19
    go_wp2
    go_ret
    exact ⟨rfl, HB1.out, fun m hm => by rw [HR.out] at hm; cases hm⟩
  have z1 : ((d : Int) == 0) = false := by simp; omega
  by_cases h2 : n = 0
  · have HR : Hid (may d n t = none) := may_zero d n t (.inr (.inl h2))
    have HR2 : Hid ((may d n t).isSome = false) := by show _ = _; rw [HR.out]; rfl
    rw [HR2.out]
    have z2 : (n : Int) - 1 < 0 := by omega
    clear hc hL hA hok ih HIH hN HN h1 h2 HR2 HW hF HA HOK
    go_enter Try.func19, Try.ntmps19
    go_wp2
    go_ret
    exact ⟨rfl, HB1.out, fun m hm => by rw [HR.out] at hm; cases hm⟩
  have z2 : ¬ (n : Int) - 1 < 0 := by omega
  cases F
  · have HR : Hid (may d n t = none) := may_zero d n t (.inr (.inr hF))
    have HR2 : Hid ((may d n t).isSome = false) := by show _ = _; rw [HR.out]; rfl
    rw [HR2.out]
    clear hc hL hA hok ih HIH hN HN h1 h2 HR2 hF HA HOK
    go_enter Try.func19, Try.ntmps19
    go_wp2_with (go_at_call 32; (with_reducible refine HW.out.mono ?_); rintro e w2 ⟨rfl, hb2⟩)
    go_ret
    exact ⟨rfl, HB1.out.trans (hb2.mono HB1.out.size), fun m hm => by rw [HR.out] at hm; cases hm⟩
  · have HR : Hid (may d n t = mayL (d - 1) (n - 1) t.kids) := may_go d n t h1 h2 hF
    obtain ⟨R, hR⟩ : ∃ R, may d n t = R := ⟨_, rfl⟩
    rw [hR]
    rw [hR] at HR
    obtain ⟨d', hd'⟩ : ∃ d', d - 1 = d' := ⟨_, rfl⟩
    obtain ⟨n', hn'⟩ : ∃ n', n - 1 = n' := ⟨_, rfl⟩
    rw [hd', hn'] at HR
    have hdd : ((d : Int) - 1) = (d' : Int) := by omega
    have hnn : ((n : Int) - 1) = (n' : Int) := by omega
    rw [hnn] at HL hw1 z2 q1
    have hwr2 : IntKind.i64.wrap ((n : Int) - 1) = (n' : Int) := by rw [IntKind.wrap_i64]; omega
    clear hwr hwd
    have hdl : d' ≤ 64 := by omega
    have hnl : n' ≤ 4096 := by omega
    clear hc hL hA hok ih hN h1 h2 hF hR
    go_enter Try.func19, Try.ntmps19
    go_wp2_with (go_at_call 32; (with_reducible refine HW.out.mono ?_); rintro e w2 ⟨rfl, hb2⟩; have HB2 : Below W.heap.size W w2 := HB1.out.trans (hb2.mono HB1.out.size); have c3 := HC.out w2 HB2)
    have HL2 : Hid (Lft G (n' : Int) w2) := HL.out.below hb2
    clear c3 q1 HW HB1 HL
    go_loopw [31] (fun iv wr => Below W.heap.size W wr ∧ ∃ j k : Nat, j ≤ N ∧ iv = .int .i64 j ∧ k ≤ 4096 ∧ Hid (mayL d' n' (t.kids.take j) = some k ∧ Lft G (k : Int) wr)) (fun iv _ => N - (intOf iv).toNat)
    case atStart => exact ⟨HB2, 0, n', Nat.zero_le _, rfl, hnl, (by show _ ∧ _; exact ⟨by rw [List.take_zero, mayL_nil], HL2.out⟩)⟩
    case round =>
      obtain ⟨hb, j, k, hj, rfl, hk, HS⟩ := hrel
      have c3 := HC.out wr hb
      by_cases hlt0 : j < N
      · have hll : j < t.kids.length := by rw [HN.out]; exact hlt0
        obtain ⟨_, _, _, _, pk', ck', e0, e1, e2, e3, k1, k2, k3⟩ := HA.out.open
        have e3' := bcell e3 hb
        rw [HN.out] at e3'
        rw [c3] at e3'
        simp only [Option.some.injEq, Value.slice.injEq] at e3'
        obtain ⟨rfl, -, -⟩ := e3'
        obtain ⟨b1, o1, rfl, hsa⟩ := k3 j hll
        have hcl := HIH.out t.kids[j] (List.getElem_mem hll) d' k W wr b1 (o1 + j * 4) G hdl hk (sok_kid HOK.out hll) hsa hb hG HS.out.2
        have hst := mayL_step hll d' n' k HS.out.1
        obtain ⟨M, hM⟩ : ∃ M, may d' k t.kids[j] = M := ⟨_, rfl⟩
        rw [hM] at hcl hst
        have HCL : Hid (Calls Try.prog 19 #[.pointer (some ⟨b1, o1 + j * 4, none⟩), .int .i64 (d' : Int), .pointer (some ⟨G, 0, none⟩)] wr fun e w' => e = .returned (.bool M.isSome) ∧ Below W.heap.size W w' ∧ ∀ m, M = some m → Lft G m w') := hcl
        have hwd2 : IntKind.i64.wrap ((d : Int) - 1) = (d' : Int) := by rw [IntKind.wrap_i64]; omega
        have i1 : (0 : Int) ≤ (j : Int) := by omega
        have i2 : (j : Int) < (N : Int) := by omega
        cases M with
        | none =>
          have HX : Hid (R = none) := by show R = none; rw [HR.out, mayL_stop d' n' (hst)]
          have HX2 : Hid (R.isSome = false) := by show _ = _; rw [HX.out]; rfl
          rw [Option.isSome_none] at HCL
          clear hcl hst hM HIH HS HR k1 k2 k3 hsa e0 e1 e2 e3 HA HOK
          go_wp2_with (go_at_call 19; (with_reducible refine HCL.out.mono ?_); rintro e w3 ⟨rfl, hb3, hb4⟩)
          go_ret
          exact ⟨ret_bool HX2.out.symm, hb3, fun m hm => by rw [HX.out] at hm; cases hm⟩
        | some m =>
          have HX : Hid (mayL d' n' (t.kids.take (j + 1)) = some m) := hst
          have hmk : m ≤ 4096 := by have := may_le hM; omega
          rw [Option.isSome_some] at HCL
          clear hcl hst hM HIH HS HR k1 k2 k3 hsa e0 e1 e2 e3 HA HOK
          go_wp2_with (go_at_call 19; (with_reducible refine HCL.out.mono ?_); rintro e w3 ⟨rfl, hb3, hb4⟩)
          have HL3 : Hid (Lft G (m : Int) w3) := hb4 m rfl
          go_roundw
          case rel => exact ⟨hb3, j + 1, m, by omega, by go_num, hmk, ⟨HX.out, HL3.out⟩⟩
          case measure => simp [intOf]; omega
      · have : j = N := by omega
        subst this
        have HX : Hid (R = some k) := by
          show R = some k
          have := HS.out.1
          rw [List.take_of_length_le (by rw [HN.out]; exact Nat.le_refl _)] at this
          rw [HR.out, this]
        have HX2 : Hid (R.isSome = true) := by show _ = _; rw [HX.out]; rfl
        clear HIH HR
        go_wp2
        go_ret
        exact ⟨ret_bool HX2.out.symm, hb, fun m hm => by rw [HX.out] at hm; cases hm; exact HS.out.2⟩

/-- A schedule may be. -/
def okS (t : Sc) : Bool := (may 64 4096 t).isSome

set_option maxRecDepth 100000 in
set_option maxHeartbeats 1000000 in
theorem check_any (t : Sc) (a c d : Value) (hok : sok t) (w : World) (h : SV w t a c d) :
    Calls Try.prog 11 #[.agg #[.int .i64 t.op, a, c, d]] w fun e w' => e = .returned (.int .i64 (if okS t = true then 0 else 1)) ∧ Below w.heap.size w w' := by
  have hbx := h.box
  have hb0 := bel_alloc w (.cells #[.int .i64 t.op, a, c, d] 26)
  obtain ⟨w1, hw1⟩ : ∃ w1, w.alloc (.cells #[.int .i64 t.op, a, c, d] 26) = w1 := ⟨_, rfl⟩
  rw [hw1] at hbx hb0
  have hs1 : w1.heap.size = w.heap.size + 1 := by rw [← hw1]; simp
  have hL : Lft w1.heap.size 4096 (w1.alloc (.cells #[.int .i64 4096] 3)) := box_heap w1 _
  have hcl := mayBe_to t 64 4096 w1 (w1.alloc (.cells #[.int .i64 4096] 3)) w.heap.size 0 w1.heap.size (Nat.le_refl _) (Nat.le_refl _) hok hbx (bel_alloc _ _) (Nat.le_refl _) hL
  rw [← hw1] at hcl
  rw [show (may 64 4096 t).isSome = okS t from rfl] at hcl
  obtain ⟨K, hK⟩ : ∃ K, okS t = K := ⟨_, rfl⟩
  rw [hK] at hcl ⊢
  rw [hw1] at hcl
  have HW : Hid (Calls Try.prog 19 #[.pointer (some ⟨w.heap.size, 0, none⟩), .int .i64 64, .pointer (some ⟨w.heap.size + 1, 0, none⟩)] (w1.alloc (.cells #[.int .i64 4096] 3)) fun e w' => e = .returned (.bool K) ∧ Below w.heap.size w w') := by rw [← hs1]; exact hcl.mono fun e w' ⟨he, hb, _⟩ => ⟨he, hb0.trans (hb.mono hb0.size)⟩
  rw [← hw1] at HW
  clear hcl hK hL hbx hb0 h hs1 hw1
  cases K
  · go_enter Try.func11, Try.ntmps11
    go_wp2_with (go_at_call 19; (with_reducible refine HW.out.mono ?_); rintro e w2 ⟨rfl, hb2⟩)
    go_ret
    exact ⟨rfl, hb2⟩
  · go_enter Try.func11, Try.ntmps11
    go_wp2_with (go_at_call 19; (with_reducible refine HW.out.mono ?_); rintro e w2 ⟨rfl, hb2⟩)
    go_ret
    exact ⟨rfl, hb2⟩

end Go.Proofs.Ytnogokikiekcbab
