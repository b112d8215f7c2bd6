import Derived.Test.YtpidjmgifglmiabTreeAsk
/- Package tree: Equal. -/
namespace Go.Proofs.Ytpidjmgifglmiab
open Go.RowKit
set_option linter.unusedVariables false
set_option linter.unusedSimpArgs false

/-- Equal, up to a depth. -/
def EqTo (k N : Nat) : Prop := ∀ (a b : Nd) (pa pb : Option Addr) (ca cb : Nat) (w : World), dep a ≤ N → cnt a ≤ 9000 → cnt b ≤ 9000 → Kids w anyH (.slice pa a.args.length ca) a.args → Kids w anyH (.slice pb b.args.length cb) b.args →
  Calls Try.prog k #[nv a (.slice pa a.args.length ca), nv b (.slice pb b.args.length cb)] w fun e w' => e = .returned (.bool (eqT a b)) ∧ Below w.heap.size w w'

/-- A node of a row, its seven cells. -/
theorem KA_seven {w : World} {Q : Heads} {b o : Nat} {l : List Nd} (h : KA w Q b o l) {i : Nat} (hi : i < l.length) : ∃ p c,
    (w.cell? ⟨b, o + i * 7, none⟩ = some (.int .i64 l[i].kind) ∧ w.cell? ⟨b, o + i * 7 + 1, none⟩ = some (.string l[i].name) ∧ w.cell? ⟨b, o + i * 7 + 2, none⟩ = some (.int .u32 l[i].num) ∧ w.cell? ⟨b, o + i * 7 + 3, none⟩ = some (.int .i64 l[i].int_) ∧ w.cell? ⟨b, o + i * 7 + 4, none⟩ = some (.string l[i].key) ∧ w.cell? ⟨b, o + i * 7 + 5, none⟩ = some (.slice p l[i].args.length c) ∧ w.cell? ⟨b, o + i * 7 + 6, none⟩ = some (.int .i64 l[i].at_))
    ∧ Kids w Q (.slice p l[i].args.length c) l[i].args := by
  obtain ⟨e0, e1, e2, e3, e4, e6, sv, e5, hk⟩ := KA_get h hi
  obtain ⟨p, c, rfl, -⟩ := id hk
  exact ⟨p, c, ⟨e0, e1, e2, e3, e4, e5, e6⟩, hk⟩

set_option maxRecDepth 100000 in
set_option maxHeartbeats 2000000 in
theorem eqFunc_any (N : Nat) (HE : EqTo 20 N) (la lb : List Nd) (pa pb : Option Addr) (ca cb : Nat) (w : World) (hd : depL la ≤ N) (hca : cntL la ≤ 9000) (hcb : cntL lb ≤ 9000) (hka : Kids w anyH (.slice pa la.length ca) la) (hkb : Kids w anyH (.slice pb lb.length cb) lb) :
    Calls Try.prog 32 #[.slice pa la.length ca, .slice pb lb.length cb, .func (.func 20) #[] #[]] w fun e w' => e = .returned (.bool (eqL la lb)) ∧ Below w.heap.size w w' := by
  have hla := cntL_len la
  have hlb := cntL_len lb
  obtain ⟨n, hn⟩ : ∃ n, la.length = n := ⟨_, rfl⟩
  obtain ⟨m, hm⟩ : ∃ m, lb.length = m := ⟨_, rfl⟩
  have HN : Hid (la.length = n) := hn
  have HM : Hid (lb.length = m) := hm
  have hn9 : n ≤ 9000 := by omega
  have hm9 : m ≤ 9000 := by omega
  have hen := @enters_of
  have hent : ∀ (args : Array Value) (w : World), (callFunc 20 args).run Try.prog w = .ok (.enter 20 args) w := enters_of Try.func20 (by kernel_rfl) rfl
  clear hen
  by_cases hnm : n = m
  · obtain ⟨p1, c1, hv1, -, hk1⟩ := hka
    obtain ⟨p2, c2, hv2, -, hk2⟩ := hkb
    simp only [Value.slice.injEq] at hv1 hv2
    obtain ⟨rfl, -, -⟩ := hv1
    obtain ⟨rfl, -, -⟩ := hv2
    subst hnm
    rw [hn, hm]
    have HK1 : Hid (la = [] ∨ ∃ b o, pa = some ⟨b, o, none⟩ ∧ KA w anyH b o la) := hk1
    have HK2 : Hid (lb = [] ∨ ∃ b o, pb = some ⟨b, o, none⟩ ∧ KA w anyH b o lb) := hk2
    have HEH : Hid (EqTo 20 N) := HE
    clear hk1 hk2 hn hm hla hlb HE
    go_enter Try.func32, Try.ntmps32
    go_wp2
    go_loopw [17] (fun iv wr => Below w.heap.size w wr ∧ ∃ j : Nat, j ≤ n ∧ iv = .int .i64 j ∧ Hid (∀ i (h : i < la.length) (h' : i < lb.length), i < j → eqT la[i] lb[i] = true)) (fun iv _ => n - (intOf iv).toNat)
    case atStart => exact ⟨bel0 w, 0, Nat.zero_le _, rfl, fun i _ _ hi => absurd hi (Nat.not_lt_zero _)⟩
    case round =>
      obtain ⟨hb, j, hj, rfl, hS⟩ := hrel
      by_cases hlt0 : j < n
      · have h1 : j < la.length := by rw [HN.out]; exact hlt0
        have h2 : j < lb.length := by rw [HM.out]; exact hlt0
        obtain ⟨b1, o1, rfl, ka⟩ : ∃ b o, pa = some ⟨b, o, none⟩ ∧ KA w anyH b o la := by
          rcases HK1.out with hk | hk
          · rw [hk] at h1; exact absurd h1 (Nat.not_lt_zero _)
          · exact hk
        obtain ⟨b2, o2, rfl, kb⟩ : ∃ b o, pb = some ⟨b, o, none⟩ ∧ KA w anyH b o lb := by
          rcases HK2.out with hk | hk
          · rw [hk] at h2; exact absurd h2 (Nat.not_lt_zero _)
          · exact hk
        obtain ⟨q1, d1, ⟨x0, x1, x2, x3, x4, x5, x6⟩, kx⟩ := KA_seven (ka.below hb) h1
        obtain ⟨q2, d2, ⟨y0, y1, y2, y3, y4, y5, y6⟩, ky⟩ := KA_seven (kb.below hb) h2
        have l1 : b1 < wr.heap.size := mcell_lt x0
        have l2 : b2 < wr.heap.size := mcell_lt y0
        obtain ⟨rb, hrb⟩ : ∃ rb, eqT la[j] lb[j] = rb := ⟨_, rfl⟩
        have HW : Hid (∀ v, Below wr.heap.size wr v → Calls Try.prog 20 #[.agg #[.int .i64 la[j].kind, .string la[j].name, .int .u32 la[j].num, .int .i64 la[j].int_, .string la[j].key, .slice q1 la[j].args.length d1, .int .i64 la[j].at_], .agg #[.int .i64 lb[j].kind, .string lb[j].name, .int .u32 lb[j].num, .int .i64 lb[j].int_, .string lb[j].key, .slice q2 lb[j].args.length d2, .int .i64 lb[j].at_]] v fun e v' => e = .returned (.bool rb) ∧ Below wr.heap.size wr v') := fun v hv =>
          (HEH.out la[j] lb[j] q1 q2 d1 d2 v (by have := dep_get h1; omega) (by have := cnt_get h1; omega) (by have := cnt_get h2; omega) (kx.below hv) (ky.below hv)).mono fun e v' ⟨he, hb'⟩ => ⟨by rw [he, hrb], bel hv hb'⟩
        have HRB : Hid (eqT la[j] lb[j] = rb) := hrb
        have i1 : (0 : Int) ≤ (j : Int) := by omega
        have i2 : (j : Int) < (n : Int) := by omega
        clear ka kb kx ky hrb HEH
        cases rb with
        | false =>
          go_wp2_with ((with_reducible refine (HW.out _ ?_).mono ?_); (exact bel (bel_alloc _ _) (bel_alloc _ _)); rintro e w3 ⟨rfl, hb3⟩)
          go_ret
          exact ⟨ret_bool (eqL_false_of (by rw [HN.out, HM.out]) h1 h2 HRB.out).symm, bel hb hb3⟩
        | true =>
          go_wp2_with ((with_reducible refine (HW.out _ ?_).mono ?_); (exact bel (bel_alloc _ _) (bel_alloc _ _)); rintro e w3 ⟨rfl, hb3⟩)
          go_roundw
          case rel =>
            refine ⟨bel hb hb3, j + 1, by omega, by go_num, fun i h h' hij => ?_⟩
            by_cases e : i = j
            · subst e; exact HRB.out
            · exact hS.out i h h' (by omega)
          case measure => simp [intOf]; omega
      · have : j = n := by omega
        subst this
        go_wp2
        go_ret
        exact ⟨ret_bool (eqL_true_of (by rw [HN.out, HM.out]) fun i h h' => hS.out i h h' (by rw [← HN.out]; exact h)).symm, hb⟩
  · have hf : eqL la lb = false := by
      rw [Bool.eq_false_iff]
      intro h
      have := eqL_len la lb h
      omega
    rw [hf, hn, hm]
    have z1 : ¬ ((n : Int) = (m : Int)) := by omega
    clear hka hkb hf hn hm HE
    go_enter Try.func32, Try.ntmps32
    go_wp2
    go_ret
    exact ⟨rfl, bel0 w⟩

set_option maxRecDepth 100000 in
set_option maxHeartbeats 4000000 in
theorem equal_to : ∀ N, EqTo 20 N := by
  intro N
  induction N with
  | zero => intro a b pa pb ca cb w hd; unfold dep at hd; omega
  | succ N ih =>
    intro a b pa pb ca cb w hd hca hcb hka hkb
    have HF : Hid (∀ v, Below w.heap.size w v → Calls Try.prog 32 #[.slice pa a.args.length ca, .slice pb b.args.length cb, .func (.func 20) #[] #[]] v fun e v' => e = .returned (.bool (eqL a.args b.args)) ∧ Below w.heap.size w v') := fun v hv =>
      (eqFunc_any N ih a.args b.args pa pb ca cb v (by unfold dep at hd; omega) (by unfold cnt at hca; omega) (by unfold cnt at hcb; omega) (hka.below hv) (hkb.below hv)).mono fun e v' ⟨he, hb⟩ => ⟨he, bel hv hb⟩
    unfold nv eqT
    obtain ⟨r, hr⟩ : ∃ r, eqL a.args b.args = r := ⟨_, rfl⟩
    rw [hr] at HF ⊢
    obtain ⟨ak, an, ax, ai, ay, al, aa⟩ := a
    obtain ⟨bk, bn, bx, bi, by_, bl, ba⟩ := b
    simp only at *
    clear ih hka hkb hr hd hca hcb
    go_enter Try.func20, Try.ntmps20
    go_wp2_with (go_at_call 32; (with_reducible refine (HF.out _ ?_).mono ?_); (exact bel (bel_alloc _ _) (bel_alloc _ _)); rintro e w3 ⟨rfl, hb3⟩)
    all_goals (go_ret; refine ⟨ret_bool ?_, (by first | exact hb3 | exact bel (bel_alloc _ _) (bel_alloc _ _))⟩; simp_all)

end Go.Proofs.Ytpidjmgifglmiab
