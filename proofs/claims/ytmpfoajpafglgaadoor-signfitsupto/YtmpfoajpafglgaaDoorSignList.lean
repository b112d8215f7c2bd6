import Derived.Test.YtmpfoajpafglgaaDoorSignParam
import Derived.Test.YtmpfoajpafglgaaDoorSignRefF
import Derived.Maps.OwnSet
/- Package sign: signatures: which may be, where a name stands, what fits. -/
namespace Go.Proofs.YtmpfoajpafglgaaDoor
open Go.RowKit Go.Maps
set_option linter.unusedVariables false
set_option linter.unusedSimpArgs false

set_option maxRecDepth 100000 in
set_option maxHeartbeats 1000000 in
theorem indexFunc_any (v : Value) (l : List Par) (hl : l.length ≤ 140737488351232) (hM : ∀ p ∈ l, p.name.size ≤ 140737488351232) (w : World) (hr : Rd w v l) :
    Calls Tryd.prog 39 #[v, .func (.func 27) #[] #[]] w fun e w' => (∃ x : Int, e = .returned (.int .i64 x) ∧ -1 ≤ x ∧ (0 ≤ x ↔ l.all mayP = false)) ∧ Below w.heap.size w w' := by
  obtain ⟨p, c, rfl, hr⟩ := hr
  obtain ⟨n, hn⟩ : ∃ n, l.length = n := ⟨_, rfl⟩
  rw [hn] at hl ⊢
  have HN : Hid (l.length = n) := hn
  have HR : Hid (Row w p l) := hr
  have HM : Hid (∀ p ∈ l, p.name.size ≤ 140737488351232) := hM
  clear hn hr hM
  go_enter Tryd.func39, Tryd.ntmps39
  go_wp2
  go_loopw [8] (fun iv wr => Below w.heap.size w wr ∧ ∃ j : Nat, j ≤ n ∧ iv = .int .i64 j ∧ Hid (∀ i (h : i < l.length), i < j → mayP l[i] = true)) (fun iv _ => n - (intOf iv).toNat)
  case atStart => exact ⟨bel0 w, 0, Nat.zero_le _, rfl, fun i h hi => absurd hi (Nat.not_lt_zero _)⟩
  case round =>
    obtain ⟨hb, j, hj, rfl, hp⟩ := hrel
    by_cases hlt : j < n
    · have hll : j < l.length := by rw [HN.out]; exact hlt
      obtain ⟨b, o, rfl, hx⟩ := HR.out.at hll
      obtain ⟨x0, x1, x2⟩ := hx.below hb
      have i1 : (0 : Int) ≤ (j : Int) := by omega
      have i2 : (j : Int) < (n : Int) := by omega
      have KN := mayNot_any l[j] (HM.out _ (List.getElem_mem hll))
      unfold pv at KN
      have NX : Hid (mayP l[j] = true → ∀ i (h : i < l.length), i < j + 1 → mayP l[i] = true) := fun hq i h hi => by
        by_cases e : i = j
        · subst e; exact hq
        · exact hp.out i h (by omega)
      have NB : Hid (mayP l[j] = false → l.all mayP = false) := fun h => List.all_eq_false.2 ⟨l[j], List.getElem_mem hll, by rw [h]; decide⟩
      obtain ⟨N, hN⟩ : ∃ N, mayP l[j] = N := ⟨_, rfl⟩
      rw [hN] at NX NB
      simp only [hN] at KN
      have HK : Hid (∀ w, Calls Tryd.prog 27 #[.agg #[.string l[j].name, .int .i64 l[j].kind, .int .i64 l[j].len]] w fun e w' => e = .returned (.bool (!N)) ∧ Below w.heap.size w w') := KN
      clear KN hN hp hx
      cases N
      · go_wp2_with (go_at_call 27; refine (HK.out _).mono ?_; rintro e w1 ⟨rfl, hb3⟩)
        go_ret
        exact ⟨⟨_, rfl, by omega, ⟨fun _ => NB.out (by simp), fun _ => by omega⟩⟩, bel hb hb3⟩
      · go_wp2_with (go_at_call 27; refine (HK.out _).mono ?_; rintro e w1 ⟨rfl, hb3⟩)
        go_roundw
        case rel => exact ⟨bel hb hb3, j + 1, by omega, by go_num, NX.out (by simp)⟩
        case measure => simp [intOf]; omega
    · have : j = n := by omega
      subst this
      have HF : Hid (l.all mayP = true) := List.all_eq_true.2 fun q hq => by
        obtain ⟨i, hi, rfl⟩ := List.mem_iff_getElem.1 hq
        exact hp.out i hi (by rw [← HN.out]; exact hi)
      clear hp
      go_wp2
      go_ret
      exact ⟨⟨_, rfl, by omega, ⟨fun h => absurd h (by omega), fun h => absurd h (by rw [HF.out]; decide)⟩⟩, hb⟩

set_option maxRecDepth 100000 in
set_option maxHeartbeats 1000000 in
theorem contains_any (v : Value) (l : List Par) (hl : l.length ≤ 140737488351232) (hM : ∀ p ∈ l, p.name.size ≤ 140737488351232) (w : World) (hr : Rd w v l) :
    Calls Tryd.prog 26 #[v, .func (.func 27) #[] #[]] w fun e w' => e = .returned (.bool (!l.all mayP)) ∧ Below w.heap.size w w' := by
  have HK : Hid (Calls Tryd.prog 39 #[v, .func (.func 27) #[] #[]] w fun e w' => (∃ x : Int, e = .returned (.int .i64 x) ∧ -1 ≤ x ∧ (0 ≤ x ↔ l.all mayP = false)) ∧ Below w.heap.size w w') := indexFunc_any v l hl hM w hr
  obtain ⟨N, hN⟩ : ∃ N, l.all mayP = N := ⟨_, rfl⟩
  rw [hN] at HK ⊢
  clear hN
  go_enter Tryd.func26, Tryd.ntmps26
  go_wp2_with (go_at_call 39; refine HK.out.mono ?_; rintro e w1 ⟨⟨x, rfl, hx1, hx2⟩, hb1⟩; have HX : Hid (0 ≤ x ↔ N = false) := hx2; clear hx2)
  go_ret
  refine ⟨ret_bool ?_, hb1⟩
  have := HX.out
  cases N
  · simp only [Bool.not_false, decide_eq_true_eq]; exact this.2 rfl
  · simp only [Bool.not_true, decide_eq_false_iff_not]; intro h; exact absurd (this.1 h) (by decide)

set_option maxRecDepth 100000 in
set_option maxHeartbeats 1000000 in
theorem fits1_any (p : Par) (hs : p.name.size ≤ 140737488351232) (q : Option Addr) (n d : Nat) (hn : n ≤ 140737488351232) (w : World) :
    Calls Tryd.prog 38 #[pv p, .slice q n d] w fun e w' => e = .returned (.bool (decide ((n : Int) = numP p))) ∧ Below w.heap.size w w' := by
  have KN := sNumbers_any p hs
  obtain ⟨U, hU⟩ : ∃ U, numP p = U := ⟨_, rfl⟩
  rw [hU]
  simp only [hU] at KN
  unfold pv at KN ⊢
  have HK : Hid (∀ w, Calls Tryd.prog 15 #[.agg #[.string p.name, .int .i64 p.kind, .int .i64 p.len]] w fun e w' => e = .returned (.int .i64 U) ∧ Below w.heap.size w w') := KN
  clear KN hU
  go_enter Tryd.func38, Tryd.ntmps38
  go_wp2_with (go_at_call 15; refine (HK.out _).mono ?_; rintro e w1 ⟨rfl, hb1⟩)
  go_ret
  exact ⟨ret_bool (by rw [Bool.eq_iff_iff]; simp), bel (bel_alloc _ _) hb1⟩

set_option maxRecDepth 100000 in
set_option maxHeartbeats 2000000 in
theorem equalFunc_any (v u : Value) (l : List Par) (ns : List Nat) (hl : l.length ≤ 140737488351232) (hnl : ns.length ≤ 140737488351232) (hM : ∀ p ∈ l, p.name.size ≤ 140737488351232) (hb9 : ∀ n ∈ ns, n ≤ 140737488351232) (w : World) (hr : Rd w v l) (hu : Vs w u ns) :
    Calls Tryd.prog 37 #[v, u, .func (.func 38) #[] #[]] w fun e w' => e = .returned (.bool (fitsP l ns)) ∧ Below w.heap.size w w' := by
  obtain ⟨p, c, rfl, hr⟩ := hr
  obtain ⟨p', c', rfl, hu⟩ := hu
  obtain ⟨n, hn⟩ : ∃ n, l.length = n := ⟨_, rfl⟩
  have HN : Hid (l.length = n) := hn
  have HR : Hid (Row w p l) := hr
  have HM : Hid (∀ p ∈ l, p.name.size ≤ 140737488351232) := hM
  have HB9 : Hid (∀ n ∈ ns, n ≤ 140737488351232) := hb9
  have HU : Hid (ns = [] ∨ ∃ b o, p' = some ⟨b, o, none⟩ ∧ ∀ i (h : i < ns.length), ∃ q d, w.cell? ⟨b, o + i, none⟩ = some (.slice q ns[i] d)) := hu
  rw [hn] at hl ⊢
  clear hr hM hb9 hu
  by_cases hne : n = ns.length
  · have HNS : Hid (ns.length = n) := hne.symm
    have HI : Hid (fitsP l ns = true ↔ ∀ i (h : i < l.length) (h' : i < ns.length), (ns[i] : Int) = numP l[i]) := fits_iff (by rw [hn]; exact hne)
    rw [← hne]
    clear hne hn hnl
    go_enter Tryd.func37, Tryd.ntmps37
    go_wp2
    go_loopw [17] (fun iv wr => Below w.heap.size w wr ∧ ∃ j : Nat, j ≤ n ∧ iv = .int .i64 j ∧ Hid (∀ i (h : i < l.length) (h' : i < ns.length), i < j → (ns[i] : Int) = numP l[i])) (fun iv _ => n - (intOf iv).toNat)
    case atStart => exact ⟨bel0 w, 0, Nat.zero_le _, rfl, fun i _ _ hi => absurd hi (Nat.not_lt_zero _)⟩
    case round =>
      obtain ⟨hb, j, hj, rfl, hp⟩ := hrel
      by_cases hlt : j < n
      · have hll : j < l.length := by rw [HN.out]; exact hlt
        have hlm : j < ns.length := by rw [HNS.out]; exact hlt
        obtain ⟨b, o, rfl, hx⟩ := HR.out.at hll
        obtain ⟨x0, x1, x2⟩ := hx.below hb
        obtain ⟨b', o', rfl, q, d, hz⟩ : ∃ b' o', p' = some ⟨b', o', none⟩ ∧ ∃ q d, w.cell? ⟨b', o' + j, none⟩ = some (.slice q ns[j] d) := by
          rcases HU.out with h | ⟨b', o', hp', h⟩
          · rw [h] at hlm; exact absurd hlm (Nat.not_lt_zero _)
          · exact ⟨b', o', hp', h j hlm⟩
        have z0 := keepc hb hz
        have zlt := mcell_lt z0
        have z1 : b' ≠ wr.heap.size := by simp at zlt; omega
        have j1 : (0 : Int) ≤ (j : Int) := by omega
        have j2 : (j : Int) < (n : Int) := by omega
        have hm9 := HB9.out _ (List.getElem_mem hlm)
        have KN := fun w => fits1_any l[j] (HM.out _ (List.getElem_mem hll)) q ns[j] d hm9 w
        unfold pv at KN
        have NX : Hid ((ns[j] : Int) = numP l[j] → ∀ i (h : i < l.length) (h' : i < ns.length), i < j + 1 → (ns[i] : Int) = numP l[i]) := fun e i h h' hi => by
          by_cases e' : i = j
          · subst e'; exact e
          · exact hp.out i h h' (by omega)
        have NB : Hid ((ns[j] : Int) ≠ numP l[j] → fitsP l ns = false) := fun e => by
          cases hf : fitsP l ns
          · rfl
          · exact absurd (HI.out.1 hf j hll hlm) e
        obtain ⟨m, hm⟩ : ∃ m, ns[j] = m := ⟨_, rfl⟩
        obtain ⟨U, hU⟩ : ∃ U, numP l[j] = U := ⟨_, rfl⟩
        rw [hm, hU] at NX NB
        rw [hm] at z0 hm9
        simp only [hU, hm] at KN
        have z2 : (wr.alloc (.cells #[.string l[j].name, .int .i64 l[j].kind, .int .i64 l[j].len] 30)).cell? ⟨b', o' + j, none⟩ = some (.slice q m d) := keepc (bel_alloc _ _) z0
        clear hx hm hU hp hz HI zlt z1
        by_cases hq : (m : Int) = U
        · have hd : decide ((m : Int) = U) = true := by simpa using hq
          simp only [hd] at KN
          have HK : Hid (∀ w, Calls Tryd.prog 38 #[.agg #[.string l[j].name, .int .i64 l[j].kind, .int .i64 l[j].len], .slice q m d] w fun e w' => e = .returned (.bool true) ∧ Below w.heap.size w w') := KN
          have HQ : Hid ((m : Int) = U) := hq
          clear KN hd hq
          go_wp2_with (go_at_call 38; refine (HK.out _).mono ?_; rintro e w1 ⟨rfl, hb3⟩)
          go_roundw
          case rel => exact ⟨bel (bel hb (by go_grown)) hb3, j + 1, by omega, by go_num, NX.out HQ.out⟩
          case measure => simp [intOf]; omega
        · have hd : decide ((m : Int) = U) = false := by simpa using hq
          simp only [hd] at KN
          have HK : Hid (∀ w, Calls Tryd.prog 38 #[.agg #[.string l[j].name, .int .i64 l[j].kind, .int .i64 l[j].len], .slice q m d] w fun e w' => e = .returned (.bool false) ∧ Below w.heap.size w w') := KN
          have HQ : Hid (fitsP l ns = false) := NB.out hq
          clear KN hd hq NX NB
          go_wp2_with (go_at_call 38; refine (HK.out _).mono ?_; rintro e w1 ⟨rfl, hb3⟩)
          go_ret
          exact ⟨ret_bool HQ.out.symm, bel (bel hb (by go_grown)) hb3⟩
      · have : j = n := by omega
        subst this
        have HF : Hid (fitsP l ns = true) := HI.out.2 fun i h h' => hp.out i h h' (by rw [← HN.out]; exact h)
        clear hp HI
        go_wp2
        go_ret
        exact ⟨ret_bool HF.out.symm, hb⟩
  · have hf : fitsP l ns = false := fits_len (by rw [hn]; exact hne)
    have hne' : ((n : Int) == (ns.length : Int)) = false := by rw [beq_eq_false_iff_ne]; omega
    rw [hf]
    obtain ⟨m, hm⟩ : ∃ m, ns.length = m := ⟨_, rfl⟩
    rw [hm] at hne' hnl ⊢
    clear hf hne hn HU HB9 hm
    go_enter Tryd.func37, Tryd.ntmps37
    go_wp2
    all_goals (go_ret; exact ⟨rfl, bel0 w⟩)

set_option maxRecDepth 100000 in
theorem sFits_any (v u : Value) (l : List Par) (ns : List Nat) (hl : l.length ≤ 140737488351232) (hnl : ns.length ≤ 140737488351232) (hM : ∀ p ∈ l, p.name.size ≤ 140737488351232) (hb9 : ∀ n ∈ ns, n ≤ 140737488351232) (w : World) (hr : Rd w v l) (hu : Vs w u ns) :
    Calls Tryd.prog 23 #[v, u] w fun e w' => e = .returned (.bool (fitsP l ns)) ∧ Below w.heap.size w w' := by
  have HK : Hid (Calls Tryd.prog 37 #[v, u, .func (.func 38) #[] #[]] w fun e w' => e = .returned (.bool (fitsP l ns)) ∧ Below w.heap.size w w') := equalFunc_any v u l ns hl hnl hM hb9 w hr hu
  go_enter Tryd.func23, Tryd.ntmps23
  go_wp2_with (go_at_call 37; refine HK.out.mono ?_; rintro e w1 ⟨rfl, hb⟩)
  go_ret
  exact ⟨rfl, hb⟩

end Go.Proofs.YtmpfoajpafglgaaDoor
