import Derived.Test.YtpidjmgifglmiabTreeMem
/- Package tree: walk, for whatever is handed to it. -/
namespace Go.Proofs.Ytpidjmgifglmiab
open Go.RowKit
set_option linter.unusedVariables false
set_option linter.unusedSimpArgs false

/-- Where a node stands. -/
def Ab (L : World → Nat → Nat → Nd → Prop) (w : World) (av : Option Addr) (u : Option Nd) : Prop :=
  (av = none ∧ u = none) ∨ ∃ b o t, av = some ⟨b, o, none⟩ ∧ u = some t ∧ L w b o t

/-- A function that is asked at the nodes: what it does to a state. -/
structure Looks {σ : Type} (k : Nat) (cap : Array Value) (g : σ → Nd → Int → Option Nd → Bool × σ) (R : World → World → Prop) (L : World → Nat → Nat → Nd → Prop) (I : Nat → σ → World → Prop) : Prop where
  ent : Ent k
  rb : ∀ w w' : World, Below w.heap.size w w' → R w w'
  rt : ∀ a b c, R a b → R b c → R a c
  rc : ∀ (w w' : World) (G : Nat) (x y : Value), R w w' → w.heap[G]? = some (.cells #[x, y] 47) → w'.heap[G]? = some (.cells #[x, y] 47)
  lr : ∀ w w' b o t, L w b o t → R w w' → L w' b o t
  lk : ∀ (w : World) (b o : Nat) (t : Nd), L w b o t → ∃ p c, w.cell? ⟨b, o + 5, none⟩ = some (.slice p t.args.length c) ∧ (t.args = [] ∨ ∃ b' o', p = some ⟨b', o', none⟩ ∧ ∀ i (h : i < t.args.length), L w b' (o' + i * 7) t.args[i])
  lc : ∀ (w w' : World) (b o : Nat) (t : Nd) (v : Value), L w b o t → R w w' → w.cell? ⟨b, o + 5, none⟩ = some v → w'.cell? ⟨b, o + 5, none⟩ = some v
  ib : ∀ m s (w w' : World), I m s w → Below w.heap.size w w' → I m s w'
  im : ∀ m m' s w, m ≤ m' → I m' s w → I m s w
  look : ∀ (m : Nat) (s : σ) (w : World) (b o : Nat) (t : Nd) (d : Int) (av : Option Addr) (u : Option Nd), I (m + 1) s w → L w b o t → Ab L w av u →
    Calls Try.prog k (#[.pointer (some ⟨b, o, none⟩), .agg #[.int .i64 d, .pointer av]] ++ cap) w fun e w' => e = .returned (.bool (g s t d u).1) ∧ I m (g s t d u).2 w' ∧ R w w'

theorem Ab.r {σ : Type} {k : Nat} {cap : Array Value} {g : σ → Nd → Int → Option Nd → Bool × σ} {R : World → World → Prop} {L : World → Nat → Nat → Nd → Prop} {I : Nat → σ → World → Prop}
    (H : Looks k cap g R L I) {w w' : World} {av : Option Addr} {u : Option Nd} (h : Ab L w av u) (r : R w w') : Ab L w' av u := by
  rcases h with h | ⟨b, o, t, h1, h2, h3⟩
  · exact .inl h
  · exact .inr ⟨b, o, t, h1, h2, H.lr _ _ _ _ _ h3 r⟩

theorem box_heap (w : World) (x : Obj) : (w.alloc x).heap[w.heap.size]? = some x := (MapKept.heap_alloc w _).1
theorem box_cell {w : World} {G : Nat} {x y : Value} {t : TypeId} (h : w.heap[G]? = some (.cells #[x, y] t)) : w.cell? ⟨G, 0, none⟩ = some x ∧ w.cell? ⟨G, 1, none⟩ = some y := by
  simp [World.cell?, h]

set_option maxRecDepth 100000 in
set_option maxHeartbeats 2000000 in
theorem walk_any {σ : Type} {k : Nat} {cap : Array Value} {g : σ → Nd → Int → Option Nd → Bool × σ} {R : World → World → Prop} {L : World → Nat → Nat → Nd → Prop} {I : Nat → σ → World → Prop}
    (H : Looks k cap g R L I) : ∀ (N : Nat) (t : Nd) (m : Nat) (s : σ) (w : World) (b o : Nat) (d : Int) (av : Option Addr) (u : Option Nd), dep t ≤ N → cnt t ≤ 9000 → 0 ≤ d → d + N ≤ 20000 → I (m + cnt t) s w → L w b o t → Ab L w av u →
    Calls Try.prog 22 #[.pointer (some ⟨b, o, none⟩), .agg #[.int .i64 d, .pointer av], .func (.func k) #[] cap] w fun e w' => e = .returned (.bool (wk g t d u s).1) ∧ I m (wk g t d u s).2 w' ∧ R w w' := by
  intro N
  induction N with
  | zero => intro t m s w b o d av u hd; unfold dep at hd; omega
  | succ N ih =>
    intro t m s w b o d av u hd hc d0 d1 hI hL hA
    have hen := H.ent
    unfold Ent at hen
    have hB1 := bel_alloc w (.cells #[.int .i64 d, .pointer av] 47)
    have HK := H.look (m + cntL t.args) s _ b o t d av u (H.ib _ _ _ _ (by rw [show m + cntL t.args + 1 = m + cnt t by unfold cnt; omega]; exact hI) hB1) (H.lr _ _ _ _ _ hL (H.rb _ _ hB1)) (hA.r H (H.rb _ _ hB1))
    have hbx := box_heap w (.cells #[.int .i64 d, .pointer av] 47)
    obtain ⟨gb, s1, hg⟩ : ∃ gb s1, g s t d u = (gb, s1) := ⟨_, _, rfl⟩
    have ew : wk g t d u s = if gb then wkL g t.args (d + 1) (some t) s1 else (false, s1) := by unfold wk; rw [hg]
    rw [hg] at HK
    have HK1 : Hid (Calls Try.prog k (#[.pointer (some ⟨b, o, none⟩), .agg #[.int .i64 d, .pointer av]] ++ cap) (w.alloc (.cells #[.int .i64 d, .pointer av] 47)) fun e w' => e = .returned (.bool gb) ∧ I (m + cntL t.args) s1 w' ∧ R w w' ∧ w'.heap[w.heap.size]? = some (.cells #[.int .i64 d, .pointer av] 47)) :=
      HK.mono fun e w' h => ⟨h.1, h.2.1, H.rt _ _ _ (H.rb _ _ hB1) h.2.2, H.rc _ _ _ _ _ h.2.2 hbx⟩
    rw [ew]
    clear HK hbx ew hI
    cases gb with
    | false =>
      go_enter Try.func22, Try.ntmps22
      go_wp2_with ((with_reducible refine HK1.out.mono ?_); rintro e w2 ⟨rfl, hI2, hR2, hx2⟩)
      go_ret
      exact ⟨rfl, H.im _ _ _ _ (by omega) hI2, hR2⟩
    | true =>
      have hlen : t.args.length ≤ 9000 := by have := cntL_len t.args; unfold cnt at hc; omega
      obtain ⟨n, hn⟩ : ∃ n, t.args.length = n := ⟨_, rfl⟩
      have HN : Hid (t.args.length = n) := hn
      rw [hn] at hlen
      clear hn
      have hlk : ∀ v, R w v → ∃ p c, v.cell? ⟨b, o + 5, none⟩ = some (.slice p n c) ∧ (t.args = [] ∨ ∃ b' o', p = some ⟨b', o', none⟩ ∧ ∀ i (h : i < t.args.length), L v b' (o' + i * 7) t.args[i]) := fun v hv => by
        obtain ⟨p, c, h1, h2⟩ := H.lk v b o t (H.lr _ _ _ _ _ hL hv)
        rw [HN.out] at h1
        exact ⟨p, c, h1, h2⟩
      have HLK : Hid (∀ v, R w v → ∃ p c, v.cell? ⟨b, o + 5, none⟩ = some (.slice p n c) ∧ (t.args = [] ∨ ∃ b' o', p = some ⟨b', o', none⟩ ∧ ∀ i (h : i < t.args.length), L v b' (o' + i * 7) t.args[i])) := hlk
      clear hlk
      go_enter Try.func22, Try.ntmps22
      go_wp2_with ((with_reducible refine HK1.out.mono ?_); rintro e w2 ⟨rfl, hI2, hR2, hx2⟩; obtain ⟨p, c, h5, -⟩ := HLK.out w2 hR2)
      go_loopw [18] (fun iv wr => R w wr ∧ ∃ j : Nat, j ≤ n ∧ iv = .int .i64 j ∧ wr.heap[w.heap.size]? = some (.cells #[.int .i64 d, .pointer av] 47) ∧ Hid ((wkL g (t.args.take j) (d + 1) (some t) s1).1 = true ∧ I (m + cntL (t.args.drop j)) (wkL g (t.args.take j) (d + 1) (some t) s1).2 wr)) (fun iv _ => n - (intOf iv).toNat)
      case atStart => exact ⟨hR2, 0, Nat.zero_le _, rfl, hx2, by rw [List.take_zero, wkL_nil, List.drop_zero]; exact ⟨rfl, hI2⟩⟩
      case round =>
        obtain ⟨hR, j, hj, rfl, hx, hS⟩ := hrel
        clear HK1 h5 hx2 hI2
        by_cases hlt : j < n
        · obtain ⟨p', c', h5', hk0⟩ := HLK.out wr hR
          have hll : j < t.args.length := by rw [HN.out]; exact hlt
          obtain ⟨b', o', rfl, hk⟩ : ∃ b' o', p' = some ⟨b', o', none⟩ ∧ ∀ i (h : i < t.args.length), L wr b' (o' + i * 7) t.args[i] := by
            rcases hk0 with hk | hk
            · rw [hk] at hll; exact absurd hll (Nat.not_lt_zero _)
            · exact hk
          clear hk0
          have hbx := (box_cell hx).1
          obtain ⟨cb, s2, hcb⟩ : ∃ cb s2, wk g t.args[j] (d + 1) (some t) (wkL g (t.args.take j) (d + 1) (some t) s1).2 = (cb, s2) := ⟨_, _, rfl⟩
          have hdr : cntL (t.args.drop j) = cnt t.args[j] + cntL (t.args.drop (j + 1)) := by rw [List.drop_eq_getElem_cons hll, cntL_cons]
          have hnx : wkL g (t.args.take (j + 1)) (d + 1) (some t) s1 = (cb, s2) := by rw [wkL_take g hll _ _ _ hS.out.1, hcb]
          have HW : Hid (∀ v, Below wr.heap.size wr v → Calls Try.prog 22 #[.pointer (some ⟨b', o' + j * 7, none⟩), .agg #[.int .i64 (d + 1), .pointer (some ⟨b, o, none⟩)], .func (.func k) #[] cap] v fun e v' => e = .returned (.bool cb) ∧ I (m + cntL (t.args.drop (j + 1))) s2 v' ∧ R wr v' ∧ v'.heap[w.heap.size]? = some (.cells #[.int .i64 d, .pointer av] 47) ∧ v'.cell? ⟨w.heap.size, 0, none⟩ = some (.int .i64 d) ∧ v'.cell? ⟨b, o + 5, none⟩ = some (.slice (some ⟨b', o', none⟩) n c')) := fun v hv => by
            have hRv := H.rb _ _ hv
            have := ih t.args[j] (m + cntL (t.args.drop (j + 1))) _ v b' (o' + j * 7) (d + 1) (some ⟨b, o, none⟩) (some t) (by have := dep_get hll; unfold dep at hd ⊢; unfold dep at this; omega) (by have := cnt_get hll; unfold cnt at hc ⊢; unfold cnt at this; omega) (by omega) (by omega)
              (H.ib _ _ _ _ (by rw [show m + cntL (t.args.drop (j + 1)) + cnt t.args[j] = m + cntL (t.args.drop j) by omega]; exact hS.out.2) hv) (H.lr _ _ _ _ _ (hk j hll) hRv) (.inr ⟨b, o, t, rfl, rfl, H.lr _ _ _ _ _ hL (H.rt _ _ _ hR hRv)⟩)
            rw [hcb] at this
            refine this.mono fun e v' ⟨he, hi, hr⟩ => ?_
            have hrr := H.rt _ _ _ hRv hr
            have hx' := H.rc _ _ _ _ _ hrr hx
            exact ⟨he, hi, hrr, hx', (box_cell hx').1, H.lc _ _ _ _ _ _ (H.lr _ _ _ _ _ hL hR) hrr h5'⟩
          have wd : IntKind.i64.wrap (d + 1) = d + 1 := by rw [IntKind.wrap_i64]; omega
          have i1 : (0 : Int) ≤ (j : Int) := by omega
          have i2 : (j : Int) < (n : Int) := by omega
          have HH : Hid (wkL g (t.args.take (j + 1)) (d + 1) (some t) s1 = (cb, s2)) := hnx
          clear hk hx hcb hdr hnx hS HLK hd hc hA hL ih
          cases cb with
          | false =>
            go_wp2
            go_region_held3 (fun w' => w'.cell? ⟨b, o + 5, none⟩ = some (.slice (some ⟨b', o', none⟩) n c') ∧ w'.cell? ⟨w.heap.size, 0, none⟩ = some (.int .i64 d)) (go_keep) (first
              | (go_at_call 22; (with_reducible refine (HW.out _ ?_).mono ?_); (first | exact bel_d _ | exact bel_dn _ _ | go_grown); rintro e w3 ⟨rfl, hI3, hR3, hx3, hx4, hx5⟩))
            go_wp2
            go_ret
            rw [wkL_stop g (i := j + 1) (by omega) _ _ _ (by rw [HH.out]), HH.out]
            exact ⟨rfl, H.im _ _ _ _ (by omega) hI3, H.rt _ _ _ hR hR3⟩
          | true =>
            go_wp2
            go_region_held3 (fun w' => w'.cell? ⟨b, o + 5, none⟩ = some (.slice (some ⟨b', o', none⟩) n c') ∧ w'.cell? ⟨w.heap.size, 0, none⟩ = some (.int .i64 d)) (go_keep) (first
              | (go_at_call 22; (with_reducible refine (HW.out _ ?_).mono ?_); (first | exact bel_d _ | exact bel_dn _ _ | go_grown); rintro e w3 ⟨rfl, hI3, hR3, hx3, hx4, hx5⟩))
            go_wp2
            go_roundw
            case rel => exact ⟨H.rt _ _ _ hR hR3, j + 1, by omega, by go_num, hx3, by rw [HH.out]; exact ⟨rfl, hI3⟩⟩
            case measure => simp [intOf]; omega
        · have : j = n := by omega
          subst this
          go_wp2
          go_ret
          obtain ⟨h1, h2⟩ := hS.out
          rw [List.take_of_length_le (by rw [HN.out]; exact Nat.le_refl _)] at h1 h2
          rw [List.drop_of_length_le (by rw [HN.out]; exact Nat.le_refl _), cntL_nil, Nat.add_zero] at h2
          exact ⟨ret_bool h1.symm, h2, hR⟩

end Go.Proofs.Ytpidjmgifglmiab
