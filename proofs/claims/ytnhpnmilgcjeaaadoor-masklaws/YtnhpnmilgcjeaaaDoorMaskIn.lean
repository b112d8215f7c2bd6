import Derived.Test.YtnhpnmilgcjeaaaDoorMaskTree
/- The reference: In. -/
namespace Go.Proofs.YtnhpnmilgcjeaaaDoor
open Go.RowKit
set_option linter.unusedVariables false
set_option linter.unusedSimpArgs false

theorem headD_map (f : Nd → Bool) (l : List Nd) (h : 0 < l.length) : (l.map f).headD false = f l[0] := by
  cases l with
  | nil => exact absurd h (Nat.not_lt_zero _)
  | cons a r => rfl
theorem mkeep {w w' : World} {a : Addr} {v : Value} (k : Below w.heap.size w w') (h : w.cell? a = some v) : w'.cell? a = some v := (k.cell (mcell_lt h)).trans h
/-- The two boxes of a call of In. -/
def Boxes (w : World) (B : Nat) (a b : Array Value) (tn tp : TypeId) : Prop := w.heap[B]? = some (.cells a tn) ∧ w.heap[B + 1]? = some (.cells b tp)
theorem Boxes.below {w w' : World} {B : Nat} {a b : Array Value} {tn tp : TypeId} (h : Boxes w B a b tn tp) (k : Below w.heap.size w w') : Boxes w' B a b tn tp :=
  ⟨by rw [k.block _ (hlt h.1)]; exact h.1, by rw [k.block _ (hlt h.2)]; exact h.2⟩
theorem boxes_new (w : World) (a b : Array Value) (tn tp : TypeId) : Boxes ((w.alloc (.cells a tn)).alloc (.cells b tp)) w.heap.size a b tn tp := by
  refine ⟨?_, ?_⟩
  · rw [(bel_alloc (w.alloc (.cells a tn)) (.cells b tp)).block _ (by simp)]
    exact box_heap w _
  · have := box_heap (w.alloc (.cells a tn)) (.cells b tp)
    rw [show (w.alloc (.cells a tn)).heap.size = w.heap.size + 1 by simp] at this
    exact this

def InTo (N : Nat) : Prop := ∀ (t : Nd) (p : Option Addr) (c : Nat) (q : Par) (ps : List Par) (w : World), dep t ≤ N → cnt t ≤ 40000 → ok1 t → q.name.size ≤ 140737488351232 → (faultM ps t).1 = 0 → Kids w anyH (.slice p t.args.length c) t.args →
  Calls Tryd.prog 27 #[nv t (.slice p t.args.length c), pv q] w fun e w' => e = .returned (.bool (inM q t)) ∧ Below w.heap.size w w'
set_option maxRecDepth 100000 in
set_option maxHeartbeats 8000000 in
theorem rIn_to : ∀ N, InTo N := by
  intro N
  induction N with
  | zero => intro t p c q ps w hd; unfold dep at hd; omega
  | succ N ih =>
    intro t p c q ps w hd hc hok hqs hf hk
    have hlen : t.args.length ≤ 40000 := by have := cntL_len t.args; unfold cnt at hc; omega
    have hsz : t.name.size ≤ 140737488351232 := hok.1.1
    obtain ⟨n, hn⟩ : ∃ n, t.args.length = n := ⟨_, rfl⟩
    have HN : Hid (t.args.length = n) := hn
    have HK : Hid (Kids w anyH (.slice p t.args.length c) t.args) := hk
    have hin : inM q t = inOne t.kind t.name q (inL q t.args) := rfl
    have hcall := fault_call hf
    have hsub : ∀ j (hj : j < t.args.length), dep t.args[j] ≤ N ∧ cnt t.args[j] ≤ 40000 ∧ ok1 t.args[j] := fun j hj =>
      ⟨by have := dep_get hj; unfold dep at hd ⊢; unfold dep at this; omega, by have := cnt_get hj; unfold cnt at hc; omega, okL_get hok.2 hj⟩
    have HIH : Hid (∀ j (hj : j < t.args.length) (q1 : Option Addr) (d1 : Nat) (v : World), (faultM ps t.args[j]).1 = 0 → Kids v anyH (.slice q1 t.args[j].args.length d1) t.args[j].args →
        Calls Tryd.prog 27 #[nv t.args[j] (.slice q1 t.args[j].args.length d1), pv q] v fun e w' => e = .returned (.bool (inM q t.args[j])) ∧ Below v.heap.size v w') := fun j hj q1 d1 v h1 h2 => ih t.args[j] q1 d1 q ps v (hsub j hj).1 (hsub j hj).2.1 (hsub j hj).2.2 hqs h1 h2
    obtain ⟨K, hK⟩ : ∃ K, t.kind = K := ⟨_, rfl⟩
    obtain ⟨X, hXX⟩ : ∃ X, t.name = X := ⟨_, rfl⟩
    unfold nv pv at HIH ⊢
    rw [hin]
    rw [hn, hK, hXX]
    rw [hK, hXX] at hcall
    rw [hXX] at hsz
    obtain ⟨P, Q, L⟩ := q
    simp only at hqs HIH ⊢
    have HBX : Hid (Boxes ((w.alloc (.cells #[.int .i64 K, .string X, .int .u32 t.num, .int .i64 t.int_, .string t.key, .slice p n c, .int .i64 t.at_] 29)).alloc (.cells #[.string P, .int .i64 Q, .int .i64 L] 51)) w.heap.size #[.int .i64 K, .string X, .int .u32 t.num, .int .i64 t.int_, .string t.key, .slice p n c, .int .i64 t.at_] #[.string P, .int .i64 Q, .int .i64 L] 29 51) := boxes_new w _ _ _ _
    have HB0 : Hid (Below w.heap.size w ((w.alloc (.cells #[.int .i64 K, .string X, .int .u32 t.num, .int .i64 t.int_, .string t.key, .slice p n c, .int .i64 t.at_] 29)).alloc (.cells #[.string P, .int .i64 Q, .int .i64 L] 51))) := bel (bel_alloc _ _) (bel_alloc _ _)
    have KM : Hid (∀ v, Calls Tryd.prog 9 #[.string X, .string P] v fun e w' => e = .returned (.bool (matchP (gs X) (gs P))) ∧ Below v.heap.size v w') := fun v => rMatch_any X P (by omega) (by omega) v
    clear ih hin hsub hk hn hXX hf
    cases h5 : (K == 5)
    · have hcl := hcall h5
      have hcl2 := hcl.2.1
      have HKF : Hid (∀ i (h : i < t.args.length), (faultM ps t.args[i]).1 = 0) := fun i h => (hcl.2.2 i h).2
      rw [HN.out] at hcl2
      have hio : ∀ s, inOne K X ⟨P, Q, L⟩ s = (if gs X == nAll then true else if gs X == nReal then Q == 1 else if gs X == nComplex then Q == 2 else if gs X == nNot then !(s.headD false) else if gs X == nAnd then s.all id else if gs X == nOr then s.any id else false) := fun s => by unfold inOne; rw [h5]; rfl
      rw [hio]
      clear hcall hcl hio hK
      by_cases hX : gs X = nAll
      · skip
        have eAll : (X.toList == [97, 108, 108]) = true := name_is hX
        rw [show (if gs X == nAll then true else if gs X == nReal then Q == 1 else if gs X == nComplex then Q == 2 else if gs X == nNot then !((inL ⟨P, Q, L⟩ t.args).headD false) else if gs X == nAnd then (inL ⟨P, Q, L⟩ t.args).all id else if gs X == nOr then (inL ⟨P, Q, L⟩ t.args).any id else false) = true by rw [hX]; rfl]
        clear HIH HKF KM hcl2 hX
        go_enter Tryd.func27, Tryd.ntmps27
        go_wp2
        go_ret
        exact ⟨rfl, HB0.out⟩
      · by_cases hX' : gs X = nReal
        · have hX := hX'
          clear hX'
          have eAll : (X.toList == [97, 108, 108]) = false := by rw [toList_gs, hX]; rfl
          have eReal : (X.toList == [114, 101, 97, 108]) = true := name_is hX
          rw [show (if gs X == nAll then true else if gs X == nReal then Q == 1 else if gs X == nComplex then Q == 2 else if gs X == nNot then !((inL ⟨P, Q, L⟩ t.args).headD false) else if gs X == nAnd then (inL ⟨P, Q, L⟩ t.args).all id else if gs X == nOr then (inL ⟨P, Q, L⟩ t.args).any id else false) = (Q == 1) by rw [hX]; rfl]
          clear HIH HKF KM hcl2 hX
          go_enter Tryd.func27, Tryd.ntmps27
          go_wp2
          go_ret
          exact ⟨rfl, HB0.out⟩
        · by_cases hX'' : gs X = nComplex
          · have hX := hX''
            clear hX' hX''
            have eAll : (X.toList == [97, 108, 108]) = false := by rw [toList_gs, hX]; rfl
            have eReal : (X.toList == [114, 101, 97, 108]) = false := by rw [toList_gs, hX]; rfl
            have eComplex : (X.toList == [99, 111, 109, 112, 108, 101, 120]) = true := name_is hX
            rw [show (if gs X == nAll then true else if gs X == nReal then Q == 1 else if gs X == nComplex then Q == 2 else if gs X == nNot then !((inL ⟨P, Q, L⟩ t.args).headD false) else if gs X == nAnd then (inL ⟨P, Q, L⟩ t.args).all id else if gs X == nOr then (inL ⟨P, Q, L⟩ t.args).any id else false) = (Q == 2) by rw [hX]; rfl]
            clear HIH HKF KM hcl2 hX
            go_enter Tryd.func27, Tryd.ntmps27
            go_wp2
            go_ret
            exact ⟨rfl, HB0.out⟩
          · by_cases hX3 : gs X = nNot
            · have hX := hX3
              clear hX' hX'' hX3
              have eAll : (X.toList == [97, 108, 108]) = false := by rw [toList_gs, hX]; rfl
              have eReal : (X.toList == [114, 101, 97, 108]) = false := by rw [toList_gs, hX]; rfl
              have eComplex : (X.toList == [99, 111, 109, 112, 108, 101, 120]) = false := by rw [toList_gs, hX]; rfl
              have eNot : (X.toList == [110, 111, 116]) = true := name_is hX
              rw [show (if gs X == nAll then true else if gs X == nReal then Q == 1 else if gs X == nComplex then Q == 2 else if gs X == nNot then !((inL ⟨P, Q, L⟩ t.args).headD false) else if gs X == nAnd then (inL ⟨P, Q, L⟩ t.args).all id else if gs X == nOr then (inL ⟨P, Q, L⟩ t.args).any id else false) = (!((inL ⟨P, Q, L⟩ t.args).headD false)) by rw [hX]; rfl]
              have hn1 : n = 1 := by
                unfold okName at hcl2
                rw [hX] at hcl2
                simpa [nAll, nNone, nReal, nComplex, nNot] using hcl2
              have hll : 0 < t.args.length := by rw [HN.out]; omega
              have hhd : (inL ⟨P, Q, L⟩ t.args).headD false = inM ⟨P, Q, L⟩ t.args[0] := by rw [inL_map, headD_map _ _ hll]
              rw [hhd]
              clear hX hcl2 hhd KM
              subst hn1
              obtain ⟨V, hV⟩ : ∃ V, inM ⟨P, Q, L⟩ t.args[0] = V := ⟨_, rfl⟩
              rw [hV]
              have HVV : Hid (inM ⟨P, Q, L⟩ t.args[0] = V) := hV
              clear hV
              go_enter Tryd.func27, Tryd.ntmps27
              go_upto_region 11 with fail
              obtain ⟨W, hW⟩ : ∃ W, (w.alloc (.cells #[.int .i64 K, .string X, .int .u32 t.num, .int .i64 t.int_, .string t.key, .slice p 1 c, .int .i64 t.at_] 29)).alloc (.cells #[.string P, .int .i64 Q, .int .i64 L] 51) = W := ⟨_, rfl⟩
              rw [hW] at HBX HB0 ⊢
              clear hW
              obtain ⟨⟨g0, g1, g2, g3, g4, h5', g6⟩, -⟩ := seven HBX.out.1
              have z0 := cell_heap HBX.out.2 0
              have z1 := cell_heap HBX.out.2 1
              have z2 := cell_heap HBX.out.2 2
              have h5 := h5'
              simp only [List.getElem?_toArray, List.getElem?_cons_zero, List.getElem?_cons_succ] at z0 z1 z2
              obtain ⟨b1, o1, q1, d1, rfl, ⟨x0, x1, x2, x3, x4, x5, x6⟩, kx⟩ := kid_at HK.out HB0.out hll
              have HW : Hid (∀ v, Below W.heap.size W v → Calls Tryd.prog 27 #[.agg #[.int .i64 t.args[0].kind, .string t.args[0].name, .int .u32 t.args[0].num, .int .i64 t.args[0].int_, .string t.args[0].key, .slice q1 t.args[0].args.length d1, .int .i64 t.args[0].at_], .agg #[.string P, .int .i64 Q, .int .i64 L]] v fun e w' => e = .returned (.bool V) ∧ Below W.heap.size W w') := fun v hv => (HIH.out 0 hll q1 d1 v (HKF.out 0 hll) (kx.below hv)).mono fun e w' ⟨he, hb⟩ => ⟨by rw [he, HVV.out], bel hv hb⟩
              simp only [Nat.zero_mul, Nat.add_zero] at x0 x1 x2 x3 x4 x5 x6
              clear kx HIH HKF g0 g1 g2 g3 g4 g6 h5' HBX HVV
              refine wp_region_held_drew (S := (fun w' => w'.cell? ⟨w.heap.size, 5, none⟩ = some (.slice (some ⟨b1, o1, none⟩) 1 c) ∧ w'.cell? ⟨b1, o1, none⟩ = some (.int .i64 t.args[0].kind) ∧ w'.cell? ⟨b1, o1 + 1, none⟩ = some (.string t.args[0].name) ∧ w'.cell? ⟨b1, o1 + 2, none⟩ = some (.int .u32 t.args[0].num) ∧ w'.cell? ⟨b1, o1 + 3, none⟩ = some (.int .i64 t.args[0].int_) ∧ w'.cell? ⟨b1, o1 + 4, none⟩ = some (.string t.args[0].key) ∧ w'.cell? ⟨b1, o1 + 5, none⟩ = some (.slice q1 t.args[0].args.length d1) ∧ w'.cell? ⟨b1, o1 + 6, none⟩ = some (.int .i64 t.args[0].at_) ∧ w'.cell? ⟨w.heap.size + 1, 0, none⟩ = some (.string P) ∧ w'.cell? ⟨w.heap.size + 1, 1, none⟩ = some (.int .i64 Q) ∧ w'.cell? ⟨w.heap.size + 1, 2, none⟩ = some (.int .i64 L))) (by kernel_rfl) ?_ (fun hHeld => ?_)
              · ((try dsimp only); go_keep)
              refine wpAnyH_take (i := 0) (v := ?_) (by simp only [List.getElem?_toArray, List.getElem?_cons_succ, List.getElem?_cons_zero]; rfl) (by kernel_rfl) (by kernel_rfl) (by kernel_rfl) (by exact fun _ _ _ h => h) (Or.inl ⟨by rfl, ?_⟩) (by assumption) ?_
              rotate_left 1
              · (intro wS hSw; (try dsimp only at hSw); go_simp; try (with_reducible rfl))
              try simp only [Act.put, List.setIfInBounds_toArray, List.set_cons_zero, List.set_cons_succ]
              refine wpAnyH_take (i := 1) (v := ?_) (by simp only [List.getElem?_toArray, List.getElem?_cons_succ, List.getElem?_cons_zero]; rfl) (by kernel_rfl) (by kernel_rfl) (by kernel_rfl) (by exact fun _ _ _ h => h) (Or.inl ⟨by rfl, ?_⟩) (by assumption) ?_
              rotate_left 1
              · (intro wS hSw; (try dsimp only at hSw); go_simp; try (with_reducible rfl))
              try simp only [Act.put, List.setIfInBounds_toArray, List.set_cons_zero, List.set_cons_succ]
              refine wpAnyH_take (i := 2) (v := ?_) (by simp only [List.getElem?_toArray, List.getElem?_cons_succ, List.getElem?_cons_zero]; rfl) (by kernel_rfl) (by kernel_rfl) (by kernel_rfl) (by exact fun _ _ _ h => h) (Or.inl ⟨by rfl, ?_⟩) (by assumption) ?_
              rotate_left 1
              · (intro wS hSw; (try dsimp only at hSw); go_simp; try (with_reducible rfl))
              try simp only [Act.put, List.setIfInBounds_toArray, List.set_cons_zero, List.set_cons_succ]
              refine wpAnyH_take (i := 3) (v := ?_) (by simp only [List.getElem?_toArray, List.getElem?_cons_succ, List.getElem?_cons_zero]; rfl) (by kernel_rfl) (by kernel_rfl) (by kernel_rfl) (by exact fun _ _ _ h => h) (Or.inl ⟨by rfl, ?_⟩) (by assumption) ?_
              rotate_left 1
              · (intro wS hSw; (try dsimp only at hSw); go_simp; try (with_reducible rfl))
              try simp only [Act.put, List.setIfInBounds_toArray, List.set_cons_zero, List.set_cons_succ]
              refine wpAnyH_take (i := 4) (v := ?_) (by simp only [List.getElem?_toArray, List.getElem?_cons_succ, List.getElem?_cons_zero]; rfl) (by kernel_rfl) (by kernel_rfl) (by kernel_rfl) (by exact fun _ _ _ h => h) (Or.inl ⟨by rfl, ?_⟩) (by assumption) ?_
              rotate_left 1
              · (intro wS hSw; (try dsimp only at hSw); go_simp; try (with_reducible rfl))
              try simp only [Act.put, List.setIfInBounds_toArray, List.set_cons_zero, List.set_cons_succ]
              clear hHeld
              refine wpAnyH_ready (rs := [5]) (by kernel_rfl) (by simp) ?_
              refine AllReadyH.cons (i := 5) (by simp only [List.getElem?_toArray, List.getElem?_cons_succ, List.getElem?_cons_zero]; rfl) (fun K hK => ?_) AllReadyH.nil
              go_simp
              (go_at_call 27; (with_reducible refine (HW.out _ ?_).mono ?_); (first | exact bel_d _ | exact bel0 _); rintro e w3 ⟨rfl, hb3⟩; have yh5 := mkeep hb3 h5; have yx0 := mkeep hb3 x0; have yx1 := mkeep hb3 x1; have yx2 := mkeep hb3 x2; have yx3 := mkeep hb3 x3; have yx4 := mkeep hb3 x4; have yx5 := mkeep hb3 x5; have yx6 := mkeep hb3 x6; have yz0 := mkeep hb3 z0; have yz1 := mkeep hb3 z1; have yz2 := mkeep hb3 z2)
              try (go_wp2_with fail)
              refine hK.out _ _ ?_ (fun hHeld => ?_)
              · ((try dsimp only); go_keep)
              clear hK K
              try simp only [Act.put, List.setIfInBounds_toArray, List.set_cons_zero, List.set_cons_succ]
              refine wpAnyH_take (i := 6) (v := ?_) (by simp only [List.getElem?_toArray, List.getElem?_cons_succ, List.getElem?_cons_zero]; rfl) (by kernel_rfl) (by kernel_rfl) (by kernel_rfl) (by exact fun _ _ _ h => h) (Or.inl ⟨by rfl, ?_⟩) (by assumption) ?_
              rotate_left 1
              · (intro wS hSw; (try dsimp only at hSw); go_simp; try (with_reducible rfl))
              try simp only [Act.put, List.setIfInBounds_toArray, List.set_cons_zero, List.set_cons_succ]
              refine wpAnyH_take (i := 7) (v := ?_) (by simp only [List.getElem?_toArray, List.getElem?_cons_succ, List.getElem?_cons_zero]; rfl) (by kernel_rfl) (by kernel_rfl) (by kernel_rfl) (by exact fun _ _ _ h => h) (Or.inl ⟨by rfl, ?_⟩) (by assumption) ?_
              rotate_left 1
              · (intro wS hSw; (try dsimp only at hSw); go_simp; try (with_reducible rfl))
              try simp only [Act.put, List.setIfInBounds_toArray, List.set_cons_zero, List.set_cons_succ]
              refine wpAnyH_done (by kernel_rfl) ?_ _
              go_wp2
              go_ret
              exact ⟨rfl, bel HB0.out hb3⟩
            · by_cases hX4 : gs X = nAnd
              · have hX := hX4
                clear hX' hX'' hX3 hX4
                have eAll : (X.toList == [97, 108, 108]) = false := by rw [toList_gs, hX]; rfl
                have eReal : (X.toList == [114, 101, 97, 108]) = false := by rw [toList_gs, hX]; rfl
                have eComplex : (X.toList == [99, 111, 109, 112, 108, 101, 120]) = false := by rw [toList_gs, hX]; rfl
                have eNot : (X.toList == [110, 111, 116]) = false := by rw [toList_gs, hX]; rfl
                have eAnd : (X.toList == [97, 110, 100]) = true := name_is hX
                rw [show (if gs X == nAll then true else if gs X == nReal then Q == 1 else if gs X == nComplex then Q == 2 else if gs X == nNot then !((inL ⟨P, Q, L⟩ t.args).headD false) else if gs X == nAnd then (inL ⟨P, Q, L⟩ t.args).all id else if gs X == nOr then (inL ⟨P, Q, L⟩ t.args).any id else false) = ((inL ⟨P, Q, L⟩ t.args).all id) by rw [hX]; rfl]
                clear hX hcl2 KM
                have HAL : Hid (((inL ⟨P, Q, L⟩ t.args).all id) = t.args.all (inM ⟨P, Q, L⟩)) := by show _ = _; rw [inL_map]; simp [Function.comp_def]
                rw [HAL.out]
                clear HAL
                obtain ⟨V, hV⟩ : ∃ V, t.args.all (inM ⟨P, Q, L⟩) = V := ⟨_, rfl⟩
                rw [hV]
                have HB1 : Hid (∀ j (hj : j < t.args.length), inM ⟨P, Q, L⟩ t.args[j] = false → V = false) := fun j hj h => by rw [← hV, List.all_eq_false]; exact ⟨t.args[j], List.getElem_mem hj, by rw [h]; decide⟩
                have HG1 : Hid ((∀ j (hj : j < t.args.length), inM ⟨P, Q, L⟩ t.args[j] = true) → V = true) := fun h => by rw [← hV, List.all_eq_true]; intro a ha; obtain ⟨j, hj, rfl⟩ := List.mem_iff_getElem.1 ha; exact h j hj
                clear hV
                go_enter Tryd.func27, Tryd.ntmps27
                go_wp2
                go_loopw [5] (fun iv wr => Below w.heap.size w wr ∧ Hid (Boxes wr w.heap.size #[.int .i64 K, .string X, .int .u32 t.num, .int .i64 t.int_, .string t.key, .slice p n c, .int .i64 t.at_] #[.string P, .int .i64 Q, .int .i64 L] 29 51) ∧ ∃ j : Nat, j ≤ n ∧ iv = .int .i64 j ∧ Hid (∀ i (h : i < t.args.length), i < j → inM ⟨P, Q, L⟩ t.args[i] = true)) (fun iv _ => n - (intOf iv).toNat)
                case atStart => exact ⟨HB0.out, HBX.out, 0, Nat.zero_le _, rfl, fun i h hi => absurd hi (Nat.not_lt_zero _)⟩
                case round =>
                  obtain ⟨hb, HBR, j, hj, rfl, hS⟩ := hrel
                  clear HBX HB0
                  obtain ⟨⟨g0, g1, g2, g3, g4, h5', g6⟩, -⟩ := seven HBR.out.1
                  have z0 := cell_heap HBR.out.2 0
                  have z1 := cell_heap HBR.out.2 1
                  have z2 := cell_heap HBR.out.2 2
                  have h5 := h5'
                  simp only [List.getElem?_toArray, List.getElem?_cons_zero, List.getElem?_cons_succ] at z0 z1 z2
                  clear g0 g1 g2 g3 g4 g6 h5'
                  by_cases hlt0 : j < n
                  · have hll : j < t.args.length := by rw [HN.out]; exact hlt0
                    obtain ⟨b1, o1, q1, d1, rfl, ⟨x0, x1, x2, x3, x4, x5, x6⟩, kx⟩ := kid_at HK.out hb hll
                    have i1 : (0 : Int) ≤ (j : Int) := by omega
                    have i2 : (j : Int) < (n : Int) := by omega
                    obtain ⟨U, hU⟩ : ∃ U, inM ⟨P, Q, L⟩ t.args[j] = U := ⟨_, rfl⟩
                    have HB2 := HB1.out j hll
                    have HNX : Hid (U = true → ∀ i (h : i < t.args.length), i < j + 1 → inM ⟨P, Q, L⟩ t.args[i] = true) := fun hu i h hi => by
                      by_cases e : i = j
                      · subst e; rw [hU, hu]
                      · exact hS.out i h (by omega)
                    rw [hU] at HB2
                    have HB3 : Hid (U = false → V = false) := HB2
                    have HW : Hid (∀ v, Below wr.heap.size wr v → Calls Tryd.prog 27 #[.agg #[.int .i64 t.args[j].kind, .string t.args[j].name, .int .u32 t.args[j].num, .int .i64 t.args[j].int_, .string t.args[j].key, .slice q1 t.args[j].args.length d1, .int .i64 t.args[j].at_], .agg #[.string P, .int .i64 Q, .int .i64 L]] v fun e w' => e = .returned (.bool U) ∧ Below wr.heap.size wr w') := fun v hv => (HIH.out j hll q1 d1 v (HKF.out j hll) (kx.below hv)).mono fun e w' ⟨he, hb⟩ => ⟨by rw [he, hU], bel hv hb⟩
                    clear kx HIH HKF hU hS HB1 HG1 HB2
                    go_upto_region 16 with fail
                    refine wp_region_held_drew (S := (fun w' => w'.cell? ⟨w.heap.size, 5, none⟩ = some (.slice (some ⟨b1, o1, none⟩) n c) ∧ w'.cell? ⟨b1, o1 + j * 7, none⟩ = some (.int .i64 t.args[j].kind) ∧ w'.cell? ⟨b1, o1 + j * 7 + 1, none⟩ = some (.string t.args[j].name) ∧ w'.cell? ⟨b1, o1 + j * 7 + 2, none⟩ = some (.int .u32 t.args[j].num) ∧ w'.cell? ⟨b1, o1 + j * 7 + 3, none⟩ = some (.int .i64 t.args[j].int_) ∧ w'.cell? ⟨b1, o1 + j * 7 + 4, none⟩ = some (.string t.args[j].key) ∧ w'.cell? ⟨b1, o1 + j * 7 + 5, none⟩ = some (.slice q1 t.args[j].args.length d1) ∧ w'.cell? ⟨b1, o1 + j * 7 + 6, none⟩ = some (.int .i64 t.args[j].at_) ∧ w'.cell? ⟨w.heap.size + 1, 0, none⟩ = some (.string P) ∧ w'.cell? ⟨w.heap.size + 1, 1, none⟩ = some (.int .i64 Q) ∧ w'.cell? ⟨w.heap.size + 1, 2, none⟩ = some (.int .i64 L))) (by kernel_rfl) ?_ (fun hHeld => ?_)
                    · ((try dsimp only); go_keep)
                    refine wpAnyH_take (i := 0) (v := ?_) (by simp only [List.getElem?_toArray, List.getElem?_cons_succ, List.getElem?_cons_zero]; rfl) (by kernel_rfl) (by kernel_rfl) (by kernel_rfl) (by exact fun _ _ _ h => h) (Or.inl ⟨by rfl, ?_⟩) (by assumption) ?_
                    rotate_left 1
                    · (intro wS hSw; (try dsimp only at hSw); go_simp; try (with_reducible rfl))
                    try simp only [Act.put, List.setIfInBounds_toArray, List.set_cons_zero, List.set_cons_succ]
                    refine wpAnyH_take (i := 1) (v := ?_) (by simp only [List.getElem?_toArray, List.getElem?_cons_succ, List.getElem?_cons_zero]; rfl) (by kernel_rfl) (by kernel_rfl) (by kernel_rfl) (by exact fun _ _ _ h => h) (Or.inl ⟨by rfl, ?_⟩) (by assumption) ?_
                    rotate_left 1
                    · (intro wS hSw; (try dsimp only at hSw); go_simp; try (with_reducible rfl))
                    try simp only [Act.put, List.setIfInBounds_toArray, List.set_cons_zero, List.set_cons_succ]
                    refine wpAnyH_take (i := 2) (v := ?_) (by simp only [List.getElem?_toArray, List.getElem?_cons_succ, List.getElem?_cons_zero]; rfl) (by kernel_rfl) (by kernel_rfl) (by kernel_rfl) (by exact fun _ _ _ h => h) (Or.inl ⟨by rfl, ?_⟩) (by assumption) ?_
                    rotate_left 1
                    · (intro wS hSw; (try dsimp only at hSw); go_simp; try (with_reducible rfl))
                    try simp only [Act.put, List.setIfInBounds_toArray, List.set_cons_zero, List.set_cons_succ]
                    refine wpAnyH_take (i := 3) (v := ?_) (by simp only [List.getElem?_toArray, List.getElem?_cons_succ, List.getElem?_cons_zero]; rfl) (by kernel_rfl) (by kernel_rfl) (by kernel_rfl) (by exact fun _ _ _ h => h) (Or.inl ⟨by rfl, ?_⟩) (by assumption) ?_
                    rotate_left 1
                    · (intro wS hSw; (try dsimp only at hSw); go_simp; try (with_reducible rfl))
                    try simp only [Act.put, List.setIfInBounds_toArray, List.set_cons_zero, List.set_cons_succ]
                    refine wpAnyH_take (i := 4) (v := ?_) (by simp only [List.getElem?_toArray, List.getElem?_cons_succ, List.getElem?_cons_zero]; rfl) (by kernel_rfl) (by kernel_rfl) (by kernel_rfl) (by exact fun _ _ _ h => h) (Or.inl ⟨by rfl, ?_⟩) (by assumption) ?_
                    rotate_left 1
                    · (intro wS hSw; (try dsimp only at hSw); go_simp; try (with_reducible rfl))
                    try simp only [Act.put, List.setIfInBounds_toArray, List.set_cons_zero, List.set_cons_succ]
                    refine wpAnyH_take (i := 5) (v := ?_) (by simp only [List.getElem?_toArray, List.getElem?_cons_succ, List.getElem?_cons_zero]; rfl) (by kernel_rfl) (by kernel_rfl) (by kernel_rfl) (by exact fun _ _ _ h => h) (Or.inl ⟨by rfl, ?_⟩) (by assumption) ?_
                    rotate_left 1
                    · (intro wS hSw; (try dsimp only at hSw); go_simp; try (with_reducible rfl))
                    try simp only [Act.put, List.setIfInBounds_toArray, List.set_cons_zero, List.set_cons_succ]
                    clear hHeld
                    refine wpAnyH_ready (rs := [6]) (by kernel_rfl) (by simp) ?_
                    refine AllReadyH.cons (i := 6) (by simp only [List.getElem?_toArray, List.getElem?_cons_succ, List.getElem?_cons_zero]; rfl) (fun K hK => ?_) AllReadyH.nil
                    go_simp
                    (go_at_call 27; (with_reducible refine (HW.out _ ?_).mono ?_); (first | exact bel_d _ | exact bel0 _); rintro e w3 ⟨rfl, hb3⟩; have yh5 := mkeep hb3 h5; have yx0 := mkeep hb3 x0; have yx1 := mkeep hb3 x1; have yx2 := mkeep hb3 x2; have yx3 := mkeep hb3 x3; have yx4 := mkeep hb3 x4; have yx5 := mkeep hb3 x5; have yx6 := mkeep hb3 x6; have yz0 := mkeep hb3 z0; have yz1 := mkeep hb3 z1; have yz2 := mkeep hb3 z2)
                    try (go_wp2_with fail)
                    refine hK.out _ _ ?_ (fun hHeld => ?_)
                    · ((try dsimp only); go_keep)
                    clear hK K
                    try simp only [Act.put, List.setIfInBounds_toArray, List.set_cons_zero, List.set_cons_succ]
                    refine wpAnyH_take (i := 7) (v := ?_) (by simp only [List.getElem?_toArray, List.getElem?_cons_succ, List.getElem?_cons_zero]; rfl) (by kernel_rfl) (by kernel_rfl) (by kernel_rfl) (by exact fun _ _ _ h => h) (Or.inl ⟨by rfl, ?_⟩) (by assumption) ?_
                    rotate_left 1
                    · (intro wS hSw; (try dsimp only at hSw); go_simp; try (with_reducible rfl))
                    try simp only [Act.put, List.setIfInBounds_toArray, List.set_cons_zero, List.set_cons_succ]
                    refine wpAnyH_done (by kernel_rfl) ?_ _
                    cases U
                    · skip
                      have HV2 : Hid (V = false) := HB3.out rfl
                      clear HNX HB3
                      go_wp2
                      go_ret
                      exact ⟨ret_bool HV2.out.symm, bel hb hb3⟩
                    · skip
                      have HN2 := HNX.out rfl
                      have HN3 : Hid (∀ i (h : i < t.args.length), i < j + 1 → inM ⟨P, Q, L⟩ t.args[i] = true) := HN2
                      clear HN2 HNX HB3
                      go_wp2
                      go_roundw
                      case rel => exact ⟨bel hb hb3, HBR.out.below hb3, j + 1, by omega, by go_num, HN3.out⟩
                      case measure => simp [intOf]; omega
                  · have : j = n := by omega
                    subst this
                    have HV2 : Hid (V = true) := HG1.out fun i h => hS.out i h (by rw [← HN.out]; exact h)
                    clear HIH HKF hS HB1 HG1
                    go_wp2
                    go_ret
                    exact ⟨ret_bool HV2.out.symm, hb⟩
              · by_cases hX5 : gs X = nOr
                · have hX := hX5
                  clear hX' hX'' hX3 hX4 hX5
                  have eAll : (X.toList == [97, 108, 108]) = false := by rw [toList_gs, hX]; rfl
                  have eReal : (X.toList == [114, 101, 97, 108]) = false := by rw [toList_gs, hX]; rfl
                  have eComplex : (X.toList == [99, 111, 109, 112, 108, 101, 120]) = false := by rw [toList_gs, hX]; rfl
                  have eNot : (X.toList == [110, 111, 116]) = false := by rw [toList_gs, hX]; rfl
                  have eAnd : (X.toList == [97, 110, 100]) = false := by rw [toList_gs, hX]; rfl
                  have eOr : (X.toList == [111, 114]) = true := name_is hX
                  rw [show (if gs X == nAll then true else if gs X == nReal then Q == 1 else if gs X == nComplex then Q == 2 else if gs X == nNot then !((inL ⟨P, Q, L⟩ t.args).headD false) else if gs X == nAnd then (inL ⟨P, Q, L⟩ t.args).all id else if gs X == nOr then (inL ⟨P, Q, L⟩ t.args).any id else false) = ((inL ⟨P, Q, L⟩ t.args).any id) by rw [hX]; rfl]
                  clear hX hcl2 KM
                  have HAL : Hid (((inL ⟨P, Q, L⟩ t.args).any id) = t.args.any (inM ⟨P, Q, L⟩)) := by show _ = _; rw [inL_map]; simp [Function.comp_def]
                  rw [HAL.out]
                  clear HAL
                  obtain ⟨V, hV⟩ : ∃ V, t.args.any (inM ⟨P, Q, L⟩) = V := ⟨_, rfl⟩
                  rw [hV]
                  have HB1 : Hid (∀ j (hj : j < t.args.length), inM ⟨P, Q, L⟩ t.args[j] = true → V = true) := fun j hj h => by rw [← hV, List.any_eq_true]; exact ⟨t.args[j], List.getElem_mem hj, h⟩
                  have HG1 : Hid ((∀ j (hj : j < t.args.length), inM ⟨P, Q, L⟩ t.args[j] = false) → V = false) := fun h => by rw [← hV, List.any_eq_false]; intro a ha; obtain ⟨j, hj, rfl⟩ := List.mem_iff_getElem.1 ha; rw [h j hj]; decide
                  clear hV
                  go_enter Tryd.func27, Tryd.ntmps27
                  go_wp2
                  go_loopw [6] (fun iv wr => Below w.heap.size w wr ∧ Hid (Boxes wr w.heap.size #[.int .i64 K, .string X, .int .u32 t.num, .int .i64 t.int_, .string t.key, .slice p n c, .int .i64 t.at_] #[.string P, .int .i64 Q, .int .i64 L] 29 51) ∧ ∃ j : Nat, j ≤ n ∧ iv = .int .i64 j ∧ Hid (∀ i (h : i < t.args.length), i < j → inM ⟨P, Q, L⟩ t.args[i] = false)) (fun iv _ => n - (intOf iv).toNat)
                  case atStart => exact ⟨HB0.out, HBX.out, 0, Nat.zero_le _, rfl, fun i h hi => absurd hi (Nat.not_lt_zero _)⟩
                  case round =>
                    obtain ⟨hb, HBR, j, hj, rfl, hS⟩ := hrel
                    clear HBX HB0
                    obtain ⟨⟨g0, g1, g2, g3, g4, h5', g6⟩, -⟩ := seven HBR.out.1
                    have z0 := cell_heap HBR.out.2 0
                    have z1 := cell_heap HBR.out.2 1
                    have z2 := cell_heap HBR.out.2 2
                    have h5 := h5'
                    simp only [List.getElem?_toArray, List.getElem?_cons_zero, List.getElem?_cons_succ] at z0 z1 z2
                    clear g0 g1 g2 g3 g4 g6 h5'
                    by_cases hlt0 : j < n
                    · have hll : j < t.args.length := by rw [HN.out]; exact hlt0
                      obtain ⟨b1, o1, q1, d1, rfl, ⟨x0, x1, x2, x3, x4, x5, x6⟩, kx⟩ := kid_at HK.out hb hll
                      have i1 : (0 : Int) ≤ (j : Int) := by omega
                      have i2 : (j : Int) < (n : Int) := by omega
                      obtain ⟨U, hU⟩ : ∃ U, inM ⟨P, Q, L⟩ t.args[j] = U := ⟨_, rfl⟩
                      have HB2 := HB1.out j hll
                      have HNX : Hid (U = false → ∀ i (h : i < t.args.length), i < j + 1 → inM ⟨P, Q, L⟩ t.args[i] = false) := fun hu i h hi => by
                        by_cases e : i = j
                        · subst e; rw [hU, hu]
                        · exact hS.out i h (by omega)
                      rw [hU] at HB2
                      have HB3 : Hid (U = true → V = true) := HB2
                      have HW : Hid (∀ v, Below wr.heap.size wr v → Calls Tryd.prog 27 #[.agg #[.int .i64 t.args[j].kind, .string t.args[j].name, .int .u32 t.args[j].num, .int .i64 t.args[j].int_, .string t.args[j].key, .slice q1 t.args[j].args.length d1, .int .i64 t.args[j].at_], .agg #[.string P, .int .i64 Q, .int .i64 L]] v fun e w' => e = .returned (.bool U) ∧ Below wr.heap.size wr w') := fun v hv => (HIH.out j hll q1 d1 v (HKF.out j hll) (kx.below hv)).mono fun e w' ⟨he, hb⟩ => ⟨by rw [he, hU], bel hv hb⟩
                      clear kx HIH HKF hU hS HB1 HG1 HB2
                      go_upto_region 23 with fail
                      refine wp_region_held_drew (S := (fun w' => w'.cell? ⟨w.heap.size, 5, none⟩ = some (.slice (some ⟨b1, o1, none⟩) n c) ∧ w'.cell? ⟨b1, o1 + j * 7, none⟩ = some (.int .i64 t.args[j].kind) ∧ w'.cell? ⟨b1, o1 + j * 7 + 1, none⟩ = some (.string t.args[j].name) ∧ w'.cell? ⟨b1, o1 + j * 7 + 2, none⟩ = some (.int .u32 t.args[j].num) ∧ w'.cell? ⟨b1, o1 + j * 7 + 3, none⟩ = some (.int .i64 t.args[j].int_) ∧ w'.cell? ⟨b1, o1 + j * 7 + 4, none⟩ = some (.string t.args[j].key) ∧ w'.cell? ⟨b1, o1 + j * 7 + 5, none⟩ = some (.slice q1 t.args[j].args.length d1) ∧ w'.cell? ⟨b1, o1 + j * 7 + 6, none⟩ = some (.int .i64 t.args[j].at_) ∧ w'.cell? ⟨w.heap.size + 1, 0, none⟩ = some (.string P) ∧ w'.cell? ⟨w.heap.size + 1, 1, none⟩ = some (.int .i64 Q) ∧ w'.cell? ⟨w.heap.size + 1, 2, none⟩ = some (.int .i64 L))) (by kernel_rfl) ?_ (fun hHeld => ?_)
                      · ((try dsimp only); go_keep)
                      refine wpAnyH_take (i := 0) (v := ?_) (by simp only [List.getElem?_toArray, List.getElem?_cons_succ, List.getElem?_cons_zero]; rfl) (by kernel_rfl) (by kernel_rfl) (by kernel_rfl) (by exact fun _ _ _ h => h) (Or.inl ⟨by rfl, ?_⟩) (by assumption) ?_
                      rotate_left 1
                      · (intro wS hSw; (try dsimp only at hSw); go_simp; try (with_reducible rfl))
                      try simp only [Act.put, List.setIfInBounds_toArray, List.set_cons_zero, List.set_cons_succ]
                      refine wpAnyH_take (i := 1) (v := ?_) (by simp only [List.getElem?_toArray, List.getElem?_cons_succ, List.getElem?_cons_zero]; rfl) (by kernel_rfl) (by kernel_rfl) (by kernel_rfl) (by exact fun _ _ _ h => h) (Or.inl ⟨by rfl, ?_⟩) (by assumption) ?_
                      rotate_left 1
                      · (intro wS hSw; (try dsimp only at hSw); go_simp; try (with_reducible rfl))
                      try simp only [Act.put, List.setIfInBounds_toArray, List.set_cons_zero, List.set_cons_succ]
                      refine wpAnyH_take (i := 2) (v := ?_) (by simp only [List.getElem?_toArray, List.getElem?_cons_succ, List.getElem?_cons_zero]; rfl) (by kernel_rfl) (by kernel_rfl) (by kernel_rfl) (by exact fun _ _ _ h => h) (Or.inl ⟨by rfl, ?_⟩) (by assumption) ?_
                      rotate_left 1
                      · (intro wS hSw; (try dsimp only at hSw); go_simp; try (with_reducible rfl))
                      try simp only [Act.put, List.setIfInBounds_toArray, List.set_cons_zero, List.set_cons_succ]
                      refine wpAnyH_take (i := 3) (v := ?_) (by simp only [List.getElem?_toArray, List.getElem?_cons_succ, List.getElem?_cons_zero]; rfl) (by kernel_rfl) (by kernel_rfl) (by kernel_rfl) (by exact fun _ _ _ h => h) (Or.inl ⟨by rfl, ?_⟩) (by assumption) ?_
                      rotate_left 1
                      · (intro wS hSw; (try dsimp only at hSw); go_simp; try (with_reducible rfl))
                      try simp only [Act.put, List.setIfInBounds_toArray, List.set_cons_zero, List.set_cons_succ]
                      refine wpAnyH_take (i := 4) (v := ?_) (by simp only [List.getElem?_toArray, List.getElem?_cons_succ, List.getElem?_cons_zero]; rfl) (by kernel_rfl) (by kernel_rfl) (by kernel_rfl) (by exact fun _ _ _ h => h) (Or.inl ⟨by rfl, ?_⟩) (by assumption) ?_
                      rotate_left 1
                      · (intro wS hSw; (try dsimp only at hSw); go_simp; try (with_reducible rfl))
                      try simp only [Act.put, List.setIfInBounds_toArray, List.set_cons_zero, List.set_cons_succ]
                      refine wpAnyH_take (i := 5) (v := ?_) (by simp only [List.getElem?_toArray, List.getElem?_cons_succ, List.getElem?_cons_zero]; rfl) (by kernel_rfl) (by kernel_rfl) (by kernel_rfl) (by exact fun _ _ _ h => h) (Or.inl ⟨by rfl, ?_⟩) (by assumption) ?_
                      rotate_left 1
                      · (intro wS hSw; (try dsimp only at hSw); go_simp; try (with_reducible rfl))
                      try simp only [Act.put, List.setIfInBounds_toArray, List.set_cons_zero, List.set_cons_succ]
                      clear hHeld
                      refine wpAnyH_ready (rs := [6]) (by kernel_rfl) (by simp) ?_
                      refine AllReadyH.cons (i := 6) (by simp only [List.getElem?_toArray, List.getElem?_cons_succ, List.getElem?_cons_zero]; rfl) (fun K hK => ?_) AllReadyH.nil
                      go_simp
                      (go_at_call 27; (with_reducible refine (HW.out _ ?_).mono ?_); (first | exact bel_d _ | exact bel0 _); rintro e w3 ⟨rfl, hb3⟩; have yh5 := mkeep hb3 h5; have yx0 := mkeep hb3 x0; have yx1 := mkeep hb3 x1; have yx2 := mkeep hb3 x2; have yx3 := mkeep hb3 x3; have yx4 := mkeep hb3 x4; have yx5 := mkeep hb3 x5; have yx6 := mkeep hb3 x6; have yz0 := mkeep hb3 z0; have yz1 := mkeep hb3 z1; have yz2 := mkeep hb3 z2)
                      try (go_wp2_with fail)
                      refine hK.out _ _ ?_ (fun hHeld => ?_)
                      · ((try dsimp only); go_keep)
                      clear hK K
                      try simp only [Act.put, List.setIfInBounds_toArray, List.set_cons_zero, List.set_cons_succ]
                      refine wpAnyH_done (by kernel_rfl) ?_ _
                      cases U
                      · skip
                        have HN2 := HNX.out rfl
                        have HN3 : Hid (∀ i (h : i < t.args.length), i < j + 1 → inM ⟨P, Q, L⟩ t.args[i] = false) := HN2
                        clear HN2 HNX HB3
                        go_wp2
                        go_roundw
                        case rel => exact ⟨bel hb hb3, HBR.out.below hb3, j + 1, by omega, by go_num, HN3.out⟩
                        case measure => simp [intOf]; omega
                      · skip
                        have HV2 : Hid (V = true) := HB3.out rfl
                        clear HNX HB3
                        go_wp2
                        go_ret
                        exact ⟨ret_bool HV2.out.symm, bel hb hb3⟩
                    · have : j = n := by omega
                      subst this
                      have HV2 : Hid (V = false) := HG1.out fun i h => hS.out i h (by rw [← HN.out]; exact h)
                      clear HIH HKF hS HB1 HG1
                      go_wp2
                      go_ret
                      exact ⟨ret_bool HV2.out.symm, hb⟩
                · skip
                  have hAll : (gs X == nAll) = false := by simpa using hX
                  have hReal : (gs X == nReal) = false := by simpa using hX'
                  have hComplex : (gs X == nComplex) = false := by simpa using hX''
                  have hNot : (gs X == nNot) = false := by simpa using hX3
                  have hAnd : (gs X == nAnd) = false := by simpa using hX4
                  have hOr : (gs X == nOr) = false := by simpa using hX5
                  rw [hAll, hReal, hComplex, hNot, hAnd, hOr]
                  have eAll : (X.toList == [97, 108, 108]) = false := name_no hAll
                  have eReal : (X.toList == [114, 101, 97, 108]) = false := name_no hReal
                  have eComplex : (X.toList == [99, 111, 109, 112, 108, 101, 120]) = false := name_no hComplex
                  have eNot : (X.toList == [110, 111, 116]) = false := name_no hNot
                  have eAnd : (X.toList == [97, 110, 100]) = false := name_no hAnd
                  have eOr : (X.toList == [111, 114]) = false := name_no hOr
                  clear hX hX' hX'' hX3 hX4 hX5 hAll hReal hComplex hNot hAnd hOr HIH HKF KM hcl2
                  go_enter Tryd.func27, Tryd.ntmps27
                  go_wp2
                  go_ret
                  exact ⟨rfl, HB0.out⟩
    · have hio : ∀ s, inOne K X ⟨P, Q, L⟩ s = matchP (gs X) (gs P) := fun s => by unfold inOne; rw [h5]; rfl
      rw [hio]
      clear hcall hio HIH hK
      go_enter Tryd.func27, Tryd.ntmps27
      go_wp2_with (go_at_call 9; refine (KM.out _).mono ?_; rintro e w3 ⟨rfl, hb3⟩)
      go_ret
      exact ⟨rfl, bel HB0.out hb3⟩

end Go.Proofs.YtnhpnmilgcjeaaaDoor
