import Derived.Test.YtpidjmgifglmiabTreeSep
/- Package tree: copied, its rows apart. -/
namespace Go.Proofs.Ytpidjmgifglmiab
open Go.RowKit
set_option linter.unusedVariables false
set_option linter.unusedSimpArgs false

set_option maxRecDepth 100000 in
set_option maxHeartbeats 2000000 in
theorem copied_sep : ∀ (N : Nat) (t : Nd) (b o : Nat) (w : World), dep t ≤ N → cnt t ≤ 9000 → ok1 t → NodeA w anyH b o t →
    Calls Try.prog 21 #[.pointer (some ⟨b, o, none⟩)] w fun e w' => ∃ sv, e = .returned (nv t sv) ∧ Kids w' (ownH w' w.heap.size) sv t.args ∧ Below w.heap.size w w' ∧ Sp w' sv t.args w.heap.size w'.heap.size := by
  intro N
  induction N with
  | zero => intro t b o w hd; unfold dep at hd; omega
  | succ N ih =>
    intro t b o w hd hc hok hn
    have hlen : t.args.length ≤ 9000 := by have := cntL_len t.args; unfold cnt at hc; omega
    have hn0 := hn
    obtain ⟨e0, e1, e2, e3, e4, e6, sv, e5, p, c, rfl, hq, hk⟩ := hn0
    obtain ⟨⟨s1, s2, -, -⟩, hokL⟩ := hok
    have hbl : b < w.heap.size := mcell_lt e0
    have nb : ¬ (b = w.heap.size + 1) := by omega
    obtain ⟨k, nm, x, i, y, l, a⟩ := t
    unfold nv
    simp only at *
    obtain ⟨n, hnl⟩ : ∃ n, l.length = n := ⟨_, rfl⟩
    have HN : Hid (l.length = n) := hnl
    rw [hnl] at e5 hlen
    clear hnl
    have KB : Hid (∀ v, Below w.heap.size w v → v.cell? ⟨b, o + 1, none⟩ = some (.string nm) ∧ v.cell? ⟨b, o + 4, none⟩ = some (.string y) ∧ v.cell? ⟨b, o + 5, none⟩ = some (.slice p n c)) := fun v hv => ⟨(hv.cell (mcell_lt e1)).trans e1, (hv.cell (mcell_lt e4)).trans e4, (hv.cell (mcell_lt e5)).trans e5⟩
    have C1 : Hid (∀ w1, Below ((w.alloc (.cells #[.int .i64 0, .string ⟨#[]⟩, .int .u32 0, .int .i64 0, .string ⟨#[]⟩, .slice none 0 0, .int .i64 0] 26)).alloc (.cells #[.int .i64 k, .string nm, .int .u32 x, .int .i64 i, .string y, .slice p n c, .int .i64 a] 26)).heap.size ((w.alloc (.cells #[.int .i64 0, .string ⟨#[]⟩, .int .u32 0, .int .i64 0, .string ⟨#[]⟩, .slice none 0 0, .int .i64 0] 26)).alloc (.cells #[.int .i64 k, .string nm, .int .u32 x, .int .i64 i, .string y, .slice p n c, .int .i64 a] 26)) w1 → Cp w #[.int .i64 k, .string nm, .int .u32 x, .int .i64 i, .string y, .slice p n c, .int .i64 a] w1) := fun w1 h => (Cp.start w _).below h
    by_cases hl : n = 0
    · subst hl
      have hz : l = [] := List.eq_nil_of_length_eq_zero HN.out
      clear ih hk hq hn hokL hd hc
      go_enter Try.func21, Try.ntmps21
      go_wp2_with (first
        | (go_at_call 26; (with_reducible refine (clone_any nm s1 _).mono ?_); rintro e w1 ⟨rfl, hb1⟩; have h1 := C1.out w1 hb1; obtain ⟨b1, b4, b5⟩ := KB.out w1 h1.1; obtain ⟨g1, f1⟩ := at_cell h1.2.2 1 rfl; have H1 : Hid (Cp w #[.int .i64 k, .string nm, .int .u32 x, .int .i64 i, .string y, .slice p 0 c, .int .i64 a] (w1.setCell ⟨w.heap.size + 1, 1, none⟩ (.string nm))) := h1.set 1 (.string nm); clear h1 hb1)
        | (go_at_call 26; (with_reducible refine (clone_any y s2 _).mono ?_); rintro e w2 ⟨rfl, hb2⟩; have h2 := H1.out.below hb2; obtain ⟨d1, d4, d5⟩ := KB.out w2 h2.1; obtain ⟨g4, f4⟩ := at_cell h2.2.2 4 rfl; obtain ⟨g5, f5⟩ := at_cell h2.2.2 5 rfl; have H2 : Hid (Cp w #[.int .i64 k, .string nm, .int .u32 x, .int .i64 i, .string y, .slice none 0 0, .int .i64 a] ((w2.setCell ⟨w.heap.size + 1, 4, none⟩ (.string y)).setCell ⟨w.heap.size + 1, 5, none⟩ (.slice none 0 0))) := (h2.set 4 (.string y)).set 5 (.slice none 0 0); clear hb2 h2))
      go_loopw [39] (fun iv wr => iv = .int .i64 0 ∧ Hid (Cp w #[.int .i64 k, .string nm, .int .u32 x, .int .i64 i, .string y, .slice none 0 0, .int .i64 a] wr)) (fun iv _ => 0)
      case atStart => exact ⟨rfl, H2.out⟩
      case round =>
        obtain ⟨rfl, hcp⟩ := hrel
        obtain ⟨⟨r0, r1, r2, r3, r4, r5, r6⟩, q0, q1, q2, q3, q4, q5, q6⟩ := seven hcp.out.2.1
        obtain ⟨⟨o0, o1, o2, o3, o4, o5, o6⟩, -⟩ := seven hcp.out.2.2
        clear H2 H1 C1 KB
        go_wp2
        refine bodyPost_ret (by simp [results, Try.results21, go_sem, *]; try rfl) rfl ?_
        have hoff := ((((((((Off.refl w.heap.size wr).set 0 (.int .i64 k)).set 1 (.string nm)).set 2 (.int .u32 x)).set 3 (.int .i64 i)).set 4 (.string y)).set 5 (.slice none 0 0)).set 6 (.int .i64 a))
        exact ⟨_, rfl, ⟨none, 0, by rw [HN.out], .inl ⟨rfl, HN.out, rfl⟩, .inl hz⟩, hoff.below hcp.out.1 (Nat.le_refl _), none, by rw [HN.out], .inl ⟨hz, rfl⟩⟩
    · have hmk := make_Node n hlen
      have hl1 : 0 < n := by omega
      have HK : Hid (l = [] ∨ ∃ b' o', p = some ⟨b', o', none⟩ ∧ KA w anyH b' o' l) := hk
      have HO : Hid (okL l) := hokL
      have HD : Hid (∀ j (h : j < l.length), dep l[j] ≤ N ∧ cnt l[j] ≤ 9000) := fun j h => by
        have h1 := dep_get h
        have h2 := cnt_get h
        unfold dep at hd h1
        unfold cnt at hc h2
        unfold dep cnt
        simp only at hd hc
        omega
      have HI : Hid (∀ (t : Nd) (b o : Nat) (w : World), dep t ≤ N → cnt t ≤ 9000 → ok1 t → NodeA w anyH b o t →
        Calls Try.prog 21 #[.pointer (some ⟨b, o, none⟩)] w fun e w' => ∃ sv, e = .returned (nv t sv) ∧ Kids w' (ownH w' w.heap.size) sv t.args ∧ Below w.heap.size w w' ∧ Sp w' sv t.args w.heap.size w'.heap.size) := ih
      clear ih hk hq hn hokL hd hc
      go_enter Try.func21, Try.ntmps21
      go_wp2_with (first
        | (go_at_call 26; (with_reducible refine (clone_any nm s1 _).mono ?_); rintro e w1 ⟨rfl, hb1⟩; have h1 := C1.out w1 hb1; obtain ⟨b1, b4, b5⟩ := KB.out w1 h1.1; obtain ⟨g1, f1⟩ := at_cell h1.2.2 1 rfl; have H1 : Hid (Cp w #[.int .i64 k, .string nm, .int .u32 x, .int .i64 i, .string y, .slice p n c, .int .i64 a] (w1.setCell ⟨w.heap.size + 1, 1, none⟩ (.string nm))) := h1.set 1 (.string nm); clear h1 hb1)
        | (go_at_call 26; (with_reducible refine (clone_any y s2 _).mono ?_); rintro e w2 ⟨rfl, hb2⟩; have h2 := H1.out.below hb2; obtain ⟨d1, d4, d5⟩ := KB.out w2 h2.1; obtain ⟨g4, f4⟩ := at_cell h2.2.2 4 rfl; obtain ⟨g5, f5⟩ := at_cell h2.2.2 5 rfl; have z2 : w.heap.size + 1 < w2.heap.size := hlt h2.2.2; have z3 : b < w2.heap.size := (by omega); have H2 : Hid (Cp w #[.int .i64 k, .string nm, .int .u32 x, .int .i64 i, .string y, .slice none 0 0, .int .i64 a] ((w2.setCell ⟨w.heap.size + 1, 4, none⟩ (.string y)).setCell ⟨w.heap.size + 1, 5, none⟩ (.slice none 0 0))) := (h2.set 4 (.string y)).set 5 (.slice none 0 0); clear hb2 h2))
      go_loopw [39] (fun iv wr => ∃ j : Nat, j ≤ n ∧ iv = .int .i64 j ∧ Hid (Cp w #[.int .i64 k, .string nm, .int .u32 x, .int .i64 i, .string y, .slice (some ⟨w2.heap.size, 0, none⟩) n n, .int .i64 a] wr ∧ Fill wr w2.heap.size n l j ∧ SL wr (l.take j) w2.heap.size 0 (w2.heap.size + 1) wr.heap.size)) (fun iv _ => n - (intOf iv).toNat)
      case atStart =>
        have hs : ((w2.setCell ⟨w.heap.size + 1, 4, none⟩ (.string y)).setCell ⟨w.heap.size + 1, 5, none⟩ (.slice none 0 0)).heap.size = w2.heap.size := by simp [World.setCell]
        have h3 := H2.out.set 5 (.slice (some ⟨w2.heap.size, 0, none⟩) n n)
        refine ⟨0, Nat.zero_le _, rfl, h3.below (bel_alloc _ _), ⟨madeCells #[.int .i64 0, .string ⟨#[]⟩, .int .u32 0, .int .i64 0, .string ⟨#[]⟩, .slice none 0 0, .int .i64 0] (n * 7), ?_, made_size _ _, fun i hi hj => absurd hj (Nat.not_lt_zero _)⟩, by rw [List.take_zero]; exact SL_nil.2 (by simp [World.setCell])⟩
        have hx := box_heap (((w2.setCell ⟨w.heap.size + 1, 4, none⟩ (.string y)).setCell ⟨w.heap.size + 1, 5, none⟩ (.slice none 0 0)).setCell ⟨w.heap.size + 1, 5, none⟩ (.slice (some ⟨w2.heap.size, 0, none⟩) n n)) (.cells (madeCells #[.int .i64 0, .string ⟨#[]⟩, .int .u32 0, .int .i64 0, .string ⟨#[]⟩, .slice none 0 0, .int .i64 0] (n * 7)) 26)
        rwa [show (((w2.setCell ⟨w.heap.size + 1, 4, none⟩ (.string y)).setCell ⟨w.heap.size + 1, 5, none⟩ (.slice none 0 0)).setCell ⟨w.heap.size + 1, 5, none⟩ (.slice (some ⟨w2.heap.size, 0, none⟩) n n)).heap.size = w2.heap.size by simp [World.setCell]] at hx
      case round =>
        obtain ⟨j, hj, rfl, hrr⟩ := hrel
        obtain ⟨hcp, hfi, hsl⟩ := hrr.out
        clear H2 H1 C1 hmk hrr g1 f1 g4 f4 g5 f5 b1 b4 b5 d1 d4 d5
        by_cases hlt0 : j < n
        · obtain ⟨k1, k4, k5⟩ := KB.out wr hcp.1
          have hll : j < l.length := by rw [HN.out]; exact hlt0
          obtain ⟨b', o', rfl, hka⟩ : ∃ b' o', p = some ⟨b', o', none⟩ ∧ KA w anyH b' o' l := by
            rcases HK.out with hk | hk
            · rw [hk] at hll; exact absurd hll (Nat.not_lt_zero _)
            · exact hk
          have hnj := (KA_get hka hll).below hcp.1
          have hM2 : w2.heap.size < wr.heap.size := by obtain ⟨cs, h1, -⟩ := hfi; exact hlt h1
          have HW : Hid (∀ v, Below wr.heap.size wr v → Calls Try.prog 21 #[.pointer (some ⟨b', o' + j * 7, none⟩)] v fun e v' => ∃ p3 n3 c3, e = .returned (.agg #[.int .i64 l[j].kind, .string l[j].name, .int .u32 l[j].num, .int .i64 l[j].int_, .string l[j].key, .slice p3 n3 c3, .int .i64 l[j].at_]) ∧ Kids v' (ownH v' (w2.heap.size + 1)) (.slice p3 n3 c3) l[j].args ∧ Below wr.heap.size wr v' ∧ Sp v' (.slice p3 n3 c3) l[j].args wr.heap.size v'.heap.size) := fun v hv =>
            (HI.out l[j] b' (o' + j * 7) v (HD.out j hll).1 (HD.out j hll).2 (okL_get HO.out hll) (hnj.below hv)).mono fun e v' ⟨sv, he, hk, hb, hsp⟩ => by
              have hk2 := hk.weak (ownH.mono (D := w2.heap.size + 1) (by have := hv.size; omega))
              obtain ⟨p3, c3, rfl, -⟩ := id hk
              exact ⟨p3, _, c3, he, hk2, bel hv hb, Sp_mono hsp hv.size (Nat.le_refl _)⟩
          have G5 : wr.cell? ⟨w.heap.size + 1, 5, none⟩ = some (.slice (some ⟨w2.heap.size, 0, none⟩) n n) := (at_cell hcp.2.2 5 rfl).1
          have F7 : Hid (∀ v, Below wr.heap.size wr v → ∀ q, q < 7 → (∃ u, v.cell? ⟨w2.heap.size, j * 7 + q, none⟩ = some u) ∧ v.frozen? ⟨w2.heap.size, j * 7 + q, none⟩ = false) := fun v hv q hq => by
            obtain ⟨cs, h1, h2, -⟩ := hfi.below hv
            have := at_cell h1 (j * 7 + q) (u := cs[j * 7 + q]'(by omega)) (Array.getElem?_eq_getElem _)
            exact ⟨⟨_, this.1⟩, this.2⟩
          have HCP : Hid (Cp w #[.int .i64 k, .string nm, .int .u32 x, .int .i64 i, .string y, .slice (some ⟨w2.heap.size, 0, none⟩) n n, .int .i64 a] wr) := hcp
          have HFI : Hid (Fill wr w2.heap.size n l j) := hfi
          have HSL : Hid (SL wr (l.take j) w2.heap.size 0 (w2.heap.size + 1) wr.heap.size) := hsl
          clear hsl
          have i1 : (0 : Int) ≤ (j : Int) := by omega
          have i2 : (j : Int) < (n : Int) := by omega
          have z4 : ¬ (w2.heap.size = w.heap.size + 1) := by omega
          have z5 : ¬ (w.heap.size + 1 = w2.heap.size) := by omega
          have z6 : ¬ (b = w2.heap.size) := by omega
          have z7 : ¬ (w2.heap.size = b) := by omega
          clear hnj hka HI HD HO HK hcp hfi e0 e1 e2 e3 e4 e5 e6
          go_wp2
          go_region_held3 (fun w' => w'.cell? ⟨b, o + 5, none⟩ = some (.slice (some ⟨b', o', none⟩) n c) ∧ w'.cell? ⟨w.heap.size + 1, 5, none⟩ = some (.slice (some ⟨w2.heap.size, 0, none⟩) n n)) (go_keep) (first
            | (go_at_call 21; (with_reducible refine (HW.out _ ?_).mono ?_); (first | exact bel_d _ | exact bel_dn _ _ | go_grown); rintro e w3 ⟨p3, n3, c3, rfl, hk3, hb3, hsp3⟩; have HSP3 : Hid (Sp w3 (.slice p3 n3 c3) l[j].args wr.heap.size w3.heap.size) := hsp3; clear hsp3; have HK3 : Hid (Kids w3 (ownH w3 (w2.heap.size + 1)) (.slice p3 n3 c3) l[j].args) := hk3; clear hk3; obtain ⟨m1, m4, m5⟩ := KB.out w3 (bel HCP.out.1 hb3); have m6 := (at_cell (HCP.out.below hb3).2.2 5 rfl).1; obtain ⟨⟨u0, x0⟩, y0⟩ := F7.out w3 hb3 0 (by decide); obtain ⟨⟨u1, x1⟩, y1⟩ := F7.out w3 hb3 1 (by decide); obtain ⟨⟨u2, x2⟩, y2⟩ := F7.out w3 hb3 2 (by decide); obtain ⟨⟨u3, x3⟩, y3⟩ := F7.out w3 hb3 3 (by decide); obtain ⟨⟨u4, x4⟩, y4⟩ := F7.out w3 hb3 4 (by decide); obtain ⟨⟨u5, x5⟩, y5⟩ := F7.out w3 hb3 5 (by decide); obtain ⟨⟨u6, x6⟩, y6⟩ := F7.out w3 hb3 6 (by decide); simp only [Nat.add_zero] at x0 y0))
          go_wp2
          have hoff := put7_off w3 w2.heap.size (j * 7) (.int .i64 l[j].kind) (.string l[j].name) (.int .u32 l[j].num) (.int .i64 l[j].int_) (.string l[j].key) (.slice p3 n3 c3) (.int .i64 l[j].at_)
          have hcp4 := hoff.cp (HCP.out.below hb3) (by omega)
          have hfi4 := (HFI.out.below hb3).put HN.out hll (Nat.lt_succ_self _) HK3.out
          have hsl4 : SL (put7 w3 w2.heap.size (j * 7) (.int .i64 l[j].kind) (.string l[j].name) (.int .u32 l[j].num) (.int .i64 l[j].int_) (.string l[j].key) (.slice p3 n3 c3) (.int .i64 l[j].at_)) (l.take (j + 1)) w2.heap.size 0 (w2.heap.size + 1) (put7 w3 w2.heap.size (j * 7) (.int .i64 l[j].kind) (.string l[j].name) (.int .u32 l[j].num) (.int .i64 l[j].int_) (.string l[j].key) (.slice p3 n3 c3) (.int .i64 l[j].at_)).heap.size := by
            obtain ⟨cs, f1, f2, -⟩ := HFI.out.below hb3
            exact SL_put HN.out hll f1 f2 (by omega) hb3.size (SL_keep _ _ _ _ _ (fun k k1 k2 => hb3.block k k2) (fun i _ => ⟨hb3.cell (by exact hM2), hb3.cell (by exact hM2)⟩) HSL.out) HSP3.out _ _ _ _ _ _
          go_roundw
          case rel => exact ⟨j + 1, by omega, by go_num, hcp4, hfi4, hsl4⟩
          case measure => simp [intOf]; omega
        · have : j = n := by omega
          subst this
          have HCP : Hid (Cp w #[.int .i64 k, .string nm, .int .u32 x, .int .i64 i, .string y, .slice (some ⟨w2.heap.size, 0, none⟩) j j, .int .i64 a] wr) := hcp
          have HFI : Hid (Fill wr w2.heap.size j l j) := hfi
          have HSL : Hid (SL wr (l.take j) w2.heap.size 0 (w2.heap.size + 1) wr.heap.size) := hsl
          clear hsl
          obtain ⟨⟨r0, r1, r2, r3, r4, r5, r6⟩, q0, q1, q2, q3, q4, q5, q6⟩ := seven hcp.2.1
          obtain ⟨⟨o0, o1, o2, o3, o4, o5, o6⟩, -⟩ := seven hcp.2.2
          clear hcp hfi HI HD HO HK KB e0 e1 e2 e3 e4 e5 e6
          go_wp2
          refine bodyPost_ret (by simp [results, Try.results21, go_sem, *]; try rfl) rfl ?_
          have hoff := ((((((((Off.refl w.heap.size wr).set 0 (.int .i64 k)).set 1 (.string nm)).set 2 (.int .u32 x)).set 3 (.int .i64 i)).set 4 (.string y)).set 5 (.slice (some ⟨w2.heap.size, 0, none⟩) j j)).set 6 (.int .i64 a))
          have hSP : Sp wr (.slice (some ⟨w2.heap.size, 0, none⟩) j j) l (w.heap.size + 1) wr.heap.size := by
            obtain ⟨cs, h1, h2, -⟩ := HFI.out
            have h3 := HSL.out
            rw [List.take_of_length_le (by rw [HN.out]; exact Nat.le_refl _)] at h3
            exact ⟨_, by rw [HN.out], .inr ⟨w2.heap.size, cs, rfl, by omega, hlt h1, h1, by rw [HN.out]; exact h2, h3⟩⟩
          refine ⟨_, rfl, ?_, hoff.below HCP.out.1 (Nat.le_refl _), by rw [hoff.2.2.2.1]; exact Sp_mono (Sp_keep hSP fun k k1 k2 => hoff.2.2.2.2 k (by omega)) (by omega) (Nat.le_refl _)⟩
          obtain ⟨cs, h1, h2, h3⟩ := HFI.out
          have hka : Kids wr (ownH wr (w.heap.size + 1)) (.slice (some ⟨w2.heap.size, 0, none⟩) j j) l := by
            refine ⟨_, _, by rw [HN.out], .inr ⟨w2.heap.size, cs, rfl, by omega, HN.out.symm, by rw [HN.out]; omega, h1, by rw [HN.out]; exact h2⟩, .inr ⟨_, _, rfl, KA_of fun i hi => ?_⟩⟩
            rw [Nat.zero_add]
            exact (h3 i hi (by rw [← HN.out]; exact hi)).weak (ownH.mono (by omega))
          exact (hoff.kids (Nat.lt_succ_self _) hka).weak (ownH.mono (by omega))

end Go.Proofs.Ytpidjmgifglmiab
