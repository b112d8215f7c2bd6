import Derived.Test.YtnhpnmilgcjeaaaDoorMaskLawsA
/- MaskLaws: where little is asked. -/
namespace Go.Proofs.YtnhpnmilgcjeaaaDoor
open Go.RowKit
set_option linter.unusedVariables false
set_option linter.unusedSimpArgs false

set_option maxRecDepth 100000 in
set_option maxHeartbeats 8000000 in
theorem walk_MaskLaws_out (a : Nd) (pa : Option Addr) (ca : Nat) (hoka : ok1 a) (b : Nd) (pb : Option Addr) (cb : Nat) (hokb : ok1 b) (pp : Option Addr) (cc : Nat) (ps : List Par) (hml : ps.length ≤ 4398046510976) (hmn : ∀ q ∈ ps, q.name.size ≤ 140737488351232) (hz : pp = none → ps.length = 0 ∧ cc = 0) (w : World) (hka : Kids w anyH (.slice pa a.args.length ca) a.args) (hkb : Kids w anyH (.slice pb b.args.length cb) b.args) (hr : Row w pp ps) (hout : ¬ (¬ 9000 < cnt a ∧ ¬ 9000 < cnt b ∧ (setP ps a).err = 0 ∧ (setP ps b).err = 0 ∧ ¬ dep a > 60 ∧ ¬ dep b > 60)) :
    Calls Tryd.prog 6 #[nv a (.slice pa a.args.length ca), nv b (.slice pb b.args.length cb), .slice pp ps.length cc] w fun e w' => e = .returned (.bool true) ∧ Below w.heap.size w w' := by
  have HGa : Hid (∀ v, Below w.heap.size w v → Calls Tryd.prog 11 #[.agg #[.int .i64 a.kind, .string a.name, .int .u32 a.num, .int .i64 a.int_, .string a.key, .slice pa a.args.length ca, .int .i64 a.at_]] v fun e w' => e = .returned (.bool (decide (9000 < cnt a))) ∧ Below v.heap.size v w') := big_box hka
  have HGb : Hid (∀ v, Below w.heap.size w v → Calls Tryd.prog 11 #[.agg #[.int .i64 b.kind, .string b.name, .int .u32 b.num, .int .i64 b.int_, .string b.key, .slice pb b.args.length cb, .int .i64 b.at_]] v fun e w' => e = .returned (.bool (decide (9000 < cnt b))) ∧ Below v.heap.size v w') := big_box hkb
  have HBc : Hid (Below w.heap.size w ((w.alloc (.cells #[.int .i64 a.kind, .string a.name, .int .u32 a.num, .int .i64 a.int_, .string a.key, .slice pa a.args.length ca, .int .i64 a.at_] 29)).alloc (.cells #[.int .i64 b.kind, .string b.name, .int .u32 b.num, .int .i64 b.int_, .string b.key, .slice pb b.args.length cb, .int .i64 b.at_] 29))) := bel (bel_alloc _ _) (bel_alloc _ _)
  have HBO : Hid (Boxes ((w.alloc (.cells #[.int .i64 a.kind, .string a.name, .int .u32 a.num, .int .i64 a.int_, .string a.key, .slice pa a.args.length ca, .int .i64 a.at_] 29)).alloc (.cells #[.int .i64 b.kind, .string b.name, .int .u32 b.num, .int .i64 b.int_, .string b.key, .slice pb b.args.length cb, .int .i64 b.at_] 29)) w.heap.size #[.int .i64 a.kind, .string a.name, .int .u32 a.num, .int .i64 a.int_, .string a.key, .slice pa a.args.length ca, .int .i64 a.at_] #[.int .i64 b.kind, .string b.name, .int .u32 b.num, .int .i64 b.int_, .string b.key, .slice pb b.args.length cb, .int .i64 b.at_] 29 29) := boxes_new w _ _ _ _
  unfold nv
  by_cases hca : 9000 < cnt a
  · rw [decide_eq_true hca] at HGa
    clear hout
    try clear eA eB
    clear hka hkb hr hoka hokb hmn hz hca HGb
    go_enter Tryd.func6, Tryd.ntmps6
    go_wp2_with (first
        | ((with_reducible refine (HGa.out _ HBc.out).mono ?_); rintro e w1 ⟨rfl, hb1⟩; have HBc : Hid (Below w.heap.size w w1) := bel HBc.out hb1; have HBO : Hid (Boxes w1 w.heap.size #[.int .i64 a.kind, .string a.name, .int .u32 a.num, .int .i64 a.int_, .string a.key, .slice pa a.args.length ca, .int .i64 a.at_] #[.int .i64 b.kind, .string b.name, .int .u32 b.num, .int .i64 b.int_, .string b.key, .slice pb b.args.length cb, .int .i64 b.at_] 29 29) := HBO.out.below hb1; (try clear g0 g1 g2 g3 g4 g5 g6 k0 k1 k2 k3 k4 k5 k6); obtain ⟨⟨g0, g1, g2, g3, g4, g5, g6⟩, -⟩ := seven HBO.out.1; obtain ⟨⟨k0, k1, k2, k3, k4, k5, k6⟩, -⟩ := seven HBO.out.2)
        | (go_at_call 10; refine (sure_any _).mono ?_; rintro e w9 ⟨rfl, hb9⟩))
    go_ret
    exact ⟨rfl, bel HBc.out hb9⟩
  · rw [decide_eq_false hca] at HGa
    by_cases hcb : 9000 < cnt b
    · rw [decide_eq_true hcb] at HGb
      clear hout
      try clear eA eB
      clear hka hkb hr hoka hokb hmn hz hca hcb
      go_enter Tryd.func6, Tryd.ntmps6
      go_wp2_with (first
        | ((with_reducible refine (HGa.out _ HBc.out).mono ?_); rintro e w1 ⟨rfl, hb1⟩; have HBc : Hid (Below w.heap.size w w1) := bel HBc.out hb1; have HBO : Hid (Boxes w1 w.heap.size #[.int .i64 a.kind, .string a.name, .int .u32 a.num, .int .i64 a.int_, .string a.key, .slice pa a.args.length ca, .int .i64 a.at_] #[.int .i64 b.kind, .string b.name, .int .u32 b.num, .int .i64 b.int_, .string b.key, .slice pb b.args.length cb, .int .i64 b.at_] 29 29) := HBO.out.below hb1; (try clear g0 g1 g2 g3 g4 g5 g6 k0 k1 k2 k3 k4 k5 k6); obtain ⟨⟨g0, g1, g2, g3, g4, g5, g6⟩, -⟩ := seven HBO.out.1; obtain ⟨⟨k0, k1, k2, k3, k4, k5, k6⟩, -⟩ := seven HBO.out.2)
        | ((with_reducible refine (HGb.out _ HBc.out).mono ?_); rintro e w2 ⟨rfl, hb2⟩; have HBc : Hid (Below w.heap.size w w2) := bel HBc.out hb2; have HBO : Hid (Boxes w2 w.heap.size #[.int .i64 a.kind, .string a.name, .int .u32 a.num, .int .i64 a.int_, .string a.key, .slice pa a.args.length ca, .int .i64 a.at_] #[.int .i64 b.kind, .string b.name, .int .u32 b.num, .int .i64 b.int_, .string b.key, .slice pb b.args.length cb, .int .i64 b.at_] 29 29) := HBO.out.below hb2; (try clear g0 g1 g2 g3 g4 g5 g6 k0 k1 k2 k3 k4 k5 k6); obtain ⟨⟨g0, g1, g2, g3, g4, g5, g6⟩, -⟩ := seven HBO.out.1; obtain ⟨⟨k0, k1, k2, k3, k4, k5, k6⟩, -⟩ := seven HBO.out.2)
        | (go_at_call 10; refine (sure_any _).mono ?_; rintro e w9 ⟨rfl, hb9⟩))
      go_ret
      exact ⟨rfl, bel HBc.out hb9⟩
    · rw [decide_eq_false hcb] at HGb
      have hSa : SetsOf a pa ca ps pp cc w (setP ps a) := sets_of (by omega) hoka hml hmn hka hr
      have hSb : SetsOf b pb cb ps pp cc w (setP ps b) := sets_of (by omega) hokb hml hmn hkb hr
      have hba := set_bounds ps a
      have hbb := set_bounds ps b
      have zA := set_zero (ps := ps) (t := a)
      have zB := set_zero (ps := ps) (t := b)
      have oA := fun h1 h2 => congrArg SetR.list (set_ok (ps := ps) (t := a) h1 h2)
      have oB := fun h1 h2 => congrArg SetR.list (set_ok (ps := ps) (t := b) h1 h2)
      have HDa : Hid (∀ v, Below w.heap.size w v → Calls Tryd.prog 15 #[.agg #[.int .i64 a.kind, .string a.name, .int .u32 a.num, .int .i64 a.int_, .string a.key, .slice pa a.args.length ca, .int .i64 a.at_]] v fun e w' => e = .returned (.int .i64 (dep a)) ∧ Below v.heap.size v w') := fun v hv => rdepth_to (dep a) a pa ca v (Nat.le_refl _) (by omega) (hka.below hv)
      have HDb : Hid (∀ v, Below w.heap.size w v → Calls Tryd.prog 15 #[.agg #[.int .i64 b.kind, .string b.name, .int .u32 b.num, .int .i64 b.int_, .string b.key, .slice pb b.args.length cb, .int .i64 b.at_]] v fun e w' => e = .returned (.int .i64 (dep b)) ∧ Below v.heap.size v w') := fun v hv => rdepth_to (dep b) b pb cb v (Nat.le_refl _) (by omega) (hkb.below hv)
      have hda : dep a ≤ 9000 := by have := dep_cnt a; omega
      have hdb : dep b ≤ 9000 := by have := dep_cnt b; omega
      obtain ⟨RA, hRA⟩ : ∃ R, setP ps a = R := ⟨_, rfl⟩
      obtain ⟨RB, hRB⟩ : ∃ R, setP ps b = R := ⟨_, rfl⟩
      rw [hRA] at hSa hba zA oA
      rw [hRB] at hSb hbb zB oB
      have eA := congrArg SetR.err hRA
      have eB := congrArg SetR.err hRB
      clear hRA hRB
      obtain ⟨X, E1, F1⟩ := RA
      obtain ⟨Y, E2, F2⟩ := RB
      simp only at hba hbb zA zB oA oB eA eB
      have HSa : Hid (SetsOf a pa ca ps pp cc w ⟨X, E1, F1⟩) := hSa
      have HSb : Hid (SetsOf b pb cb ps pp cc w ⟨Y, E2, F2⟩) := hSb
      clear hSa hSb
      by_cases hE1 : E1 = 0
      · by_cases hE2 : E2 = 0
        · have z1 := zA hE1
          have z2 := zB hE2
          have x1 := oA z1.1 z1.2
          have x2 := oB z2.1 z2.2
          clear zA zB oA oB
          subst hE1
          subst hE2
          by_cases h60 : dep a > 60
          · have t1 : (60 : Int) < (dep a : Int) := by omega
            clear hout
            try clear eA eB
            clear hka hkb hr hoka hokb hmn hz hca hcb z1 z2 x1 x2 h60
            go_enter Tryd.func6, Tryd.ntmps6
            go_wp2_with (first
        | ((with_reducible refine (HGa.out _ HBc.out).mono ?_); rintro e w1 ⟨rfl, hb1⟩; have HBc : Hid (Below w.heap.size w w1) := bel HBc.out hb1; have HBO : Hid (Boxes w1 w.heap.size #[.int .i64 a.kind, .string a.name, .int .u32 a.num, .int .i64 a.int_, .string a.key, .slice pa a.args.length ca, .int .i64 a.at_] #[.int .i64 b.kind, .string b.name, .int .u32 b.num, .int .i64 b.int_, .string b.key, .slice pb b.args.length cb, .int .i64 b.at_] 29 29) := HBO.out.below hb1; (try clear g0 g1 g2 g3 g4 g5 g6 k0 k1 k2 k3 k4 k5 k6); obtain ⟨⟨g0, g1, g2, g3, g4, g5, g6⟩, -⟩ := seven HBO.out.1; obtain ⟨⟨k0, k1, k2, k3, k4, k5, k6⟩, -⟩ := seven HBO.out.2)
        | ((with_reducible refine (HGb.out _ HBc.out).mono ?_); rintro e w2 ⟨rfl, hb2⟩; have HBc : Hid (Below w.heap.size w w2) := bel HBc.out hb2; have HBO : Hid (Boxes w2 w.heap.size #[.int .i64 a.kind, .string a.name, .int .u32 a.num, .int .i64 a.int_, .string a.key, .slice pa a.args.length ca, .int .i64 a.at_] #[.int .i64 b.kind, .string b.name, .int .u32 b.num, .int .i64 b.int_, .string b.key, .slice pb b.args.length cb, .int .i64 b.at_] 29 29) := HBO.out.below hb2; (try clear g0 g1 g2 g3 g4 g5 g6 k0 k1 k2 k3 k4 k5 k6); obtain ⟨⟨g0, g1, g2, g3, g4, g5, g6⟩, -⟩ := seven HBO.out.1; obtain ⟨⟨k0, k1, k2, k3, k4, k5, k6⟩, -⟩ := seven HBO.out.2)
        | ((with_reducible refine (HSa.out.set _ HBc.out).mono ?_); rintro e w3 ⟨vx, rfl, ho3, hb3⟩; have RX : Hid (RdN w3 vx X) := ho3.rd; clear ho3; have HBc : Hid (Below w.heap.size w w3) := bel HBc.out hb3; have HBO : Hid (Boxes w3 w.heap.size #[.int .i64 a.kind, .string a.name, .int .u32 a.num, .int .i64 a.int_, .string a.key, .slice pa a.args.length ca, .int .i64 a.at_] #[.int .i64 b.kind, .string b.name, .int .u32 b.num, .int .i64 b.int_, .string b.key, .slice pb b.args.length cb, .int .i64 b.at_] 29 29) := HBO.out.below hb3; (try clear g0 g1 g2 g3 g4 g5 g6 k0 k1 k2 k3 k4 k5 k6); obtain ⟨⟨g0, g1, g2, g3, g4, g5, g6⟩, -⟩ := seven HBO.out.1; obtain ⟨⟨k0, k1, k2, k3, k4, k5, k6⟩, -⟩ := seven HBO.out.2)
        | ((with_reducible refine (HSb.out.set _ HBc.out).mono ?_); rintro e w4 ⟨vy, rfl, ho4, hb4⟩; have RY : Hid (RdN w4 vy Y) := ho4.rd; have RX : Hid (RdN w4 vx X) := RX.out.below hb4; clear ho4; have HBc : Hid (Below w.heap.size w w4) := bel HBc.out hb4; have HBO : Hid (Boxes w4 w.heap.size #[.int .i64 a.kind, .string a.name, .int .u32 a.num, .int .i64 a.int_, .string a.key, .slice pa a.args.length ca, .int .i64 a.at_] #[.int .i64 b.kind, .string b.name, .int .u32 b.num, .int .i64 b.int_, .string b.key, .slice pb b.args.length cb, .int .i64 b.at_] 29 29) := HBO.out.below hb4; (try clear g0 g1 g2 g3 g4 g5 g6 k0 k1 k2 k3 k4 k5 k6); obtain ⟨⟨g0, g1, g2, g3, g4, g5, g6⟩, -⟩ := seven HBO.out.1; obtain ⟨⟨k0, k1, k2, k3, k4, k5, k6⟩, -⟩ := seven HBO.out.2)
        | ((with_reducible refine (HDa.out _ HBc.out).mono ?_); rintro e w5 ⟨rfl, hb5⟩; have RX : Hid (RdN w5 vx X) := RX.out.below hb5; have RY : Hid (RdN w5 vy Y) := RY.out.below hb5; have HBc : Hid (Below w.heap.size w w5) := bel HBc.out hb5; have HBO : Hid (Boxes w5 w.heap.size #[.int .i64 a.kind, .string a.name, .int .u32 a.num, .int .i64 a.int_, .string a.key, .slice pa a.args.length ca, .int .i64 a.at_] #[.int .i64 b.kind, .string b.name, .int .u32 b.num, .int .i64 b.int_, .string b.key, .slice pb b.args.length cb, .int .i64 b.at_] 29 29) := HBO.out.below hb5; (try clear g0 g1 g2 g3 g4 g5 g6 k0 k1 k2 k3 k4 k5 k6); obtain ⟨⟨g0, g1, g2, g3, g4, g5, g6⟩, -⟩ := seven HBO.out.1; obtain ⟨⟨k0, k1, k2, k3, k4, k5, k6⟩, -⟩ := seven HBO.out.2)
        | (go_at_call 10; refine (sure_any _).mono ?_; rintro e w9 ⟨rfl, hb9⟩))
            go_ret
            exact ⟨rfl, bel HBc.out hb9⟩
          · have t1 : ¬ (60 : Int) < (dep a : Int) := by omega
            by_cases h61 : dep b > 60
            · have t2 : (60 : Int) < (dep b : Int) := by omega
              clear hout
              try clear eA eB
              clear hka hkb hr hoka hokb hmn hz hca hcb z1 z2 x1 x2 h60 h61
              go_enter Tryd.func6, Tryd.ntmps6
              go_wp2_with (first
        | ((with_reducible refine (HGa.out _ HBc.out).mono ?_); rintro e w1 ⟨rfl, hb1⟩; have HBc : Hid (Below w.heap.size w w1) := bel HBc.out hb1; have HBO : Hid (Boxes w1 w.heap.size #[.int .i64 a.kind, .string a.name, .int .u32 a.num, .int .i64 a.int_, .string a.key, .slice pa a.args.length ca, .int .i64 a.at_] #[.int .i64 b.kind, .string b.name, .int .u32 b.num, .int .i64 b.int_, .string b.key, .slice pb b.args.length cb, .int .i64 b.at_] 29 29) := HBO.out.below hb1; (try clear g0 g1 g2 g3 g4 g5 g6 k0 k1 k2 k3 k4 k5 k6); obtain ⟨⟨g0, g1, g2, g3, g4, g5, g6⟩, -⟩ := seven HBO.out.1; obtain ⟨⟨k0, k1, k2, k3, k4, k5, k6⟩, -⟩ := seven HBO.out.2)
        | ((with_reducible refine (HGb.out _ HBc.out).mono ?_); rintro e w2 ⟨rfl, hb2⟩; have HBc : Hid (Below w.heap.size w w2) := bel HBc.out hb2; have HBO : Hid (Boxes w2 w.heap.size #[.int .i64 a.kind, .string a.name, .int .u32 a.num, .int .i64 a.int_, .string a.key, .slice pa a.args.length ca, .int .i64 a.at_] #[.int .i64 b.kind, .string b.name, .int .u32 b.num, .int .i64 b.int_, .string b.key, .slice pb b.args.length cb, .int .i64 b.at_] 29 29) := HBO.out.below hb2; (try clear g0 g1 g2 g3 g4 g5 g6 k0 k1 k2 k3 k4 k5 k6); obtain ⟨⟨g0, g1, g2, g3, g4, g5, g6⟩, -⟩ := seven HBO.out.1; obtain ⟨⟨k0, k1, k2, k3, k4, k5, k6⟩, -⟩ := seven HBO.out.2)
        | ((with_reducible refine (HSa.out.set _ HBc.out).mono ?_); rintro e w3 ⟨vx, rfl, ho3, hb3⟩; have RX : Hid (RdN w3 vx X) := ho3.rd; clear ho3; have HBc : Hid (Below w.heap.size w w3) := bel HBc.out hb3; have HBO : Hid (Boxes w3 w.heap.size #[.int .i64 a.kind, .string a.name, .int .u32 a.num, .int .i64 a.int_, .string a.key, .slice pa a.args.length ca, .int .i64 a.at_] #[.int .i64 b.kind, .string b.name, .int .u32 b.num, .int .i64 b.int_, .string b.key, .slice pb b.args.length cb, .int .i64 b.at_] 29 29) := HBO.out.below hb3; (try clear g0 g1 g2 g3 g4 g5 g6 k0 k1 k2 k3 k4 k5 k6); obtain ⟨⟨g0, g1, g2, g3, g4, g5, g6⟩, -⟩ := seven HBO.out.1; obtain ⟨⟨k0, k1, k2, k3, k4, k5, k6⟩, -⟩ := seven HBO.out.2)
        | ((with_reducible refine (HSb.out.set _ HBc.out).mono ?_); rintro e w4 ⟨vy, rfl, ho4, hb4⟩; have RY : Hid (RdN w4 vy Y) := ho4.rd; have RX : Hid (RdN w4 vx X) := RX.out.below hb4; clear ho4; have HBc : Hid (Below w.heap.size w w4) := bel HBc.out hb4; have HBO : Hid (Boxes w4 w.heap.size #[.int .i64 a.kind, .string a.name, .int .u32 a.num, .int .i64 a.int_, .string a.key, .slice pa a.args.length ca, .int .i64 a.at_] #[.int .i64 b.kind, .string b.name, .int .u32 b.num, .int .i64 b.int_, .string b.key, .slice pb b.args.length cb, .int .i64 b.at_] 29 29) := HBO.out.below hb4; (try clear g0 g1 g2 g3 g4 g5 g6 k0 k1 k2 k3 k4 k5 k6); obtain ⟨⟨g0, g1, g2, g3, g4, g5, g6⟩, -⟩ := seven HBO.out.1; obtain ⟨⟨k0, k1, k2, k3, k4, k5, k6⟩, -⟩ := seven HBO.out.2)
        | ((with_reducible refine (HDa.out _ HBc.out).mono ?_); rintro e w5 ⟨rfl, hb5⟩; have RX : Hid (RdN w5 vx X) := RX.out.below hb5; have RY : Hid (RdN w5 vy Y) := RY.out.below hb5; have HBc : Hid (Below w.heap.size w w5) := bel HBc.out hb5; have HBO : Hid (Boxes w5 w.heap.size #[.int .i64 a.kind, .string a.name, .int .u32 a.num, .int .i64 a.int_, .string a.key, .slice pa a.args.length ca, .int .i64 a.at_] #[.int .i64 b.kind, .string b.name, .int .u32 b.num, .int .i64 b.int_, .string b.key, .slice pb b.args.length cb, .int .i64 b.at_] 29 29) := HBO.out.below hb5; (try clear g0 g1 g2 g3 g4 g5 g6 k0 k1 k2 k3 k4 k5 k6); obtain ⟨⟨g0, g1, g2, g3, g4, g5, g6⟩, -⟩ := seven HBO.out.1; obtain ⟨⟨k0, k1, k2, k3, k4, k5, k6⟩, -⟩ := seven HBO.out.2)
        | ((with_reducible refine (HDb.out _ HBc.out).mono ?_); rintro e w6 ⟨rfl, hb6⟩; have RX : Hid (RdN w6 vx X) := RX.out.below hb6; have RY : Hid (RdN w6 vy Y) := RY.out.below hb6; have HBc : Hid (Below w.heap.size w w6) := bel HBc.out hb6; have HBO : Hid (Boxes w6 w.heap.size #[.int .i64 a.kind, .string a.name, .int .u32 a.num, .int .i64 a.int_, .string a.key, .slice pa a.args.length ca, .int .i64 a.at_] #[.int .i64 b.kind, .string b.name, .int .u32 b.num, .int .i64 b.int_, .string b.key, .slice pb b.args.length cb, .int .i64 b.at_] 29 29) := HBO.out.below hb6; (try clear g0 g1 g2 g3 g4 g5 g6 k0 k1 k2 k3 k4 k5 k6); obtain ⟨⟨g0, g1, g2, g3, g4, g5, g6⟩, -⟩ := seven HBO.out.1; obtain ⟨⟨k0, k1, k2, k3, k4, k5, k6⟩, -⟩ := seven HBO.out.2)
        | (go_at_call 10; refine (sure_any _).mono ?_; rintro e w9 ⟨rfl, hb9⟩))
              go_ret
              exact ⟨rfl, bel HBc.out hb9⟩
            · have t2 : ¬ (60 : Int) < (dep b : Int) := by omega
              exact absurd ⟨hca, hcb, eA, eB, h60, h61⟩ hout
        · have z2 : (E2 == 0) = false := by simpa using hE2
          have z3 : (E2 != 0) = true := by simpa using hE2
          subst hE1
          clear hout
          try clear eA eB
          clear hka hkb hr hoka hokb hmn hz hca hcb zA zB oA oB hE2
          go_enter Tryd.func6, Tryd.ntmps6
          go_wp2_with (first
        | ((with_reducible refine (HGa.out _ HBc.out).mono ?_); rintro e w1 ⟨rfl, hb1⟩; have HBc : Hid (Below w.heap.size w w1) := bel HBc.out hb1; have HBO : Hid (Boxes w1 w.heap.size #[.int .i64 a.kind, .string a.name, .int .u32 a.num, .int .i64 a.int_, .string a.key, .slice pa a.args.length ca, .int .i64 a.at_] #[.int .i64 b.kind, .string b.name, .int .u32 b.num, .int .i64 b.int_, .string b.key, .slice pb b.args.length cb, .int .i64 b.at_] 29 29) := HBO.out.below hb1; (try clear g0 g1 g2 g3 g4 g5 g6 k0 k1 k2 k3 k4 k5 k6); obtain ⟨⟨g0, g1, g2, g3, g4, g5, g6⟩, -⟩ := seven HBO.out.1; obtain ⟨⟨k0, k1, k2, k3, k4, k5, k6⟩, -⟩ := seven HBO.out.2)
        | ((with_reducible refine (HGb.out _ HBc.out).mono ?_); rintro e w2 ⟨rfl, hb2⟩; have HBc : Hid (Below w.heap.size w w2) := bel HBc.out hb2; have HBO : Hid (Boxes w2 w.heap.size #[.int .i64 a.kind, .string a.name, .int .u32 a.num, .int .i64 a.int_, .string a.key, .slice pa a.args.length ca, .int .i64 a.at_] #[.int .i64 b.kind, .string b.name, .int .u32 b.num, .int .i64 b.int_, .string b.key, .slice pb b.args.length cb, .int .i64 b.at_] 29 29) := HBO.out.below hb2; (try clear g0 g1 g2 g3 g4 g5 g6 k0 k1 k2 k3 k4 k5 k6); obtain ⟨⟨g0, g1, g2, g3, g4, g5, g6⟩, -⟩ := seven HBO.out.1; obtain ⟨⟨k0, k1, k2, k3, k4, k5, k6⟩, -⟩ := seven HBO.out.2)
        | ((with_reducible refine (HSa.out.set _ HBc.out).mono ?_); rintro e w3 ⟨vx, rfl, ho3, hb3⟩; have RX : Hid (RdN w3 vx X) := ho3.rd; clear ho3; have HBc : Hid (Below w.heap.size w w3) := bel HBc.out hb3; have HBO : Hid (Boxes w3 w.heap.size #[.int .i64 a.kind, .string a.name, .int .u32 a.num, .int .i64 a.int_, .string a.key, .slice pa a.args.length ca, .int .i64 a.at_] #[.int .i64 b.kind, .string b.name, .int .u32 b.num, .int .i64 b.int_, .string b.key, .slice pb b.args.length cb, .int .i64 b.at_] 29 29) := HBO.out.below hb3; (try clear g0 g1 g2 g3 g4 g5 g6 k0 k1 k2 k3 k4 k5 k6); obtain ⟨⟨g0, g1, g2, g3, g4, g5, g6⟩, -⟩ := seven HBO.out.1; obtain ⟨⟨k0, k1, k2, k3, k4, k5, k6⟩, -⟩ := seven HBO.out.2)
        | ((with_reducible refine (HSb.out.set _ HBc.out).mono ?_); rintro e w4 ⟨vy, rfl, ho4, hb4⟩; have RY : Hid (RdN w4 vy Y) := ho4.rd; have RX : Hid (RdN w4 vx X) := RX.out.below hb4; clear ho4; have HBc : Hid (Below w.heap.size w w4) := bel HBc.out hb4; have HBO : Hid (Boxes w4 w.heap.size #[.int .i64 a.kind, .string a.name, .int .u32 a.num, .int .i64 a.int_, .string a.key, .slice pa a.args.length ca, .int .i64 a.at_] #[.int .i64 b.kind, .string b.name, .int .u32 b.num, .int .i64 b.int_, .string b.key, .slice pb b.args.length cb, .int .i64 b.at_] 29 29) := HBO.out.below hb4; (try clear g0 g1 g2 g3 g4 g5 g6 k0 k1 k2 k3 k4 k5 k6); obtain ⟨⟨g0, g1, g2, g3, g4, g5, g6⟩, -⟩ := seven HBO.out.1; obtain ⟨⟨k0, k1, k2, k3, k4, k5, k6⟩, -⟩ := seven HBO.out.2)
        | (go_at_call 10; refine (sure_any _).mono ?_; rintro e w9 ⟨rfl, hb9⟩))
          go_ret
          exact ⟨rfl, bel HBc.out hb9⟩
      · have z2 : (E1 == 0) = false := by simpa using hE1
        have z3 : (E1 != 0) = true := by simpa using hE1
        clear hout
        try clear eA eB
        clear hka hkb hr hoka hokb hmn hz hca hcb zA zB oA oB hE1
        go_enter Tryd.func6, Tryd.ntmps6
        go_wp2_with (first
        | ((with_reducible refine (HGa.out _ HBc.out).mono ?_); rintro e w1 ⟨rfl, hb1⟩; have HBc : Hid (Below w.heap.size w w1) := bel HBc.out hb1; have HBO : Hid (Boxes w1 w.heap.size #[.int .i64 a.kind, .string a.name, .int .u32 a.num, .int .i64 a.int_, .string a.key, .slice pa a.args.length ca, .int .i64 a.at_] #[.int .i64 b.kind, .string b.name, .int .u32 b.num, .int .i64 b.int_, .string b.key, .slice pb b.args.length cb, .int .i64 b.at_] 29 29) := HBO.out.below hb1; (try clear g0 g1 g2 g3 g4 g5 g6 k0 k1 k2 k3 k4 k5 k6); obtain ⟨⟨g0, g1, g2, g3, g4, g5, g6⟩, -⟩ := seven HBO.out.1; obtain ⟨⟨k0, k1, k2, k3, k4, k5, k6⟩, -⟩ := seven HBO.out.2)
        | ((with_reducible refine (HGb.out _ HBc.out).mono ?_); rintro e w2 ⟨rfl, hb2⟩; have HBc : Hid (Below w.heap.size w w2) := bel HBc.out hb2; have HBO : Hid (Boxes w2 w.heap.size #[.int .i64 a.kind, .string a.name, .int .u32 a.num, .int .i64 a.int_, .string a.key, .slice pa a.args.length ca, .int .i64 a.at_] #[.int .i64 b.kind, .string b.name, .int .u32 b.num, .int .i64 b.int_, .string b.key, .slice pb b.args.length cb, .int .i64 b.at_] 29 29) := HBO.out.below hb2; (try clear g0 g1 g2 g3 g4 g5 g6 k0 k1 k2 k3 k4 k5 k6); obtain ⟨⟨g0, g1, g2, g3, g4, g5, g6⟩, -⟩ := seven HBO.out.1; obtain ⟨⟨k0, k1, k2, k3, k4, k5, k6⟩, -⟩ := seven HBO.out.2)
        | ((with_reducible refine (HSa.out.set _ HBc.out).mono ?_); rintro e w3 ⟨vx, rfl, ho3, hb3⟩; have RX : Hid (RdN w3 vx X) := ho3.rd; clear ho3; have HBc : Hid (Below w.heap.size w w3) := bel HBc.out hb3; have HBO : Hid (Boxes w3 w.heap.size #[.int .i64 a.kind, .string a.name, .int .u32 a.num, .int .i64 a.int_, .string a.key, .slice pa a.args.length ca, .int .i64 a.at_] #[.int .i64 b.kind, .string b.name, .int .u32 b.num, .int .i64 b.int_, .string b.key, .slice pb b.args.length cb, .int .i64 b.at_] 29 29) := HBO.out.below hb3; (try clear g0 g1 g2 g3 g4 g5 g6 k0 k1 k2 k3 k4 k5 k6); obtain ⟨⟨g0, g1, g2, g3, g4, g5, g6⟩, -⟩ := seven HBO.out.1; obtain ⟨⟨k0, k1, k2, k3, k4, k5, k6⟩, -⟩ := seven HBO.out.2)
        | ((with_reducible refine (HSb.out.set _ HBc.out).mono ?_); rintro e w4 ⟨vy, rfl, ho4, hb4⟩; have RY : Hid (RdN w4 vy Y) := ho4.rd; have RX : Hid (RdN w4 vx X) := RX.out.below hb4; clear ho4; have HBc : Hid (Below w.heap.size w w4) := bel HBc.out hb4; have HBO : Hid (Boxes w4 w.heap.size #[.int .i64 a.kind, .string a.name, .int .u32 a.num, .int .i64 a.int_, .string a.key, .slice pa a.args.length ca, .int .i64 a.at_] #[.int .i64 b.kind, .string b.name, .int .u32 b.num, .int .i64 b.int_, .string b.key, .slice pb b.args.length cb, .int .i64 b.at_] 29 29) := HBO.out.below hb4; (try clear g0 g1 g2 g3 g4 g5 g6 k0 k1 k2 k3 k4 k5 k6); obtain ⟨⟨g0, g1, g2, g3, g4, g5, g6⟩, -⟩ := seven HBO.out.1; obtain ⟨⟨k0, k1, k2, k3, k4, k5, k6⟩, -⟩ := seven HBO.out.2)
        | (go_at_call 10; refine (sure_any _).mono ?_; rintro e w9 ⟨rfl, hb9⟩))
        go_ret
        exact ⟨rfl, bel HBc.out hb9⟩

end Go.Proofs.YtnhpnmilgcjeaaaDoor
