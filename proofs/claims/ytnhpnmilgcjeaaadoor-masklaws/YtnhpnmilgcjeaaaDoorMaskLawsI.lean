import Derived.Test.YtnhpnmilgcjeaaaDoorMaskReg10
/- MaskLaws: where all is asked. -/
namespace Go.Proofs.YtnhpnmilgcjeaaaDoor
open Go.RowKit
set_option linter.unusedVariables false
set_option linter.unusedSimpArgs false

set_option maxRecDepth 100000 in
set_option maxHeartbeats 8000000 in
theorem walk_MaskLaws_in (a : Nd) (pa : Option Addr) (ca : Nat) (hoka : ok1 a) (b : Nd) (pb : Option Addr) (cb : Nat) (hokb : ok1 b) (pp : Option Addr) (cc : Nat) (ps : List Par) (hml : ps.length ≤ 4398046510976) (hmn : ∀ q ∈ ps, q.name.size ≤ 140737488351232) (hz : pp = none → ps.length = 0 ∧ cc = 0) (w : World) (hka : Kids w anyH (.slice pa a.args.length ca) a.args) (hkb : Kids w anyH (.slice pb b.args.length cb) b.args) (hr : Row w pp ps) (hin : ¬ 9000 < cnt a ∧ ¬ 9000 < cnt b ∧ (setP ps a).err = 0 ∧ (setP ps b).err = 0 ∧ ¬ dep a > 60 ∧ ¬ dep b > 60) :
    Calls Tryd.prog 6 #[nv a (.slice pa a.args.length ca), nv b (.slice pb b.args.length cb), .slice pp ps.length cc] w fun e w' => e = .returned (.bool true) ∧ Below w.heap.size w w' := by
  obtain ⟨i1, i2, i3, i4, i5, i6⟩ := hin
  have HGa : Hid (∀ v, Below w.heap.size w v → Calls Tryd.prog 11 #[.agg #[.int .i64 a.kind, .string a.name, .int .u32 a.num, .int .i64 a.int_, .string a.key, .slice pa a.args.length ca, .int .i64 a.at_]] v fun e w' => e = .returned (.bool (decide (9000 < cnt a))) ∧ Below v.heap.size v w') := big_box hka
  have HGb : Hid (∀ v, Below w.heap.size w v → Calls Tryd.prog 11 #[.agg #[.int .i64 b.kind, .string b.name, .int .u32 b.num, .int .i64 b.int_, .string b.key, .slice pb b.args.length cb, .int .i64 b.at_]] v fun e w' => e = .returned (.bool (decide (9000 < cnt b))) ∧ Below v.heap.size v w') := big_box hkb
  have HBc : Hid (Below w.heap.size w ((w.alloc (.cells #[.int .i64 a.kind, .string a.name, .int .u32 a.num, .int .i64 a.int_, .string a.key, .slice pa a.args.length ca, .int .i64 a.at_] 29)).alloc (.cells #[.int .i64 b.kind, .string b.name, .int .u32 b.num, .int .i64 b.int_, .string b.key, .slice pb b.args.length cb, .int .i64 b.at_] 29))) := bel (bel_alloc _ _) (bel_alloc _ _)
  have HBO : Hid (Boxes ((w.alloc (.cells #[.int .i64 a.kind, .string a.name, .int .u32 a.num, .int .i64 a.int_, .string a.key, .slice pa a.args.length ca, .int .i64 a.at_] 29)).alloc (.cells #[.int .i64 b.kind, .string b.name, .int .u32 b.num, .int .i64 b.int_, .string b.key, .slice pb b.args.length cb, .int .i64 b.at_] 29)) w.heap.size #[.int .i64 a.kind, .string a.name, .int .u32 a.num, .int .i64 a.int_, .string a.key, .slice pa a.args.length ca, .int .i64 a.at_] #[.int .i64 b.kind, .string b.name, .int .u32 b.num, .int .i64 b.int_, .string b.key, .slice pb b.args.length cb, .int .i64 b.at_] 29 29) := boxes_new w _ _ _ _
  unfold nv
  by_cases hca : 9000 < cnt a
  · rw [decide_eq_true hca] at HGa
    exact absurd hca i1
  · rw [decide_eq_false hca] at HGa
    by_cases hcb : 9000 < cnt b
    · rw [decide_eq_true hcb] at HGb
      exact absurd hcb i2
    · rw [decide_eq_false hcb] at HGb
      have hSa : SetsOf a pa ca ps pp cc w (setP ps a) := sets_of (by omega) hoka hml hmn hka hr
      have hSb : SetsOf b pb cb ps pp cc w (setP ps b) := sets_of (by omega) hokb hml hmn hkb hr
      have hba := set_bounds ps a
      have hbb := set_bounds ps b
      have zA := set_zero (ps := ps) (t := a)
      have zB := set_zero (ps := ps) (t := b)
      have oA := fun h1 h2 => congrArg SetR.list (set_ok (ps := ps) (t := a) h1 h2)
      have oB := fun h1 h2 => congrArg SetR.list (set_ok (ps := ps) (t := b) h1 h2)
      have HDa : Hid (∀ v, Below w.heap.size w v → Calls Tryd.prog 15 #[.agg #[.int .i64 a.kind, .string a.name, .int .u32 a.num, .int .i64 a.int_, .string a.key, .slice pa a.args.length ca, .int .i64 a.at_]] v fun e w' => e = .returned (.int .i64 (dep a)) ∧ Below v.heap.size v w') := fun v hv => rdepth_to (dep a) a pa ca v (Nat.le_refl _) (by omega) (hka.below hv)
      have HDb : Hid (∀ v, Below w.heap.size w v → Calls Tryd.prog 15 #[.agg #[.int .i64 b.kind, .string b.name, .int .u32 b.num, .int .i64 b.int_, .string b.key, .slice pb b.args.length cb, .int .i64 b.at_]] v fun e w' => e = .returned (.int .i64 (dep b)) ∧ Below v.heap.size v w') := fun v hv => rdepth_to (dep b) b pb cb v (Nat.le_refl _) (by omega) (hkb.below hv)
      have hda : dep a ≤ 9000 := by have := dep_cnt a; omega
      have hdb : dep b ≤ 9000 := by have := dep_cnt b; omega
      obtain ⟨RA, hRA⟩ : ∃ R, setP ps a = R := ⟨_, rfl⟩
      obtain ⟨RB, hRB⟩ : ∃ R, setP ps b = R := ⟨_, rfl⟩
      rw [hRA] at hSa hba zA oA
      rw [hRB] at hSb hbb zB oB
      have eA := congrArg SetR.err hRA
      have eB := congrArg SetR.err hRB
      clear hRA hRB
      obtain ⟨X, E1, F1⟩ := RA
      obtain ⟨Y, E2, F2⟩ := RB
      simp only at hba hbb zA zB oA oB eA eB
      have HSa : Hid (SetsOf a pa ca ps pp cc w ⟨X, E1, F1⟩) := hSa
      have HSb : Hid (SetsOf b pb cb ps pp cc w ⟨Y, E2, F2⟩) := hSb
      clear hSa hSb
      by_cases hE1 : E1 = 0
      · by_cases hE2 : E2 = 0
        · have z1 := zA hE1
          have z2 := zB hE2
          have x1 := oA z1.1 z1.2
          have x2 := oB z2.1 z2.2
          clear zA zB oA oB
          subst hE1
          subst hE2
          by_cases h60 : dep a > 60
          · have t1 : (60 : Int) < (dep a : Int) := by omega
            exact absurd h60 i5
          · have t1 : ¬ (60 : Int) < (dep a : Int) := by omega
            by_cases h61 : dep b > 60
            · have t2 : (60 : Int) < (dep b : Int) := by omega
              exact absurd h61 i6
            · have t2 : ¬ (60 : Int) < (dep b : Int) := by omega
              clear i1 i2 i3 i4 i5 i6 eA eB
              have fa := z1.2
              have fb := z2.2
              have fna : (faultM ps (callN bNot [a])).1 = 0 := fault_callN (show okName bNot 1 = true by decide) (by intro q hq; simp at hq; subst hq; exact fa)
              have fnb : (faultM ps (callN bNot [b])).1 = 0 := fault_callN (show okName bNot 1 = true by decide) (by intro q hq; simp at hq; subst hq; exact fb)
              have fab : (faultM ps (callN bAnd [a, b])).1 = 0 := fault_callN (show okName bAnd 2 = true by decide) (by intro q hq; simp at hq; rcases hq with rfl | rfl; exact fa; exact fb)
              have okna := ok_one (nm := bNot) (by decide) hoka
              have oknb := ok_one (nm := bNot) (by decide) hokb
              have okab := ok_two (nm := bAnd) (by decide) hoka hokb
              have SN1 : Hid (SetN w ps pp cc bNot [a] 1 (indP ps (callN bNot [a]))) := setN_of rfl hml hmn hr (by rw [dep_one]; omega) (by rw [cnt_one]; omega) okna (fault_callN (show okName bNot 1 = true by decide) (by intro q hq; simp at hq; subst hq; exact fa))
              have SN2 : Hid (SetN w ps pp cc bNot [callN bNot [a]] 1 (indP ps (callN bNot [callN bNot [a]]))) := setN_of rfl hml hmn hr (by rw [dep_one, dep_one]; omega) (by rw [cnt_one, cnt_one]; omega) (ok_one (by decide) okna) (fault_callN (show okName bNot 1 = true by decide) (by intro q hq; simp at hq; subst hq; exact fna))
              have SN3 : Hid (SetN w ps pp cc bNot [callN bAnd [a, b]] 1 (indP ps (callN bNot [callN bAnd [a, b]]))) := setN_of rfl hml hmn hr (by rw [dep_one, dep_two]; omega) (by rw [cnt_one, cnt_two]; omega) (ok_one (by decide) okab) (fault_callN (show okName bNot 1 = true by decide) (by intro q hq; simp at hq; subst hq; exact fab))
              have SN4 : Hid (SetN w ps pp cc bOr [callN bNot [a], callN bNot [b]] 2 (indP ps (callN bOr [callN bNot [a], callN bNot [b]]))) := setN_of rfl hml hmn hr (by rw [dep_two, dep_one, dep_one]; omega) (by rw [cnt_two, cnt_one, cnt_one]; omega) (ok_two (by decide) okna oknb) (fault_callN (show okName bOr 2 = true by decide) (by intro q hq; simp at hq; rcases hq with rfl | rfl; exact fna; exact fnb))
              have SN5 : Hid (SetN w ps pp cc bAnd [a, b] 2 (indP ps (callN bAnd [a, b]))) := setN_of rfl hml hmn hr (by rw [dep_two]; omega) (by rw [cnt_two]; omega) okab (fault_callN (show okName bAnd 2 = true by decide) (by intro q hq; simp at hq; rcases hq with rfl | rfl; exact fa; exact fb))
              have SN6 : Hid (SetN w ps pp cc bOr [a, b] 2 (indP ps (callN bOr [a, b]))) := setN_of rfl hml hmn hr (by rw [dep_two]; omega) (by rw [cnt_two]; omega) (ok_two (by decide) hoka hokb) (fault_callN (show okName bOr 2 = true by decide) (by intro q hq; simp at hq; rcases hq with rfl | rfl; exact fa; exact fb))
              have C1 : Hid (CallN bNot [a] 1) := callN_of _ _ rfl (by decide)
              have C2 : Hid (CallN bNot [callN bNot [a]] 1) := callN_of _ _ rfl (by decide)
              have C3 : Hid (CallN bNot [callN bAnd [a, b]] 1) := callN_of _ _ rfl (by decide)
              have C4 : Hid (CallN bOr [callN bNot [a], callN bNot [b]] 2) := callN_of _ _ rfl (by decide)
              have C5 : Hid (CallN bAnd [a, b] 2) := callN_of _ _ rfl (by decide)
              have C6 : Hid (CallN bOr [a, b] 2) := callN_of _ _ rfl (by decide)
              have C7 : Hid (CallN bNot [b] 1) := callN_of _ _ rfl (by decide)
              have HKa : Hid (∀ v, Below w.heap.size w v → Kids v anyH (.slice pa a.args.length ca) a.args) := fun v hv => hka.below hv
              have HKb : Hid (∀ v, Below w.heap.size w v → Kids v anyH (.slice pb b.args.length cb) b.args) := fun v hv => hkb.below hv
              have e2 : indP ps (callN bNot [callN bNot [a]]) = X := by rw [x1, indU_all, indU_all]; exact indU_congr (fun p => by rw [in_not, in_not, Bool.not_not]) _
              have e34 : indP ps (callN bNot [callN bAnd [a, b]]) = indP ps (callN bOr [callN bNot [a], callN bNot [b]]) := by rw [indU_all, indU_all]; exact indU_congr (fun p => by rw [in_not, in_and, in_or, in_not, in_not]; cases inM p a <;> cases inM p b <;> rfl) _
              have len1 := len_and_or ps a b ps.length (Nat.le_refl _)
              have len2 := len_not ps a ps.length (Nat.le_refl _)
              have cs := fun i (h : i < ps.length) => count_split ps a h
              rw [← indU_all, ← indU_all, ← indU_all, ← indU_all, ← x1, ← x2] at len1
              rw [← indU_all, ← indU_all, ← x1] at len2
              rw [e2] at SN2
              rw [e34] at SN3
              simp only [← x1] at cs
              obtain ⟨N, hN⟩ : ∃ L, indP ps (callN bNot [a]) = L := ⟨_, rfl⟩
              obtain ⟨Q, hQ⟩ : ∃ L, indP ps (callN bOr [callN bNot [a], callN bNot [b]]) = L := ⟨_, rfl⟩
              obtain ⟨T, hT⟩ : ∃ L, indP ps (callN bAnd [a, b]) = L := ⟨_, rfl⟩
              obtain ⟨U, hU⟩ : ∃ L, indP ps (callN bOr [a, b]) = L := ⟨_, rfl⟩
              rw [hN] at SN1 len2
              simp only [hN] at cs
              rw [hQ] at SN3 SN4
              rw [hT] at SN5 len1
              rw [hU] at SN6 len1
              have HCS : Hid (∀ i, i < ps.length → X.count i + N.count i = 1) := fun i h => cs i h
              have HLN1 : Hid (T.length + U.length = X.length + Y.length) := len1
              have HLN2 : Hid (X.length + N.length = ps.length) := len2
              have hTl : T.length ≤ 4398046510976 := by rw [← hT, indU_all]; exact Nat.le_trans (indU_len _ _ _) hml
              have hUl : U.length ≤ 4398046510976 := by rw [← hU, indU_all]; exact Nat.le_trans (indU_len _ _ _) hml
              have hQl : Q.length ≤ 140737488351232 := by rw [← hQ, indU_all]; exact Nat.le_trans (indU_len _ _ _) (by omega)
              have hXl : X.length ≤ 4398046510976 := by rw [x1, indU_all]; exact Nat.le_trans (indU_len _ _ _) hml
              have hYl : Y.length ≤ 4398046510976 := by rw [x2, indU_all]; exact Nat.le_trans (indU_len _ _ _) hml
              have hNl : N.length ≤ 4398046510976 := by rw [← hN, indU_all]; exact Nat.le_trans (indU_len _ _ _) hml
              unfold SetN at SN1 SN2 SN3 SN4 SN5 SN6
              unfold CallN at C1 C2 C3 C4 C5 C6 C7
              unfold bNot at SN1 SN2 C1 C2 C7
              unfold bNot bAnd at SN3 C3
              unfold bNot bOr at SN4 C4
              unfold bAnd at SN5 C5
              unfold bOr at SN6 C6
              clear hka hkb hr hoka hokb hmn hz hca hcb z1 z2 x1 x2 h60 h61 fa fb fna fnb fab okna oknb okab e2 e34 len1 len2 cs hN hQ hT hU
              go_enter Tryd.func6, Tryd.ntmps6
              go_upto_region 7 with (first
        | ((with_reducible refine (HGa.out _ HBc.out).mono ?_); rintro e w1 ⟨rfl, hb1⟩; have HBc : Hid (Below w.heap.size w w1) := bel HBc.out hb1; have HBO : Hid (Boxes w1 w.heap.size #[.int .i64 a.kind, .string a.name, .int .u32 a.num, .int .i64 a.int_, .string a.key, .slice pa a.args.length ca, .int .i64 a.at_] #[.int .i64 b.kind, .string b.name, .int .u32 b.num, .int .i64 b.int_, .string b.key, .slice pb b.args.length cb, .int .i64 b.at_] 29 29) := HBO.out.below hb1; (try clear g0 g1 g2 g3 g4 g5 g6 k0 k1 k2 k3 k4 k5 k6); obtain ⟨⟨g0, g1, g2, g3, g4, g5, g6⟩, -⟩ := seven HBO.out.1; obtain ⟨⟨k0, k1, k2, k3, k4, k5, k6⟩, -⟩ := seven HBO.out.2)
        | ((with_reducible refine (HGb.out _ HBc.out).mono ?_); rintro e w2 ⟨rfl, hb2⟩; have HBc : Hid (Below w.heap.size w w2) := bel HBc.out hb2; have HBO : Hid (Boxes w2 w.heap.size #[.int .i64 a.kind, .string a.name, .int .u32 a.num, .int .i64 a.int_, .string a.key, .slice pa a.args.length ca, .int .i64 a.at_] #[.int .i64 b.kind, .string b.name, .int .u32 b.num, .int .i64 b.int_, .string b.key, .slice pb b.args.length cb, .int .i64 b.at_] 29 29) := HBO.out.below hb2; (try clear g0 g1 g2 g3 g4 g5 g6 k0 k1 k2 k3 k4 k5 k6); obtain ⟨⟨g0, g1, g2, g3, g4, g5, g6⟩, -⟩ := seven HBO.out.1; obtain ⟨⟨k0, k1, k2, k3, k4, k5, k6⟩, -⟩ := seven HBO.out.2)
        | ((with_reducible refine (HSa.out.set _ HBc.out).mono ?_); rintro e w3 ⟨vx, rfl, ho3, hb3⟩; have RX : Hid (RdN w3 vx X) := ho3.rd; clear ho3; have HBc : Hid (Below w.heap.size w w3) := bel HBc.out hb3; have HBO : Hid (Boxes w3 w.heap.size #[.int .i64 a.kind, .string a.name, .int .u32 a.num, .int .i64 a.int_, .string a.key, .slice pa a.args.length ca, .int .i64 a.at_] #[.int .i64 b.kind, .string b.name, .int .u32 b.num, .int .i64 b.int_, .string b.key, .slice pb b.args.length cb, .int .i64 b.at_] 29 29) := HBO.out.below hb3; (try clear g0 g1 g2 g3 g4 g5 g6 k0 k1 k2 k3 k4 k5 k6); obtain ⟨⟨g0, g1, g2, g3, g4, g5, g6⟩, -⟩ := seven HBO.out.1; obtain ⟨⟨k0, k1, k2, k3, k4, k5, k6⟩, -⟩ := seven HBO.out.2)
        | ((with_reducible refine (HSb.out.set _ HBc.out).mono ?_); rintro e w4 ⟨vy, rfl, ho4, hb4⟩; have RY : Hid (RdN w4 vy Y) := ho4.rd; have RX : Hid (RdN w4 vx X) := RX.out.below hb4; clear ho4; have HBc : Hid (Below w.heap.size w w4) := bel HBc.out hb4; have HBO : Hid (Boxes w4 w.heap.size #[.int .i64 a.kind, .string a.name, .int .u32 a.num, .int .i64 a.int_, .string a.key, .slice pa a.args.length ca, .int .i64 a.at_] #[.int .i64 b.kind, .string b.name, .int .u32 b.num, .int .i64 b.int_, .string b.key, .slice pb b.args.length cb, .int .i64 b.at_] 29 29) := HBO.out.below hb4; (try clear g0 g1 g2 g3 g4 g5 g6 k0 k1 k2 k3 k4 k5 k6); obtain ⟨⟨g0, g1, g2, g3, g4, g5, g6⟩, -⟩ := seven HBO.out.1; obtain ⟨⟨k0, k1, k2, k3, k4, k5, k6⟩, -⟩ := seven HBO.out.2)
        | ((with_reducible refine (HDa.out _ HBc.out).mono ?_); rintro e w5 ⟨rfl, hb5⟩; have RX : Hid (RdN w5 vx X) := RX.out.below hb5; have RY : Hid (RdN w5 vy Y) := RY.out.below hb5; have HBc : Hid (Below w.heap.size w w5) := bel HBc.out hb5; have HBO : Hid (Boxes w5 w.heap.size #[.int .i64 a.kind, .string a.name, .int .u32 a.num, .int .i64 a.int_, .string a.key, .slice pa a.args.length ca, .int .i64 a.at_] #[.int .i64 b.kind, .string b.name, .int .u32 b.num, .int .i64 b.int_, .string b.key, .slice pb b.args.length cb, .int .i64 b.at_] 29 29) := HBO.out.below hb5; (try clear g0 g1 g2 g3 g4 g5 g6 k0 k1 k2 k3 k4 k5 k6); obtain ⟨⟨g0, g1, g2, g3, g4, g5, g6⟩, -⟩ := seven HBO.out.1; obtain ⟨⟨k0, k1, k2, k3, k4, k5, k6⟩, -⟩ := seven HBO.out.2)
        | ((with_reducible refine (HDb.out _ HBc.out).mono ?_); rintro e w6 ⟨rfl, hb6⟩; have RX : Hid (RdN w6 vx X) := RX.out.below hb6; have RY : Hid (RdN w6 vy Y) := RY.out.below hb6; have HBc : Hid (Below w.heap.size w w6) := bel HBc.out hb6; have HBO : Hid (Boxes w6 w.heap.size #[.int .i64 a.kind, .string a.name, .int .u32 a.num, .int .i64 a.int_, .string a.key, .slice pa a.args.length ca, .int .i64 a.at_] #[.int .i64 b.kind, .string b.name, .int .u32 b.num, .int .i64 b.int_, .string b.key, .slice pb b.args.length cb, .int .i64 b.at_] 29 29) := HBO.out.below hb6; (try clear g0 g1 g2 g3 g4 g5 g6 k0 k1 k2 k3 k4 k5 k6); obtain ⟨⟨g0, g1, g2, g3, g4, g5, g6⟩, -⟩ := seven HBO.out.1; obtain ⟨⟨k0, k1, k2, k3, k4, k5, k6⟩, -⟩ := seven HBO.out.2))
              have HBz := bel0 w6
              clear HBz
              go_upto_region 7 with fail
              go_cut [13] (fun lv wx => RdN wx lv N ∧ Below w6.heap.size w6 wx)
              case first =>
                go_wp2_with (first
        | ((with_reducible refine (C1.out _ _ _ (kids_one (HKa.out _ HBc.out))).mono ?_); rintro e v1 ⟨q1, d1, rfl, hk10, hv⟩; have hk1 := Hid.mk' hk10; have HBz : Hid (Below w6.heap.size w6 v1) := bel (bel (bel0 _) (bel_alloc _ _)) hv; clear hk10 hv)
        | ((with_reducible refine (SN1.out _ _ _ (bel HBc.out HBz.out) hk1.out).mono ?_); rintro e v9 ⟨u9, rfl, ho9, hb9⟩; have RR : Hid (RdN v9 u9 N ∧ Below w6.heap.size w6 v9) := ⟨ho9.rd, bel HBz.out hb9⟩; clear ho9 hb9))
                go_meet
                exact RR.out
              case rest =>
              obtain ⟨hrr, hbb9⟩ := hcut
              rename World => w7
              have RN13 : Hid (RdN w7 u13 N) := hrr
              have RX : Hid (RdN w7 vx X) := RX.out.below hbb9
              have RY : Hid (RdN w7 vy Y) := RY.out.below hbb9
              have HBc : Hid (Below w.heap.size w w7) := bel HBc.out hbb9
              have HBO : Hid (Boxes w7 w.heap.size #[.int .i64 a.kind, .string a.name, .int .u32 a.num, .int .i64 a.int_, .string a.key, .slice pa a.args.length ca, .int .i64 a.at_] #[.int .i64 b.kind, .string b.name, .int .u32 b.num, .int .i64 b.int_, .string b.key, .slice pb b.args.length cb, .int .i64 b.at_] 29 29) := HBO.out.below hbb9
              (try clear g0 g1 g2 g3 g4 g5 g6 k0 k1 k2 k3 k4 k5 k6)
              obtain ⟨⟨g0, g1, g2, g3, g4, g5, g6⟩, -⟩ := seven HBO.out.1
              obtain ⟨⟨k0, k1, k2, k3, k4, k5, k6⟩, -⟩ := seven HBO.out.2
              clear hrr hbb9
              go_upto_region 8 with fail
              go_cut [16] (fun lv wx => RdN wx lv X ∧ Below w7.heap.size w7 wx)
              case first =>
                go_wp2_with (first
        | ((with_reducible refine (C1.out _ _ _ (kids_one (HKa.out _ HBc.out))).mono ?_); rintro e v1 ⟨q1, d1, rfl, hk10, hv⟩; have hk1 := Hid.mk' hk10; have HBz : Hid (Below w7.heap.size w7 v1) := bel (bel (bel0 _) (bel_alloc _ _)) hv; have hkk := Hid.mk' (kids_callN (nm := ⟨#[110, 111, 116]⟩) (l := [a]) (k := 1) rfl hk1.out); clear hk10 hv)
        | ((with_reducible refine (C2.out _ _ _ (hkk.out)).mono ?_); rintro e v2 ⟨q2, d2, rfl, hk20, hv⟩; have hk2 := Hid.mk' hk20; have HBz : Hid (Below w7.heap.size w7 v2) := bel (bel HBz.out (bel_alloc _ _)) hv; clear hk20 hv)
        | ((with_reducible refine (SN2.out _ _ _ (bel HBc.out HBz.out) hk2.out).mono ?_); rintro e v9 ⟨u9, rfl, ho9, hb9⟩; have RR : Hid (RdN v9 u9 X ∧ Below w7.heap.size w7 v9) := ⟨ho9.rd, bel HBz.out hb9⟩; clear ho9 hb9))
                go_meet
                exact RR.out
              case rest =>
              obtain ⟨hrr, hbb9⟩ := hcut
              rename World => w8
              have RX16 : Hid (RdN w8 u16 X) := hrr
              have RX : Hid (RdN w8 vx X) := RX.out.below hbb9
              have RY : Hid (RdN w8 vy Y) := RY.out.below hbb9
              have RN13 : Hid (RdN w8 u13 N) := RN13.out.below hbb9
              have HBc : Hid (Below w.heap.size w w8) := bel HBc.out hbb9
              have HBO : Hid (Boxes w8 w.heap.size #[.int .i64 a.kind, .string a.name, .int .u32 a.num, .int .i64 a.int_, .string a.key, .slice pa a.args.length ca, .int .i64 a.at_] #[.int .i64 b.kind, .string b.name, .int .u32 b.num, .int .i64 b.int_, .string b.key, .slice pb b.args.length cb, .int .i64 b.at_] 29 29) := HBO.out.below hbb9
              (try clear g0 g1 g2 g3 g4 g5 g6 k0 k1 k2 k3 k4 k5 k6)
              obtain ⟨⟨g0, g1, g2, g3, g4, g5, g6⟩, -⟩ := seven HBO.out.1
              obtain ⟨⟨k0, k1, k2, k3, k4, k5, k6⟩, -⟩ := seven HBO.out.2
              clear hrr hbb9
              go_upto_region 9 with fail
              go_cut [19] (fun lv wx => RdN wx lv Q ∧ Below w8.heap.size w8 wx)
              case first =>
                go_wp2_with (first
        | ((with_reducible refine (C5.out _ _ _ (kids_two (HKa.out _ HBc.out) (HKb.out _ HBc.out))).mono ?_); rintro e v1 ⟨q1, d1, rfl, hk10, hv⟩; have hk1 := Hid.mk' hk10; have HBz : Hid (Below w8.heap.size w8 v1) := bel (bel (bel0 _) (bel_alloc _ _)) hv; have hkk := Hid.mk' (kids_callN (nm := ⟨#[97, 110, 100]⟩) (l := [a, b]) (k := 2) rfl hk1.out); clear hk10 hv)
        | ((with_reducible refine (C3.out _ _ _ (hkk.out)).mono ?_); rintro e v2 ⟨q2, d2, rfl, hk20, hv⟩; have hk2 := Hid.mk' hk20; have HBz : Hid (Below w8.heap.size w8 v2) := bel (bel HBz.out (bel_alloc _ _)) hv; clear hk20 hv)
        | ((with_reducible refine (SN3.out _ _ _ (bel HBc.out HBz.out) hk2.out).mono ?_); rintro e v9 ⟨u9, rfl, ho9, hb9⟩; have RR : Hid (RdN v9 u9 Q ∧ Below w8.heap.size w8 v9) := ⟨ho9.rd, bel HBz.out hb9⟩; clear ho9 hb9))
                go_meet
                exact RR.out
              case rest =>
              obtain ⟨hrr, hbb9⟩ := hcut
              rename World => w9
              have RQ19 : Hid (RdN w9 u19 Q) := hrr
              have RX : Hid (RdN w9 vx X) := RX.out.below hbb9
              have RY : Hid (RdN w9 vy Y) := RY.out.below hbb9
              have RN13 : Hid (RdN w9 u13 N) := RN13.out.below hbb9
              have RX16 : Hid (RdN w9 u16 X) := RX16.out.below hbb9
              have HBc : Hid (Below w.heap.size w w9) := bel HBc.out hbb9
              have HBO : Hid (Boxes w9 w.heap.size #[.int .i64 a.kind, .string a.name, .int .u32 a.num, .int .i64 a.int_, .string a.key, .slice pa a.args.length ca, .int .i64 a.at_] #[.int .i64 b.kind, .string b.name, .int .u32 b.num, .int .i64 b.int_, .string b.key, .slice pb b.args.length cb, .int .i64 b.at_] 29 29) := HBO.out.below hbb9
              (try clear g0 g1 g2 g3 g4 g5 g6 k0 k1 k2 k3 k4 k5 k6)
              obtain ⟨⟨g0, g1, g2, g3, g4, g5, g6⟩, -⟩ := seven HBO.out.1
              obtain ⟨⟨k0, k1, k2, k3, k4, k5, k6⟩, -⟩ := seven HBO.out.2
              clear hrr hbb9
              go_upto_region 10 with fail
              refine reg10 a pa ca b pb cb pp cc ps w w9 Q _ HKa HKb HBc HBO C1 C7 C4 SN4 _ _ _ _ _ _ _ _ _ _ _ _ _ _ _ _ _ _ _ _ _ _ _ _ _ _ _ _ _ _ _ _ _ _ _ _ _ _ _ _ _ _ _ _ _ _ _ _ _ _ _ _ _ _ _ _ _ _ _ _ _ _ _ _ _ _ _ _ _ _ _ _ _ _ _ _ _ _ _ _ _ _ _ _ _ _ _ _ _ _ _ _ _ _ _ _ _ _ _ _ _ _ _ _ _ _ _ _ _ _ _ _ _ _ _ _ _ _ _ _ _ _ _ _ _ _ _ _ _ _ _ _ _ _ _ _ _ _ _ _ _ _ _ _ _ _ _ _ _ _ _ _ _ _ _ _ _ _ _ _ _ _ _ _ _ _ _ _ _ _ _ _ _ _ _ _ _ _ _ _ _ _ _ _ _ _ _ _ _ _ _ _ _ _ _ _ _ _ _ _ _ _ _ _ _ _  (fun _ _ _ d _ h => by cases d <;> exact h) ?_
              intro u22 u23 u24 u105 u106 u107 u108 u109 u110 u111 u112 u113 u114 u115 u116 u117 u118 w10 hcut
              obtain ⟨hrr, hbb9⟩ := hcut
              have RQ22 : Hid (RdN w10 u22 Q) := hrr
              have RX : Hid (RdN w10 vx X) := RX.out.below hbb9
              have RY : Hid (RdN w10 vy Y) := RY.out.below hbb9
              have RN13 : Hid (RdN w10 u13 N) := RN13.out.below hbb9
              have RX16 : Hid (RdN w10 u16 X) := RX16.out.below hbb9
              have RQ19 : Hid (RdN w10 u19 Q) := RQ19.out.below hbb9
              have HBc : Hid (Below w.heap.size w w10) := bel HBc.out hbb9
              have HBO : Hid (Boxes w10 w.heap.size #[.int .i64 a.kind, .string a.name, .int .u32 a.num, .int .i64 a.int_, .string a.key, .slice pa a.args.length ca, .int .i64 a.at_] #[.int .i64 b.kind, .string b.name, .int .u32 b.num, .int .i64 b.int_, .string b.key, .slice pb b.args.length cb, .int .i64 b.at_] 29 29) := HBO.out.below hbb9
              (try clear g0 g1 g2 g3 g4 g5 g6 k0 k1 k2 k3 k4 k5 k6)
              obtain ⟨⟨g0, g1, g2, g3, g4, g5, g6⟩, -⟩ := seven HBO.out.1
              obtain ⟨⟨k0, k1, k2, k3, k4, k5, k6⟩, -⟩ := seven HBO.out.2
              clear hrr hbb9
              go_upto_region 11 with fail
              go_cut [25] (fun lv wx => RdN wx lv T ∧ Below w10.heap.size w10 wx)
              case first =>
                go_wp2_with (first
        | ((with_reducible refine (C5.out _ _ _ (kids_two (HKa.out _ HBc.out) (HKb.out _ HBc.out))).mono ?_); rintro e v1 ⟨q1, d1, rfl, hk10, hv⟩; have hk1 := Hid.mk' hk10; have HBz : Hid (Below w10.heap.size w10 v1) := bel (bel (bel0 _) (bel_alloc _ _)) hv; clear hk10 hv)
        | ((with_reducible refine (SN5.out _ _ _ (bel HBc.out HBz.out) hk1.out).mono ?_); rintro e v9 ⟨u9, rfl, ho9, hb9⟩; have RR : Hid (RdN v9 u9 T ∧ Below w10.heap.size w10 v9) := ⟨ho9.rd, bel HBz.out hb9⟩; clear ho9 hb9))
                go_meet
                exact RR.out
              case rest =>
              obtain ⟨hrr, hbb9⟩ := hcut
              rename World => w11
              have RT25 : Hid (RdN w11 u25 T) := hrr
              have RX : Hid (RdN w11 vx X) := RX.out.below hbb9
              have RY : Hid (RdN w11 vy Y) := RY.out.below hbb9
              have RN13 : Hid (RdN w11 u13 N) := RN13.out.below hbb9
              have RX16 : Hid (RdN w11 u16 X) := RX16.out.below hbb9
              have RQ19 : Hid (RdN w11 u19 Q) := RQ19.out.below hbb9
              have RQ22 : Hid (RdN w11 u22 Q) := RQ22.out.below hbb9
              have HBc : Hid (Below w.heap.size w w11) := bel HBc.out hbb9
              have HBO : Hid (Boxes w11 w.heap.size #[.int .i64 a.kind, .string a.name, .int .u32 a.num, .int .i64 a.int_, .string a.key, .slice pa a.args.length ca, .int .i64 a.at_] #[.int .i64 b.kind, .string b.name, .int .u32 b.num, .int .i64 b.int_, .string b.key, .slice pb b.args.length cb, .int .i64 b.at_] 29 29) := HBO.out.below hbb9
              (try clear g0 g1 g2 g3 g4 g5 g6 k0 k1 k2 k3 k4 k5 k6)
              obtain ⟨⟨g0, g1, g2, g3, g4, g5, g6⟩, -⟩ := seven HBO.out.1
              obtain ⟨⟨k0, k1, k2, k3, k4, k5, k6⟩, -⟩ := seven HBO.out.2
              clear hrr hbb9
              go_upto_region 12 with fail
              go_cut [28] (fun lv wx => RdN wx lv U ∧ Below w11.heap.size w11 wx)
              case first =>
                go_wp2_with (first
        | ((with_reducible refine (C6.out _ _ _ (kids_two (HKa.out _ HBc.out) (HKb.out _ HBc.out))).mono ?_); rintro e v1 ⟨q1, d1, rfl, hk10, hv⟩; have hk1 := Hid.mk' hk10; have HBz : Hid (Below w11.heap.size w11 v1) := bel (bel (bel0 _) (bel_alloc _ _)) hv; clear hk10 hv)
        | ((with_reducible refine (SN6.out _ _ _ (bel HBc.out HBz.out) hk1.out).mono ?_); rintro e v9 ⟨u9, rfl, ho9, hb9⟩; have RR : Hid (RdN v9 u9 U ∧ Below w11.heap.size w11 v9) := ⟨ho9.rd, bel HBz.out hb9⟩; clear ho9 hb9))
                go_meet
                exact RR.out
              case rest =>
              obtain ⟨hrr, hbb9⟩ := hcut
              rename World => w12
              have RU28 : Hid (RdN w12 u28 U) := hrr
              have RX : Hid (RdN w12 vx X) := RX.out.below hbb9
              have RY : Hid (RdN w12 vy Y) := RY.out.below hbb9
              have RN13 : Hid (RdN w12 u13 N) := RN13.out.below hbb9
              have RX16 : Hid (RdN w12 u16 X) := RX16.out.below hbb9
              have RQ19 : Hid (RdN w12 u19 Q) := RQ19.out.below hbb9
              have RQ22 : Hid (RdN w12 u22 Q) := RQ22.out.below hbb9
              have RT25 : Hid (RdN w12 u25 T) := RT25.out.below hbb9
              have HBc : Hid (Below w.heap.size w w12) := bel HBc.out hbb9
              have HBO : Hid (Boxes w12 w.heap.size #[.int .i64 a.kind, .string a.name, .int .u32 a.num, .int .i64 a.int_, .string a.key, .slice pa a.args.length ca, .int .i64 a.at_] #[.int .i64 b.kind, .string b.name, .int .u32 b.num, .int .i64 b.int_, .string b.key, .slice pb b.args.length cb, .int .i64 b.at_] 29 29) := HBO.out.below hbb9
              (try clear g0 g1 g2 g3 g4 g5 g6 k0 k1 k2 k3 k4 k5 k6)
              obtain ⟨⟨g0, g1, g2, g3, g4, g5, g6⟩, -⟩ := seven HBO.out.1
              obtain ⟨⟨k0, k1, k2, k3, k4, k5, k6⟩, -⟩ := seven HBO.out.2
              clear hrr hbb9
              obtain ⟨pX, cX, rfl, -⟩ := id RX.out
              obtain ⟨pY, cY, rfl, -⟩ := id RY.out
              obtain ⟨pN, cN, rfl, -⟩ := id RN13.out
              obtain ⟨pT, cT, rfl, -⟩ := id RT25.out
              obtain ⟨pU, cU, rfl, -⟩ := id RU28.out
              obtain ⟨lx, hlx⟩ : ∃ k, X.length = k := ⟨_, rfl⟩
              obtain ⟨ly, hly⟩ : ∃ k, Y.length = k := ⟨_, rfl⟩
              obtain ⟨ln, hln⟩ : ∃ k, N.length = k := ⟨_, rfl⟩
              obtain ⟨lt, hlt⟩ : ∃ k, T.length = k := ⟨_, rfl⟩
              obtain ⟨lu, hlu⟩ : ∃ k, U.length = k := ⟨_, rfl⟩
              have L1 := HLN1.out
              have L2 := HLN2.out
              have q1 : (lt : Int) + (lu : Int) = (lx : Int) + (ly : Int) := by have := HLN1.out; omega
              have q2 : (lx : Int) + (ln : Int) = (ps.length : Int) := by have := HLN2.out; omega
              have b1 : IntKind.i64.wrap ((lt : Int) + (lu : Int)) = (lx : Int) + (ly : Int) := by rw [IntKind.wrap_i64]; omega
              have b2 : IntKind.i64.wrap ((lx : Int) + (ly : Int)) = (lx : Int) + (ly : Int) := by rw [IntKind.wrap_i64]; omega
              have b3 : IntKind.i64.wrap ((lx : Int) + (ln : Int)) = (ps.length : Int) := by rw [IntKind.wrap_i64]; omega
              have HXX : Hid (X.length ≤ 140737488351232) := Hid.mk' (by omega)
              have HQQ : Hid (Q.length ≤ 140737488351232) := hQl
              have Hx : Hid (X.length = lx) := hlx
              have Hy : Hid (Y.length = ly) := hly
              have Hn : Hid (N.length = ln) := hln
              have Ht : Hid (T.length = lt) := hlt
              have Hu : Hid (U.length = lu) := hlu
              rw [hlx] at RX
              rw [hly] at RY
              rw [hln] at RN13
              rw [hlt] at RT25
              rw [hlu] at RU28
              try rw [hlx]
              try rw [hly]
              try rw [hln]
              try rw [hlt]
              try rw [hlu]
              clear hlx hly hln hlt hlu hTl hUl hQl SN1 SN2 SN3 SN4 SN5 SN6 C1 C2 C3 C4 C5 C6 C7 HKa HKb HGa HGb HSa HSb HDa HDb HBO
              have HBw : Hid (Below w.heap.size w w12) := HBc
              have hlxm : lx ≤ 4398046510976 := by have := Hx.out; omega
              have hlnm : ln ≤ 4398046510976 := by have := Hn.out; omega
              go_wp2_with (first
        | (go_at_call 14; (with_reducible refine (same_any _ _ X HXX.out _ RX.out RX16.out).mono ?_); rintro e w13 ⟨rfl, hb13⟩; have RQ1 : Hid (RdN w13 u19 Q ∧ RdN w13 u22 Q) := ⟨RQ19.out.below hb13, RQ22.out.below hb13⟩; have HBd : Hid (Below w12.heap.size w12 w13) := hb13; clear hb13)
        | (go_at_call 14; (with_reducible refine (same_any _ _ Q HQQ.out _ RQ1.out.1 RQ1.out.2).mono ?_); rintro e w14 ⟨rfl, hb14⟩; have HBd : Hid (Below w12.heap.size w12 w14) := bel HBd.out hb14; clear hb14))
              have RX : Hid (RdN w14 _ X) := RX.out.below HBd.out
              have RN : Hid (RdN w14 _ N) := RN13.out.below HBd.out
              go_loopw [31] (fun iv wr => Below w14.heap.size w14 wr ∧ ∃ i : Nat, i ≤ ps.length ∧ iv = .int .i64 i) (fun iv _ => ps.length - (intOf iv).toNat)
              case atStart => exact ⟨by first | exact bel0 _ | exact bel_d _ | exact bel_dn _ _, 0, Nat.zero_le _, rfl⟩
              case round =>
                obtain ⟨hb, i, hi, rfl⟩ := hrel
                have HB1 : Hid (Below w14.heap.size w14 wr) := hb
                clear hb
                by_cases hlt : i < ps.length
                · have i2 : (i : Int) < (ps.length : Int) := by omega
                  go_wp2
                  go_loopw [32, 33] (fun cv kv wq => Below w14.heap.size w14 wq ∧ ∃ k : Nat, k ≤ lx ∧ kv = .int .i64 k ∧ cv = .int .i64 (tally X i k : Nat)) (fun _ kv _ => lx - (intOf kv).toNat)
                  case atStart => exact ⟨bel HB1.out (by first | exact bel0 _ | exact bel_d _ | exact bel_dn _ _), 0, Nat.zero_le _, rfl, by rw [tally_0]; rfl⟩
                  case round =>
                    obtain ⟨hb2, k, hk, rfl, rfl⟩ := hrel
                    have tb := tally_le X i k
                    rw [Hx.out] at tb
                    by_cases hlk : k < lx
                    · have hll : k < X.length := by rw [Hx.out]; exact hlk
                      obtain ⟨b', o', rfl, hx⟩ := rdN_cell RX.out hll
                      have x0 := mkeep hb2 hx
                      have i1 : (0 : Int) ≤ (k : Int) := by omega
                      have i3 : (k : Int) < (lx : Int) := by omega
                      by_cases hzi : X[k] = i
                      · have wv : IntKind.i64.wrap ((tally X i k : Nat) + 1 : Int) = ((tally X i (k + 1) : Nat) : Int) := by rw [IntKind.wrap_i64, tally_yes hll hzi]; omega
                        rw [hzi] at x0
                        clear hx
                        go_wp2
                        go_roundw
                        case rel => exact ⟨by first | exact hb2 | exact bel hb2 (bel_dn _ _), k + 1, by omega, by go_num, by first | rfl | rw [wv] | simp | simp [wv]⟩
                        case measure => simp [intOf]; omega
                      · have wv := tally_no hll hzi
                        obtain ⟨z, hz⟩ : ∃ z : Nat, X[k] = z := ⟨_, rfl⟩
                        rw [hz] at x0 hzi
                        have n1 : ¬ (z : Int) = (i : Int) := by omega
                        have n2 : ((z : Int) == (i : Int)) = false := by simpa using n1
                        clear hx hz
                        go_wp2
                        go_roundw
                        case rel => exact ⟨by first | exact hb2 | exact bel hb2 (bel_dn _ _), k + 1, by omega, by go_num, by rw [wv]⟩
                        case measure => simp [intOf]; omega
                    · have ek : k = lx := by omega
                      subst ek
                      have tx : tally X i k = X.count i := by rw [← Hx.out, tally_all]
                      have HB2 : Hid (Below w14.heap.size w14 wr) := hb2
                      rw [tx] at tb ⊢
                      obtain ⟨cx, hcx⟩ : ∃ c, X.count i = c := ⟨_, rfl⟩
                      rw [hcx] at tb ⊢
                      clear hb2 tx
                      go_wp2
                      go_loopw [32, 34] (fun cv kv wq => Below w14.heap.size w14 wq ∧ ∃ k : Nat, k ≤ ln ∧ kv = .int .i64 k ∧ cv = .int .i64 (cx + tally N i k : Nat)) (fun _ kv _ => ln - (intOf kv).toNat)
                      case atStart => exact ⟨bel HB2.out (by first | exact bel0 _ | exact bel_d _ | exact bel_dn _ _), 0, Nat.zero_le _, rfl, by rw [tally_0]; rfl⟩
                      case round =>
                        obtain ⟨hb3, j, hj, rfl, rfl⟩ := hrel
                        have tc := tally_le N i j
                        rw [Hn.out] at tc
                        by_cases hlj : j < ln
                        · have hll : j < N.length := by rw [Hn.out]; exact hlj
                          obtain ⟨b', o', rfl, hx⟩ := rdN_cell RN.out hll
                          have x0 := mkeep hb3 hx
                          have i1 : (0 : Int) ≤ (j : Int) := by omega
                          have i3 : (j : Int) < (ln : Int) := by omega
                          by_cases hzi : N[j] = i
                          · have wv : IntKind.i64.wrap ((cx + tally N i j : Nat) + 1 : Int) = ((cx + tally N i (j + 1) : Nat) : Int) := by rw [IntKind.wrap_i64, tally_yes hll hzi]; omega
                            have wv' : IntKind.i64.wrap ((cx : Int) + (tally N i j : Nat) + 1 : Int) = ((cx + tally N i (j + 1) : Nat) : Int) := by rw [← wv]; simp
                            rw [hzi] at x0
                            clear hx
                            go_wp2
                            go_roundw
                            case rel => exact ⟨by first | exact hb3 | exact bel hb3 (bel_dn _ _), j + 1, by omega, by go_num, by first | rfl | rw [wv] | rw [wv'] | simp | simp [wv] | simp [wv']⟩
                            case measure => simp [intOf]; omega
                          · have wv := tally_no hll hzi
                            obtain ⟨z, hz⟩ : ∃ z : Nat, N[j] = z := ⟨_, rfl⟩
                            rw [hz] at x0 hzi
                            have n1 : ¬ (z : Int) = (i : Int) := by omega
                            have n2 : ((z : Int) == (i : Int)) = false := by simpa using n1
                            clear hx hz
                            go_wp2
                            go_roundw
                            case rel => exact ⟨by first | exact hb3 | exact bel hb3 (bel_dn _ _), j + 1, by omega, by go_num, by rw [wv]⟩
                            case measure => simp [intOf]; omega
                        · have ej : j = ln := by omega
                          subst ej
                          have one : cx + tally N i j = 1 := by rw [← hcx, ← Hn.out, tally_all]; exact HCS.out i hlt
                          have HB3 : Hid (Below w14.heap.size w14 wr) := hb3
                          rw [one]
                          clear hb3
                          go_wp2
                          go_roundw
                          case rel => exact ⟨by first | exact HB3.out | exact bel HB3.out (bel_dn _ _), i + 1, by omega, by go_num⟩
                          case measure => simp [intOf]; omega
                · have ei : i = ps.length := by omega
                  subst ei
                  go_wp2_with (go_at_call 10; refine (sure_any _).mono ?_; rintro e w9 ⟨rfl, hb9⟩)
                  go_ret
                  exact ⟨rfl, bel (bel (bel HBw.out HBd.out) HB1.out) hb9⟩
        · have z2 : (E2 == 0) = false := by simpa using hE2
          have z3 : (E2 != 0) = true := by simpa using hE2
          subst hE1
          exact absurd (eB.symm.trans i4) hE2
      · have z2 : (E1 == 0) = false := by simpa using hE1
        have z3 : (E1 != 0) = true := by simpa using hE1
        exact absurd (eA.symm.trans i3) hE1

end Go.Proofs.YtnhpnmilgcjeaaaDoor
