import Derived.Test.YtnhpnmilgcjeaaaDoorMaskSure
/- MaskMatches, MaskSets. -/
namespace Go.Proofs.YtnhpnmilgcjeaaaDoor
open Go.RowKit
set_option linter.unusedVariables false
set_option linter.unusedSimpArgs false

set_option maxRecDepth 100000 in
set_option maxHeartbeats 1000000 in
theorem walk_MaskMatches (a : ByteArray) (ha : a.size ≤ 140737488351232) (b : ByteArray) (hb : b.size ≤ 140737488351232) (w : World) :
    Calls Tryd.prog 3 #[.string a, .string b] w fun e w' => e = .returned (.bool true) ∧ Below w.heap.size w w' := by
  obtain ⟨M, hM⟩ : ∃ M, matchP (gs a) (gs b) = M := ⟨_, rfl⟩
  have H1 : Hid (∀ v, Calls Tryd.prog 8 #[.string a, .string b] v fun e w' => e = .returned (.bool M) ∧ Below v.heap.size v w') := fun v => by have := mMatch_any a b (by omega) (by omega) v; rw [hM] at this; exact this
  have H2 : Hid (∀ v, Calls Tryd.prog 9 #[.string a, .string b] v fun e w' => e = .returned (.bool M) ∧ Below v.heap.size v w') := fun v => by have := rMatch_any a b (by omega) (by omega) v; rw [hM] at this; exact this
  clear hM ha hb
  cases M
  all_goals
    go_enter Tryd.func3, Tryd.ntmps3
    go_wp2_with (first
      | (go_at_call 8; (with_reducible refine (H1.out _).mono ?_); rintro e w1 ⟨rfl, hb1⟩)
      | (go_at_call 9; (with_reducible refine (H2.out _).mono ?_); rintro e w2 ⟨rfl, hb2⟩)
      | (go_at_call 10; refine (sure_any _).mono ?_; rintro e w3 ⟨rfl, hb3⟩))
    go_ret
    exact ⟨rfl, bel (bel hb1 hb2) hb3⟩

/-- What the statements lean on, of one tree over one list: big, Set, the reference's Set. -/
structure SetsOf (t : Nd) (p : Option Addr) (c : Nat) (ps : List Par) (pp : Option Addr) (cc : Nat) (w : World) (R : SetR) : Prop where
  set : ∀ v, Below w.heap.size w v → Calls Tryd.prog 12 #[.agg #[.int .i64 t.kind, .string t.name, .int .u32 t.num, .int .i64 t.int_, .string t.key, .slice p t.args.length c, .int .i64 t.at_], .slice pp ps.length cc] v fun e w' => ∃ u, e = .returned (.tuple #[u, .int .i64 R.err, .int .i64 R.place]) ∧ OwnI w' v.heap.size u R.list ∧ Below v.heap.size v w'
  rset : ∀ v, Below w.heap.size w v → Calls Tryd.prog 13 #[.agg #[.int .i64 t.kind, .string t.name, .int .u32 t.num, .int .i64 t.int_, .string t.key, .slice p t.args.length c, .int .i64 t.at_], .slice pp ps.length cc] v fun e w' => ∃ u, e = .returned (.tuple #[u, .int .i64 R.err, .int .i64 R.place]) ∧ OwnI w' v.heap.size u R.list ∧ Below v.heap.size v w'
theorem sets_of {t : Nd} {p : Option Addr} {c : Nat} {ps : List Par} {pp : Option Addr} {cc : Nat} {w : World} (hc : cnt t ≤ 40000) (hok : ok1 t) (hml : ps.length ≤ 4398046510976) (hmn : ∀ q ∈ ps, q.name.size ≤ 140737488351232) (hk : Kids w anyH (.slice p t.args.length c) t.args) (hr : Row w pp ps) : SetsOf t p c ps pp cc w (setP ps t) :=
  ⟨fun v hv => mSet_any t p c ps pp cc v hc hok hml hmn (hk.below hv) (hr.below hv), fun v hv => rSet_any t p c ps pp cc v hc hok hml hmn (hk.below hv) (hr.below hv)⟩
theorem big_box {t : Nd} {p : Option Addr} {c : Nat} {w : World} (hk : Kids w anyH (.slice p t.args.length c) t.args) : ∀ v, Below w.heap.size w v → Calls Tryd.prog 11 #[.agg #[.int .i64 t.kind, .string t.name, .int .u32 t.num, .int .i64 t.int_, .string t.key, .slice p t.args.length c, .int .i64 t.at_]] v fun e w' => e = .returned (.bool (decide (9000 < cnt t))) ∧ Below v.heap.size v w' :=
  fun v hv => big_any t p c v (hk.below hv)
theorem set_len (ps : List Par) (t : Nd) : (setP ps t).list.length ≤ ps.length := by
  unfold setP
  split
  · exact Nat.zero_le _
  · split
    · exact Nat.zero_le _
    · rw [show (⟨indP ps t, 0, 0⟩ : SetR).list = indU ps t ps.length from rfl]
      exact indU_len ps t _

set_option maxRecDepth 100000 in
set_option maxHeartbeats 2000000 in
theorem walk_MaskSets (t : Nd) (p : Option Addr) (c : Nat) (hok : ok1 t) (pp : Option Addr) (cc : Nat) (ps : List Par) (hml : ps.length ≤ 4398046510976) (hmn : ∀ q ∈ ps, q.name.size ≤ 140737488351232) (hz : pp = none → ps.length = 0 ∧ cc = 0) (w : World) (hk : Kids w anyH (.slice p t.args.length c) t.args) (hr : Row w pp ps) :
    Calls Tryd.prog 5 #[nv t (.slice p t.args.length c), .slice pp ps.length cc] w fun e w' => e = .returned (.bool true) ∧ Below w.heap.size w w' := by
  have HBG : Hid (∀ v, Below w.heap.size w v → Calls Tryd.prog 11 #[.agg #[.int .i64 t.kind, .string t.name, .int .u32 t.num, .int .i64 t.int_, .string t.key, .slice p t.args.length c, .int .i64 t.at_]] v fun e w' => e = .returned (.bool (decide (9000 < cnt t))) ∧ Below v.heap.size v w') := big_box hk
  have HB0 : Hid (Below w.heap.size w (w.alloc (.cells #[.int .i64 t.kind, .string t.name, .int .u32 t.num, .int .i64 t.int_, .string t.key, .slice p t.args.length c, .int .i64 t.at_] 29))) := bel_alloc _ _
  have HBX : Hid ((w.alloc (.cells #[.int .i64 t.kind, .string t.name, .int .u32 t.num, .int .i64 t.int_, .string t.key, .slice p t.args.length c, .int .i64 t.at_] 29)).heap[w.heap.size]? = some (.cells #[.int .i64 t.kind, .string t.name, .int .u32 t.num, .int .i64 t.int_, .string t.key, .slice p t.args.length c, .int .i64 t.at_] 29)) := box_heap w _
  unfold nv
  by_cases hc : 9000 < cnt t
  · have e1 : decide (9000 < cnt t) = true := decide_eq_true hc
    rw [e1] at HBG
    clear hk hr hok hmn hz hc e1
    go_enter Tryd.func5, Tryd.ntmps5
    go_wp2_with (first
      | (go_at_call 11; (with_reducible refine (HBG.out _ HB0.out).mono ?_); rintro e w1 ⟨rfl, hb1⟩)
      | (go_at_call 10; refine (sure_any _).mono ?_; rintro e w3 ⟨rfl, hb3⟩))
    go_ret
    exact ⟨rfl, bel (bel HB0.out hb1) hb3⟩
  · have e1 : decide (9000 < cnt t) = false := decide_eq_false hc
    rw [e1] at HBG
    have hS : SetsOf t p c ps pp cc w (setP ps t) := sets_of (by omega) hok hml hmn hk hr
    have hll := set_len ps t
    obtain ⟨R, hR⟩ : ∃ R, setP ps t = R := ⟨_, rfl⟩
    rw [hR] at hS hll
    obtain ⟨L, E, F⟩ := R
    have HS : Hid (SetsOf t p c ps pp cc w ⟨L, E, F⟩) := hS
    have HLL : Hid (L.length ≤ 140737488351232) := Nat.le_trans hll (by omega)
    clear hk hr hok hmn hz hc e1 hR hS hll
    go_enter Tryd.func5, Tryd.ntmps5
    go_wp2_with (first
      | (go_at_call 11; (with_reducible refine (HBG.out _ HB0.out).mono ?_); rintro e w1 ⟨rfl, hb1⟩; have HB1 : Hid (Below w.heap.size w w1) := bel HB0.out hb1; have HX1 : w1.heap[w.heap.size]? = some (.cells #[.int .i64 t.kind, .string t.name, .int .u32 t.num, .int .i64 t.int_, .string t.key, .slice p t.args.length c, .int .i64 t.at_] 29) := (by rw [hb1.block _ (hlt HBX.out)]; exact HBX.out); have HBX1 : Hid (w1.heap[w.heap.size]? = some (.cells #[.int .i64 t.kind, .string t.name, .int .u32 t.num, .int .i64 t.int_, .string t.key, .slice p t.args.length c, .int .i64 t.at_] 29)) := HX1; obtain ⟨⟨g0, g1, g2, g3, g4, g5, g6⟩, -⟩ := seven HX1; clear HX1)
      | (go_at_call 12; (with_reducible refine (HS.out.set _ HB1.out).mono ?_); rintro e w2 ⟨v2, rfl, ho2, hb2⟩; have HB2 : Hid (Below w.heap.size w w2) := bel HB1.out hb2; have R2 : Hid (RdN w2 v2 L) := ho2.rd; clear g0 g1 g2 g3 g4 g5 g6; have HX2 : w2.heap[w.heap.size]? = some (.cells #[.int .i64 t.kind, .string t.name, .int .u32 t.num, .int .i64 t.int_, .string t.key, .slice p t.args.length c, .int .i64 t.at_] 29) := (by rw [hb2.block _ (hlt HBX1.out)]; exact HBX1.out); obtain ⟨⟨g0, g1, g2, g3, g4, g5, g6⟩, -⟩ := seven HX2; clear HX2 ho2)
      | (go_at_call 13; (with_reducible refine (HS.out.rset _ HB2.out).mono ?_); rintro e w3 ⟨v3, rfl, ho3, hb3⟩; have R3 : Hid (RdN w3 v2 L ∧ RdN w3 v3 L) := ⟨R2.out.below hb3, ho3.rd⟩; clear ho3)
      | (go_at_call 14; (with_reducible refine (same_any _ _ L HLL.out _ R3.out.1 R3.out.2).mono ?_); rintro e w4 ⟨rfl, hb4⟩)
      | (go_at_call 10; refine (sure_any _).mono ?_; rintro e w5 ⟨rfl, hb5⟩))
    go_ret
    exact ⟨rfl, bel (bel (bel HB2.out hb3) hb4) hb5⟩

end Go.Proofs.YtnhpnmilgcjeaaaDoor
