import Derived.Test.YtnhpnmilgcjeaaaDoorMaskCode
/- The statements' own: same, sure. -/
namespace Go.Proofs.YtnhpnmilgcjeaaaDoor
open Go.RowKit
set_option linter.unusedVariables false
set_option linter.unusedSimpArgs false

/-- A slice that reads as these places. -/
def RdN (w : World) (v : Value) (l : List Nat) : Prop := ∃ p c, v = .slice p l.length c ∧ (l = [] ∨ ∃ b o, p = some ⟨b, o, none⟩ ∧ ∀ i (h : i < l.length), w.cell? ⟨b, o + i, none⟩ = some (.int .i64 (l[i] : Int)))
theorem RdN.below {w w' : World} {v : Value} {l : List Nat} (h : RdN w v l) (k : Below w.heap.size w w') : RdN w' v l := by
  obtain ⟨p, c, hv, h⟩ := h
  exact ⟨p, c, hv, h.imp id fun ⟨b, o, hp, h⟩ => ⟨b, o, hp, fun i hi => mkeep k (h i hi)⟩⟩
theorem OwnI.rows {w : World} {B : Nat} {v : Value} {l : List Nat} (h : OwnI w B v l) (h0 : l ≠ []) : ∃ g c, v = .slice (some ⟨g, 0, none⟩) l.length c ∧ B ≤ g ∧ l.length ≤ c ∧ ∀ i (h : i < l.length), w.cell? ⟨g, i, none⟩ = some (.int .i64 (l[i] : Int)) := by
  obtain ⟨hl, h⟩ := h
  rcases h with ⟨hv, hn⟩ | ⟨g, cap, cur, hv, hB, hg, hc1, hc2, hsz, htk⟩
  · exact absurd (List.eq_nil_of_length_eq_zero hn) h0
  · refine ⟨g, cap, hv, hB, hc1, fun i hi => ?_⟩
    have : (ints l)[i]? = some (.int .i64 (l[i] : Int)) := by simp [ints, hi]
    rw [← this, ← htk, List.getElem?_take_of_lt (by omega)]
    simp [World.cell?, hg]
theorem OwnI.rd {w : World} {B : Nat} {v : Value} {l : List Nat} (h : OwnI w B v l) : RdN w v l := by
  by_cases h0 : l = []
  · subst h0
    obtain ⟨hl, h⟩ := h
    rcases h with ⟨hv, hn⟩ | ⟨g, cap, cur, hv, _⟩
    · exact ⟨none, 0, hv, .inl rfl⟩
    · exact ⟨some ⟨g, 0, none⟩, cap, hv, .inl rfl⟩
  · obtain ⟨g, c, hv, _, _, hc⟩ := h.rows h0
    exact ⟨_, c, hv, .inr ⟨g, 0, rfl, fun i hi => by rw [Nat.zero_add]; exact hc i hi⟩⟩

set_option maxRecDepth 100000 in
set_option maxHeartbeats 1000000 in
theorem same_any (u v : Value) (l : List Nat) (hn : l.length ≤ 140737488351232) (w : World) (hu : RdN w u l) (hv : RdN w v l) :
    Calls Tryd.prog 14 #[u, v] w fun e w' => e = .returned (.bool true) ∧ Below w.heap.size w w' := by
  obtain ⟨p, c, rfl, hu⟩ := hu
  obtain ⟨q, d, rfl, hv⟩ := hv
  obtain ⟨n, hln⟩ : ∃ n, l.length = n := ⟨_, rfl⟩
  rw [hln] at hn ⊢
  have HN : Hid (l.length = n) := hln
  have HU : Hid (l = [] ∨ ∃ b o, p = some ⟨b, o, none⟩ ∧ ∀ i (h : i < l.length), w.cell? ⟨b, o + i, none⟩ = some (.int .i64 (l[i] : Int))) := hu
  have HV : Hid (l = [] ∨ ∃ b o, q = some ⟨b, o, none⟩ ∧ ∀ i (h : i < l.length), w.cell? ⟨b, o + i, none⟩ = some (.int .i64 (l[i] : Int))) := hv
  clear hln hu hv
  go_enter Tryd.func14, Tryd.ntmps14
  go_wp2
  go_loopw [5] (fun iv wr => Below w.heap.size w wr ∧ ∃ i : Nat, i ≤ n ∧ iv = .int .i64 i) (fun iv _ => n - (intOf iv).toNat)
  case atStart => exact ⟨bel0 w, 0, Nat.zero_le _, rfl⟩
  case round =>
    obtain ⟨hb, i, hi, rfl⟩ := hrel
    by_cases hlt : i < n
    · have hll : i < l.length := by rw [HN.out]; exact hlt
      obtain ⟨b, o, rfl, hx⟩ : ∃ b o, p = some ⟨b, o, none⟩ ∧ w.cell? ⟨b, o + i, none⟩ = some (.int .i64 (l[i] : Int)) := by
        rcases HU.out with h | ⟨b, o, hp, h⟩
        · rw [h] at hll; exact absurd hll (Nat.not_lt_zero _)
        · exact ⟨b, o, hp, h i hll⟩
      obtain ⟨b', o', rfl, hy⟩ : ∃ b o, q = some ⟨b, o, none⟩ ∧ w.cell? ⟨b, o + i, none⟩ = some (.int .i64 (l[i] : Int)) := by
        rcases HV.out with h | ⟨b, o, hp, h⟩
        · rw [h] at hll; exact absurd hll (Nat.not_lt_zero _)
        · exact ⟨b, o, hp, h i hll⟩
      have x0 := mkeep hb hx
      have y0 := mkeep hb hy
      obtain ⟨X, hX⟩ : ∃ X : Nat, l[i] = X := ⟨_, rfl⟩
      rw [hX] at x0 y0
      have i1 : (0 : Int) ≤ (i : Int) := by omega
      have i2 : (i : Int) < (n : Int) := by omega
      clear hx hy hX
      go_wp2
      go_quiet (fail)
      go_wp2
      go_roundw
      case rel => exact ⟨bel hb (bel_dn _ _), i + 1, by omega, by go_num⟩
      case measure => simp [intOf]; omega
    · have : i = n := by omega
      subst this
      go_wp2
      go_ret
      exact ⟨rfl, hb⟩

def parW : Par := ⟨⟨#[119]⟩, 1, 1⟩
def parZ : Par := ⟨⟨#[122]⟩, 2, 1⟩
def nodC : Nd := ⟨1, ⟨#[99, 111, 109, 112, 108, 101, 120]⟩, 0, 0, ⟨#[]⟩, [], 0⟩
def nodQ : Nd := ⟨5, ⟨#[113]⟩, 0, 0, ⟨#[]⟩, [], 7⟩
theorem in_leaf (p : Par) (k : Int) (nm key : ByteArray) (a : Int) : inM p ⟨k, nm, 0, 0, key, [], a⟩ = inOne k nm p [] := by
  show inOne k nm p (inL p []) = _
  rw [inL_nil]
theorem fault_leaf (ps : List Par) (k : Int) (nm key : ByteArray) (a : Int) : faultM ps ⟨k, nm, 0, 0, key, [], a⟩ = faultOne ps k nm 0 a (0, 0) := by
  show faultOne ps k nm 0 a (faultL ps []) = _
  rw [faultL_nil]
theorem dep_leaf (k : Int) (nm key : ByteArray) (a : Int) : dep ⟨k, nm, 0, 0, key, [], a⟩ = 1 := by
  show depL [] + 1 = 1
  rw [depL_nil]
theorem cnt_leaf (k : Int) (nm key : ByteArray) (a : Int) : cnt ⟨k, nm, 0, 0, key, [], a⟩ = 1 := by
  show 1 + cntL [] = 1
  rw [cntL_nil]
theorem set1 : setP [parW, parZ] nodC = ⟨[1], 0, 0⟩ := by
  unfold nodC
  rw [set_ok (by rw [dep_leaf]; decide) (by rw [fault_leaf]; kernel_rfl)]
  unfold indP
  simp only [in_leaf]
  kernel_rfl
theorem set2 : setP [parW, parZ] nodQ = ⟨[], 111, 7⟩ := by
  unfold nodQ
  rw [set_fault (by rw [dep_leaf]; decide) (by rw [fault_leaf]; decide), fault_leaf]
  kernel_rfl
theorem match1 : matchP [97, 63, 99, 42] [97, 98, 99, 100] = true := by kernel_rfl
theorem match2 : matchP [97, 63] [97] = false := by kernel_rfl
theorem ok_nodC : ok1 nodC := ⟨⟨by decide, by decide, by decide, by decide⟩, okL_nil⟩
theorem ok_nodQ : ok1 nodQ := ⟨⟨by decide, by decide, by decide, by decide⟩, okL_nil⟩
theorem cnt_nodC : cnt nodC ≤ 40000 := by unfold nodC; rw [cnt_leaf]; decide
theorem cnt_nodQ : cnt nodQ ≤ 40000 := by unfold nodQ; rw [cnt_leaf]; decide

set_option maxRecDepth 100000 in
set_option maxHeartbeats 2000000 in
theorem sure_any (w : World) :
    Calls Tryd.prog 10 #[] w fun e w' => e = .returned (.bool true) ∧ Below w.heap.size w w' := by
  have nm : ∀ q ∈ [parW, parZ], q.name.size ≤ 140737488351232 := by decide
  have S1 : ∀ (pp : Option Addr) (cc : Nat) (v : World), Row v pp [parW, parZ] → Calls Tryd.prog 12 #[.agg #[.int .i64 1, .string ⟨#[99, 111, 109, 112, 108, 101, 120]⟩, .int .u32 0, .int .i64 0, .string ⟨#[]⟩, .slice none 0 0, .int .i64 0], .slice pp 2 cc] v fun e w' => ∃ u, e = .returned (.tuple #[u, .int .i64 0, .int .i64 0]) ∧ OwnI w' v.heap.size u [1] ∧ Below v.heap.size v w' := fun pp cc v h => by
    have := mSet_any nodC none 0 [parW, parZ] pp cc v cnt_nodC ok_nodC (by decide) nm ⟨none, 0, rfl, trivial, .inl rfl⟩ h
    rw [set1] at this
    exact this
  have S2 : ∀ (pp : Option Addr) (cc : Nat) (v : World), Row v pp [parW, parZ] → Calls Tryd.prog 12 #[.agg #[.int .i64 5, .string ⟨#[113]⟩, .int .u32 0, .int .i64 0, .string ⟨#[]⟩, .slice none 0 0, .int .i64 7], .slice pp 2 cc] v fun e w' => ∃ u, e = .returned (.tuple #[u, .int .i64 111, .int .i64 7]) ∧ OwnI w' v.heap.size u [] ∧ Below v.heap.size v w' := fun pp cc v h => by
    have := mSet_any nodQ none 0 [parW, parZ] pp cc v cnt_nodQ ok_nodQ (by decide) nm ⟨none, 0, rfl, trivial, .inl rfl⟩ h
    rw [set2] at this
    exact this
  have S3 : ∀ v : World, Calls Tryd.prog 8 #[.string ⟨#[97, 63, 99, 42]⟩, .string ⟨#[97, 98, 99, 100]⟩] v fun e w' => e = .returned (.bool true) ∧ Below v.heap.size v w' := fun v => by
    have := mMatch_any ⟨#[97, 63, 99, 42]⟩ ⟨#[97, 98, 99, 100]⟩ (by decide) (by decide) v
    rw [show matchP (gs ⟨#[97, 63, 99, 42]⟩) (gs ⟨#[97, 98, 99, 100]⟩) = true from match1] at this
    exact this
  have S4 : ∀ v : World, Calls Tryd.prog 8 #[.string ⟨#[97, 63]⟩, .string ⟨#[97]⟩] v fun e w' => e = .returned (.bool false) ∧ Below v.heap.size v w' := fun v => by
    have := mMatch_any ⟨#[97, 63]⟩ ⟨#[97]⟩ (by decide) (by decide) v
    rw [show matchP (gs ⟨#[97, 63]⟩) (gs ⟨#[97]⟩) = false from match2] at this
    exact this
  have H1 : Hid (∀ (pp : Option Addr) (cc : Nat) (v : World), Row v pp [parW, parZ] → Calls Tryd.prog 12 #[.agg #[.int .i64 1, .string ⟨#[99, 111, 109, 112, 108, 101, 120]⟩, .int .u32 0, .int .i64 0, .string ⟨#[]⟩, .slice none 0 0, .int .i64 0], .slice pp 2 cc] v fun e w' => ∃ u, e = .returned (.tuple #[u, .int .i64 0, .int .i64 0]) ∧ OwnI w' v.heap.size u [1] ∧ Below v.heap.size v w') := S1
  have H2 : Hid (∀ (pp : Option Addr) (cc : Nat) (v : World), Row v pp [parW, parZ] → Calls Tryd.prog 12 #[.agg #[.int .i64 5, .string ⟨#[113]⟩, .int .u32 0, .int .i64 0, .string ⟨#[]⟩, .slice none 0 0, .int .i64 7], .slice pp 2 cc] v fun e w' => ∃ u, e = .returned (.tuple #[u, .int .i64 111, .int .i64 7]) ∧ OwnI w' v.heap.size u [] ∧ Below v.heap.size v w') := S2
  have H3 : Hid (∀ v : World, Calls Tryd.prog 8 #[.string ⟨#[97, 63, 99, 42]⟩, .string ⟨#[97, 98, 99, 100]⟩] v fun e w' => e = .returned (.bool true) ∧ Below v.heap.size v w') := S3
  have H4 : Hid (∀ v : World, Calls Tryd.prog 8 #[.string ⟨#[97, 63]⟩, .string ⟨#[97]⟩] v fun e w' => e = .returned (.bool false) ∧ Below v.heap.size v w') := S4
  have HR0 : Hid (Row (w.alloc (.cells #[.string ⟨#[119]⟩, .int .i64 1, .int .i64 1, .string ⟨#[122]⟩, .int .i64 2, .int .i64 1] 51)) (some ⟨w.heap.size, 0, none⟩) [parW, parZ]) := by
    refine .inr ⟨w.heap.size, 0, rfl, fun i hi => ?_⟩
    have hh := box_heap w (.cells #[.string ⟨#[119]⟩, .int .i64 1, .int .i64 1, .string ⟨#[122]⟩, .int .i64 2, .int .i64 1] 51)
    have : i = 0 ∨ i = 1 := by simp at hi; omega
    rcases this with rfl | rfl
    · exact ⟨(cell_heap hh 0), (cell_heap hh 1), (cell_heap hh 2)⟩
    · exact ⟨(cell_heap hh 3), (cell_heap hh 4), (cell_heap hh 5)⟩
  clear S1 S2 S3 S4 nm
  go_enter Tryd.func10, Tryd.ntmps10
  go_wp2_with (first
    | ((with_reducible refine (H1.out _ _ _ HR0.out).mono ?_); rintro e w1 ⟨v1, rfl, ho1, hb1⟩; obtain ⟨g, cp, rfl, _, _, hcs⟩ := ho1.rows (by simp); have hc0 := hcs 0 (by simp); simp only [List.getElem_cons_zero] at hc0; have HR1 : Hid (Row w1 (some ⟨w.heap.size, 0, none⟩) [parW, parZ]) := HR0.out.below hb1; clear ho1 hcs)
    | ((with_reducible refine (H2.out _ _ _ HR1.out).mono ?_); rintro e w2 ⟨v2, rfl, ho2, hb2⟩; have c1 := mkeep hb2 hc0; clear ho2)
    | ((with_reducible refine (H3.out _).mono ?_); rintro e w3 ⟨rfl, hb3⟩; have c2 := mkeep hb3 c1)
    | ((with_reducible refine (H4.out _).mono ?_); rintro e w4 ⟨rfl, hb4⟩; have c3 := mkeep hb4 c2))
  go_ret
  exact ⟨rfl, bel (bel (bel (bel (bel_alloc _ _) hb1) hb2) hb3) hb4⟩

end Go.Proofs.YtnhpnmilgcjeaaaDoor
