import Derived.Test.YtnhpnmilgcjeaaaDoorMaskFault
import Derived.Deep.AppendLies
import Derived.Maps.AppendAt
/- The reference: Set. -/
namespace Go.Proofs.YtnhpnmilgcjeaaaDoor
open Go.RowKit
set_option linter.unusedVariables false
set_option linter.unusedSimpArgs false

def ints (l : List Nat) : List Value := l.map fun (i : Nat) => Value.int .i64 (i : Int)
/-- A list of places that the call owns. -/
def OwnI (w : World) (B : Nat) (v : Value) (l : List Nat) : Prop := w.ownsRow B 3 1 v l.length (ints l)
theorem ownI_nil (w : World) (B : Nat) : OwnI w B (.slice none 0 0) [] := World.ownsRow_nil w B _ 1
theorem OwnI.below {w w' : World} {B : Nat} {v : Value} {l : List Nat} (h : OwnI w B v l) (k : Below w.heap.size w w') : OwnI w' B v l := by
  refine World.ownsRow.kept h (row := none) ⟨k.os, k.tape, k.output, k.size, fun j hj _ => k.block j hj⟩ ?_
  cases v.ownBlock <;> simp
theorem ownI_snoc {w : World} {B : Nat} {v : Value} {l : List Nat} {i : Nat} (h : w.ownsRow B 3 1 v (l.length + 1) (ints l ++ [.int .i64 (i : Int)])) : OwnI w B v (l ++ [i]) := by
  unfold OwnI ints
  rw [List.length_append, List.map_append]
  exact h
theorem OwnI.mono1 {w : World} {B : Nat} {v : Value} {l : List Nat} (h : OwnI w (B + 1) v l) : OwnI w B v l := by
  refine ⟨h.1, ?_⟩
  rcases h.2 with hv | ⟨g, cap, cur, hv, hB, hr⟩
  · exact .inl hv
  · exact .inr ⟨g, cap, cur, hv, by omega, hr⟩
theorem info_int : (Tryd.prog.info? 3).map (fun i => (i.zero, i.size, i.bytes)) = some (some (.int .i64 0), 1, 8) := by kernel_rfl
/-- The places below j. -/
def indU (ps : List Par) (t : Nd) (j : Nat) : List Nat := (List.range j).filter fun i => match ps[i]? with | some p => inM p t | none => false
theorem indU_all (ps : List Par) (t : Nd) : indP ps t = indU ps t ps.length := rfl
theorem indU_yes {ps : List Par} {t : Nd} {j : Nat} (h : j < ps.length) (hi : inM ps[j] t = true) : indU ps t (j + 1) = indU ps t j ++ [j] := by
  unfold indU
  rw [List.range_succ, List.filter_append]
  simp [List.getElem?_eq_getElem h, hi]
theorem indU_no {ps : List Par} {t : Nd} {j : Nat} (h : j < ps.length) (hi : inM ps[j] t = false) : indU ps t (j + 1) = indU ps t j := by
  unfold indU
  rw [List.range_succ, List.filter_append]
  simp [List.getElem?_eq_getElem h, hi]
theorem indU_len (ps : List Par) (t : Nd) (j : Nat) : (indU ps t j).length ≤ j := by
  unfold indU
  have := List.length_filter_le (fun i => match ps[i]? with | some p => inM p t | none => false) (List.range j)
  simpa using this
theorem set_deep {ps : List Par} {t : Nd} (h : dep t > 64) : setP ps t = ⟨[], 81, t.at_⟩ := by unfold setP; rw [if_pos h]
theorem set_fault {ps : List Par} {t : Nd} (h : ¬ dep t > 64) (hf : (faultM ps t).1 ≠ 0) : setP ps t = ⟨[], (faultM ps t).1, (faultM ps t).2⟩ := by unfold setP; rw [if_neg h, if_pos hf]
theorem set_ok {ps : List Par} {t : Nd} (h : ¬ dep t > 64) (hf : (faultM ps t).1 = 0) : setP ps t = ⟨indP ps t, 0, 0⟩ := by unfold setP; rw [if_neg h, if_neg (by simpa using hf)]

set_option maxRecDepth 100000 in
set_option maxHeartbeats 8000000 in
theorem rSet_any (t : Nd) (p : Option Addr) (c : Nat) (ps : List Par) (pp : Option Addr) (cc : Nat) (w : World) (hc : cnt t ≤ 40000) (hok : ok1 t) (hml : ps.length ≤ 4398046510976) (hmn : ∀ q ∈ ps, q.name.size ≤ 140737488351232) (hk : Kids w anyH (.slice p t.args.length c) t.args) (hr : Row w pp ps) :
    Calls Tryd.prog 13 #[nv t (.slice p t.args.length c), .slice pp ps.length cc] w fun e w' => ∃ v, e = .returned (.tuple #[v, .int .i64 (setP ps t).err, .int .i64 (setP ps t).place]) ∧ OwnI w' w.heap.size v (setP ps t).list ∧ Below w.heap.size w w' := by
  obtain ⟨i0, hi0, hz0, hz1, hz2⟩ := info_parts info_int
  have hd9 : dep t ≤ 40000 := by have := dep_cnt t; omega
  obtain ⟨n, hn⟩ : ∃ n, t.args.length = n := ⟨_, rfl⟩
  obtain ⟨m, hm⟩ : ∃ m, ps.length = m := ⟨_, rfl⟩
  have HMM : Hid (ps.length = m) := hm
  have HR : Hid (Row w pp ps) := hr
  have HKD : Hid (∀ v, Below w.heap.size w v → Kids v anyH (.slice p t.args.length c) t.args) := fun v hv => hk.below hv
  have KD : Hid (∀ v, Below w.heap.size w v → Calls Tryd.prog 15 #[.agg #[.int .i64 t.kind, .string t.name, .int .u32 t.num, .int .i64 t.int_, .string t.key, .slice p n c, .int .i64 t.at_]] v fun e w' => e = .returned (.int .i64 (dep t)) ∧ Below v.heap.size v w') := fun v hv => by
    have := rdepth_to (dep t) t p c v (Nat.le_refl _) hc (hk.below hv)
    unfold nv at this
    rw [hn] at this
    exact this
  have KF : Hid (∀ v, Below w.heap.size w v → Calls Tryd.prog 26 #[.agg #[.int .i64 t.kind, .string t.name, .int .u32 t.num, .int .i64 t.int_, .string t.key, .slice p n c, .int .i64 t.at_], .slice pp m cc] v fun e w' => e = .returned (.tuple #[.int .i64 (faultM ps t).1, .int .i64 (faultM ps t).2]) ∧ Below v.heap.size v w') := fun v hv => by
    have := rfault_to (dep t) t p c ps pp cc v (Nat.le_refl _) hc hok hml hmn (hk.below hv) (hr.below hv)
    unfold nv at this
    rw [hn, hm] at this
    exact this
  have KI : Hid ((faultM ps t).1 = 0 → ∀ j (hj : j < ps.length) v, Below w.heap.size w v → Calls Tryd.prog 27 #[.agg #[.int .i64 t.kind, .string t.name, .int .u32 t.num, .int .i64 t.int_, .string t.key, .slice p n c, .int .i64 t.at_], .agg #[.string ps[j].name, .int .i64 ps[j].kind, .int .i64 ps[j].len]] v fun e w' => e = .returned (.bool (inM ps[j] t)) ∧ Below v.heap.size v w') := fun hf j hj v hv => by
    have := rIn_to (dep t) t p c ps[j] ps v (Nat.le_refl _) hc hok (hmn _ (List.getElem_mem hj)) hf (hk.below hv)
    unfold nv pv at this
    rw [hn] at this
    exact this
  have P1 : Hid (dep t > 64 → setP ps t = ⟨[], 81, t.at_⟩) := fun h => set_deep h
  have P2 : Hid (¬ dep t > 64 → (faultM ps t).1 ≠ 0 → setP ps t = ⟨[], (faultM ps t).1, (faultM ps t).2⟩) := fun h h2 => set_fault h h2
  have P3 : Hid (¬ dep t > 64 → (faultM ps t).1 = 0 → setP ps t = ⟨indP ps t, 0, 0⟩) := fun h h2 => set_ok h h2
  unfold nv
  rw [hn, hm]
  rw [hm] at hml
  have HBX : Hid ((w.alloc (.cells #[.int .i64 t.kind, .string t.name, .int .u32 t.num, .int .i64 t.int_, .string t.key, .slice p n c, .int .i64 t.at_] 29)).heap[w.heap.size]? = some (.cells #[.int .i64 t.kind, .string t.name, .int .u32 t.num, .int .i64 t.int_, .string t.key, .slice p n c, .int .i64 t.at_] 29)) := box_heap w _
  have HB0 : Hid (Below w.heap.size w (w.alloc (.cells #[.int .i64 t.kind, .string t.name, .int .u32 t.num, .int .i64 t.int_, .string t.key, .slice p n c, .int .i64 t.at_] 29))) := bel_alloc _ _
  obtain ⟨D, hD⟩ : ∃ D, dep t = D := ⟨_, rfl⟩
  obtain ⟨E, hE⟩ : ∃ E, (faultM ps t).1 = E := ⟨_, rfl⟩
  obtain ⟨F, hF⟩ : ∃ F, (faultM ps t).2 = F := ⟨_, rfl⟩
  rw [hD] at KD P1 P2 P3 hd9
  rw [hE, hF] at KF P2
  rw [hE] at KI P3
  clear hD hE hF hk hr hn hm hmn hok hc
  by_cases hdp : D > 64
  · have d1 : (64 : Int) < (D : Int) := by omega
    rw [P1.out hdp]
    clear P1 P2 P3 KF KI
    go_enter Tryd.func13, Tryd.ntmps13
    go_upto_region 2 with (go_at_call 15; (with_reducible refine (KD.out _ HB0.out).mono ?_); rintro e w1 ⟨rfl, hb1⟩)
    have HX1 : w1.heap[w.heap.size]? = some (.cells #[.int .i64 t.kind, .string t.name, .int .u32 t.num, .int .i64 t.int_, .string t.key, .slice p n c, .int .i64 t.at_] 29) := by rw [hb1.block _ (hlt HBX.out)]; exact HBX.out
    obtain ⟨⟨g0, g1, g2, g3, g4, g5, g6⟩, -⟩ := seven HX1
    clear HX1
    go_quiet (fail)
    go_wp2
    go_ret3
    exact ⟨_, rfl, ownI_nil _ _, bel (bel HB0.out hb1) (bel_dn _ _)⟩
  · have d1 : ¬ (64 : Int) < (D : Int) := by omega
    by_cases hE0 : E = 0
    · have hs := P3.out hdp hE0
      rw [hs, indU_all, HMM.out]
      have KI2 : Hid (∀ j (hj : j < ps.length) v, Below w.heap.size w v → Calls Tryd.prog 27 #[.agg #[.int .i64 t.kind, .string t.name, .int .u32 t.num, .int .i64 t.int_, .string t.key, .slice p n c, .int .i64 t.at_], .agg #[.string ps[j].name, .int .i64 ps[j].kind, .int .i64 ps[j].len]] v fun e w' => e = .returned (.bool (inM ps[j] t)) ∧ Below v.heap.size v w') := KI.out hE0
      subst hE0
      clear P1 P2 P3 hs KI
      go_enter Tryd.func13, Tryd.ntmps13
      go_wp2_with (first
        | (go_at_call 15; (with_reducible refine (KD.out _ HB0.out).mono ?_); rintro e w1 ⟨rfl, hb1⟩; have HB1 : Hid (Below w.heap.size w w1) := bel HB0.out hb1; have HX1 : w1.heap[w.heap.size]? = some (.cells #[.int .i64 t.kind, .string t.name, .int .u32 t.num, .int .i64 t.int_, .string t.key, .slice p n c, .int .i64 t.at_] 29) := (by rw [hb1.block _ (hlt HBX.out)]; exact HBX.out); have HBX1 : Hid (w1.heap[w.heap.size]? = some (.cells #[.int .i64 t.kind, .string t.name, .int .u32 t.num, .int .i64 t.int_, .string t.key, .slice p n c, .int .i64 t.at_] 29)) := HX1; obtain ⟨⟨g0, g1, g2, g3, g4, g5, g6⟩, -⟩ := seven HX1; clear HX1)
        | (go_at_call 26; (with_reducible refine (KF.out _ HB1.out).mono ?_); rintro e w2 ⟨rfl, hb2⟩; have HB2 : Hid (Below w.heap.size w w2) := bel HB1.out hb2; have HBX2 : Hid (w2.heap[w.heap.size]? = some (.cells #[.int .i64 t.kind, .string t.name, .int .u32 t.num, .int .i64 t.int_, .string t.key, .slice p n c, .int .i64 t.at_] 29)) := (by show _ = _; rw [hb2.block _ (hlt HBX1.out)]; exact HBX1.out)))
      clear g0 g1 g2 g3 g4 g5 g6
      go_loopw [9, 10] (fun lv iv wr => Below w.heap.size w wr ∧ Hid (wr.heap[w.heap.size]? = some (.cells #[.int .i64 t.kind, .string t.name, .int .u32 t.num, .int .i64 t.int_, .string t.key, .slice p n c, .int .i64 t.at_] 29)) ∧ ∃ (j : Nat) (ov : Value), ov = lv ∧ j ≤ m ∧ iv = .int .i64 j ∧ Hid (OwnI wr (w.heap.size + 1) ov (indU ps t j))) (fun _ iv _ => m - (intOf iv).toNat)
      case atStart => exact ⟨HB2.out, HBX2.out, 0, _, rfl, Nat.zero_le _, rfl, ownI_nil _ _⟩
      case round =>
        obtain ⟨hb, HBR, j, ov, rfl, hj, rfl, HO⟩ := hrel
        clear HBX HB0 HB1 HBX1 HB2 HBX2 KD KF
        have szr : w.heap.size + 1 ≤ wr.heap.size := hlt HBR.out
        obtain ⟨⟨g0, g1, g2, g3, g4, g5, g6⟩, -⟩ := seven HBR.out
        by_cases hlt0 : j < m
        · have hll : j < ps.length := by rw [HMM.out]; exact hlt0
          obtain ⟨b1, o1, rfl, hx⟩ := HR.out.at hll
          obtain ⟨x0, x1, x2⟩ := hx.below hb
          have i1 : (0 : Int) ≤ (j : Int) := by omega
          have i2 : (j : Int) < (m : Int) := by omega
          have hil := indU_len ps t j
          have IY := indU_yes (t := t) hll
          have IN := indU_no (t := t) hll
          obtain ⟨U, hU⟩ : ∃ U, inM ps[j] t = U := ⟨_, rfl⟩
          rw [hU] at IY IN
          have HW : Hid (∀ v, Below wr.heap.size wr v → Calls Tryd.prog 27 #[.agg #[.int .i64 t.kind, .string t.name, .int .u32 t.num, .int .i64 t.int_, .string t.key, .slice p n c, .int .i64 t.at_], .agg #[.string ps[j].name, .int .i64 ps[j].kind, .int .i64 ps[j].len]] v fun e w' => e = .returned (.bool U) ∧ Below wr.heap.size wr w') := fun v hv => (KI2.out j hll v (bel hb hv)).mono fun e w' ⟨he, hb'⟩ => ⟨by rw [he, hU], bel hv hb'⟩
          obtain ⟨acc, hacc⟩ : ∃ acc, indU ps t j = acc := ⟨_, rfl⟩
          rw [hacc] at IY IN hil HO
          clear hx hU KI2 hacc
          go_upto_region 10 with fail
          refine wp_region_held_drew (S := (fun w' => w'.cell? ⟨w.heap.size, 0, none⟩ = some (.int .i64 t.kind) ∧ w'.cell? ⟨w.heap.size, 1, none⟩ = some (.string t.name) ∧ w'.cell? ⟨w.heap.size, 2, none⟩ = some (.int .u32 t.num) ∧ w'.cell? ⟨w.heap.size, 3, none⟩ = some (.int .i64 t.int_) ∧ w'.cell? ⟨w.heap.size, 4, none⟩ = some (.string t.key) ∧ w'.cell? ⟨w.heap.size, 5, none⟩ = some (.slice p n c) ∧ w'.cell? ⟨w.heap.size, 6, none⟩ = some (.int .i64 t.at_) ∧ w'.cell? ⟨b1, o1 + j * 3, none⟩ = some (.string ps[j].name) ∧ w'.cell? ⟨b1, o1 + j * 3 + 1, none⟩ = some (.int .i64 ps[j].kind) ∧ w'.cell? ⟨b1, o1 + j * 3 + 2, none⟩ = some (.int .i64 ps[j].len))) (by kernel_rfl) ?_ (fun hHeld => ?_)
          · ((try dsimp only); go_keep)
          refine wpAnyH_take (i := 0) (v := ?_) (by simp only [List.getElem?_toArray, List.getElem?_cons_succ, List.getElem?_cons_zero]; rfl) (by kernel_rfl) (by kernel_rfl) (by kernel_rfl) (by exact fun _ _ _ h => h) (Or.inl ⟨by rfl, ?_⟩) (by assumption) ?_
          rotate_left 1
          · (intro wS hSw; (try dsimp only at hSw); go_simp; try (with_reducible rfl))
          try simp only [Act.put, List.setIfInBounds_toArray, List.set_cons_zero, List.set_cons_succ]
          refine wpAnyH_take (i := 1) (v := ?_) (by simp only [List.getElem?_toArray, List.getElem?_cons_succ, List.getElem?_cons_zero]; rfl) (by kernel_rfl) (by kernel_rfl) (by kernel_rfl) (by exact fun _ _ _ h => h) (Or.inl ⟨by rfl, ?_⟩) (by assumption) ?_
          rotate_left 1
          · (intro wS hSw; (try dsimp only at hSw); go_simp; try (with_reducible rfl))
          try simp only [Act.put, List.setIfInBounds_toArray, List.set_cons_zero, List.set_cons_succ]
          refine wpAnyH_take (i := 2) (v := ?_) (by simp only [List.getElem?_toArray, List.getElem?_cons_succ, List.getElem?_cons_zero]; rfl) (by kernel_rfl) (by kernel_rfl) (by kernel_rfl) (by exact fun _ _ _ h => h) (Or.inl ⟨by rfl, ?_⟩) (by assumption) ?_
          rotate_left 1
          · (intro wS hSw; (try dsimp only at hSw); go_simp; try (with_reducible rfl))
          try simp only [Act.put, List.setIfInBounds_toArray, List.set_cons_zero, List.set_cons_succ]
          refine wpAnyH_take (i := 3) (v := ?_) (by simp only [List.getElem?_toArray, List.getElem?_cons_succ, List.getElem?_cons_zero]; rfl) (by kernel_rfl) (by kernel_rfl) (by kernel_rfl) (by exact fun _ _ _ h => h) (Or.inl ⟨by rfl, ?_⟩) (by assumption) ?_
          rotate_left 1
          · (intro wS hSw; (try dsimp only at hSw); go_simp; try (with_reducible rfl))
          try simp only [Act.put, List.setIfInBounds_toArray, List.set_cons_zero, List.set_cons_succ]
          refine wpAnyH_take (i := 4) (v := ?_) (by simp only [List.getElem?_toArray, List.getElem?_cons_succ, List.getElem?_cons_zero]; rfl) (by kernel_rfl) (by kernel_rfl) (by kernel_rfl) (by exact fun _ _ _ h => h) (Or.inl ⟨by rfl, ?_⟩) (by assumption) ?_
          rotate_left 1
          · (intro wS hSw; (try dsimp only at hSw); go_simp; try (with_reducible rfl))
          try simp only [Act.put, List.setIfInBounds_toArray, List.set_cons_zero, List.set_cons_succ]
          clear hHeld
          refine wpAnyH_ready (rs := [5]) (by kernel_rfl) (by simp) ?_
          refine AllReadyH.cons (i := 5) (by simp only [List.getElem?_toArray, List.getElem?_cons_succ, List.getElem?_cons_zero]; rfl) (fun K hK => ?_) AllReadyH.nil
          go_simp
          (go_at_call 27; (with_reducible refine (HW.out _ (bel_d _)).mono ?_); rintro e w3 ⟨rfl, hb3⟩; have yg0 := mkeep hb3 g0; have yg1 := mkeep hb3 g1; have yg2 := mkeep hb3 g2; have yg3 := mkeep hb3 g3; have yg4 := mkeep hb3 g4; have yg5 := mkeep hb3 g5; have yg6 := mkeep hb3 g6; have yx0 := mkeep hb3 x0; have yx1 := mkeep hb3 x1; have yx2 := mkeep hb3 x2)
          try (go_wp2_with fail)
          refine hK.out _ _ ?_ (fun hHeld => ?_)
          · ((try dsimp only); go_keep)
          clear hK K
          try simp only [Act.put, List.setIfInBounds_toArray, List.set_cons_zero, List.set_cons_succ]
          refine wpAnyH_done (by kernel_rfl) ?_ _
          have HO3 : Hid (OwnI w3 (w.heap.size + 1) ov acc) := HO.out.below hb3
          have HBR3 : Hid (w3.heap[w.heap.size]? = some (.cells #[.int .i64 t.kind, .string t.name, .int .u32 t.num, .int .i64 t.int_, .string t.key, .slice p n c, .int .i64 t.at_] 29)) := by show _ = _; rw [hb3.block _ (hlt HBR.out)]; exact HBR.out
          have sz3 := hb3.size
          cases U
          · have HN3 : Hid (indU ps t (j + 1) = acc) := IN rfl
            clear IY IN
            go_wp2
            go_roundw
            case rel => exact ⟨bel hb hb3, HBR3.out, j + 1, _, rfl, by omega, by go_num, by rw [HN3.out]; exact HO3.out⟩
            case measure => simp [intOf]; omega
          · have HN3 : Hid (indU ps t (j + 1) = acc ++ [j]) := IY rfl
            clear IY IN
            go_wp2_with (first
              | (at_builtin; refine wpList_append_own_at _ rfl _ _ 32 rfl (w.heap.size + 1) 3 i0 _ 1 8 Tryd.underlying32 hi0 hz0 hz1 hz2 rfl (by decide) ov acc.length (ints acc) rfl (World.ownsRow.alloc HO3.out _) ⟨w3.heap.size, 0, none⟩ 1 1 [.int .i64 (j : Int)] rfl rfl (World.news_of_block (cs := #[.int .i64 (j : Int)]) (t := 3) (fr := (0, 0)) (box_heap w3 _)) (by simp [Value.oneCell']) (by unfold maxLen; omega) (by omega) (by simp; omega) ?_; intro v' w4 hown4 hgrow hnil hat; have HO4 : Hid (w4.ownsRow (w.heap.size + 1) 3 1 v' (acc.length + 1) (ints acc ++ [.int .i64 (j : Int)]) ∧ (w3.alloc (.cells #[.int .i64 (j : Int)] 3)).grownBy w4 ov.ownBlock) := ⟨hown4, hgrow⟩; clear hown4 hgrow hnil hat))
            go_roundw
            case rel =>
              obtain ⟨ho4, hgrow⟩ := HO4.out
              have hob := HO3.out.lt
              refine ⟨Below.grown ((bel hb hb3).alloc (by omega) _) hgrow (by simp; omega) (fun q e => by have := (hob q e).1; omega), ?_, j + 1, _, rfl, by omega, by go_num, ?_⟩
              · show _ = _
                rw [hgrow.block _ (by simp; omega) (fun e => by have := (hob _ e.symm).1; omega), (bel_alloc w3 _).block _ (by omega)]
                exact HBR3.out
              · rw [HN3.out]
                exact ownI_snoc ho4
            case measure => simp [intOf]; omega
        · have : j = m := by omega
          subst this
          clear KI2
          go_wp2
          go_ret3
          exact ⟨_, rfl, HO.out.mono1, hb⟩
    · have hs := P2.out hdp hE0
      rw [hs]
      have z1 : (E == 0) = false := by simpa using hE0
      have z2 : (E != 0) = true := by simpa using hE0
      clear P1 P2 P3 KI hs hE0
      go_enter Tryd.func13, Tryd.ntmps13
      go_wp2_with (first
        | (go_at_call 15; (with_reducible refine (KD.out _ HB0.out).mono ?_); rintro e w1 ⟨rfl, hb1⟩; have HB1 : Hid (Below w.heap.size w w1) := bel HB0.out hb1; have HX1 : w1.heap[w.heap.size]? = some (.cells #[.int .i64 t.kind, .string t.name, .int .u32 t.num, .int .i64 t.int_, .string t.key, .slice p n c, .int .i64 t.at_] 29) := (by rw [hb1.block _ (hlt HBX.out)]; exact HBX.out); obtain ⟨⟨g0, g1, g2, g3, g4, g5, g6⟩, -⟩ := seven HX1; clear HX1)
        | (go_at_call 26; (with_reducible refine (KF.out _ HB1.out).mono ?_); rintro e w2 ⟨rfl, hb2⟩))
      go_ret3
      exact ⟨_, rfl, ownI_nil _ _, bel HB1.out hb2⟩

end Go.Proofs.YtnhpnmilgcjeaaaDoor
