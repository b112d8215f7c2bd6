import Derived.Test.YtnlgkkbmbijndaaGreatBck12
import Derived.Test.YtnlgkkbmbijndaaGreatBck2
/- Package sign: the places at which names stand for the first time, in a map. -/
namespace Go.Proofs.YtnlgkkbmbijndaaGreat
open Go.RowKit Go.Maps Go.WideMaps
set_option linter.unusedVariables false
set_option linter.unusedSimpArgs false

def keyL (s : ByteArray) : Lit := .string s.data.toList
theorem keyL_inj {a b : ByteArray} (h : keyL a = keyL b) : a = b := by
  unfold keyL at h
  injection h with h
  exact bs_inj h
theorem find_snoc (s : ByteArray) : ∀ (l : List Par) (p : Par), findP s (l ++ [p]) = match findP s l with | some i => some i | none => if p.name = s then some l.length else none
  | [], p => by simp [findP]
  | q :: l, p => by
    rw [List.cons_append]
    simp only [findP]
    by_cases h : q.name = s
    · rw [if_pos h, if_pos h]
    · rw [if_neg h, if_neg h, find_snoc s l p]
      cases findP s l with
      | some i => rfl
      | none =>
        simp only [Option.map_none]
        split
        · rfl
        · rfl
theorem find_any (s : ByteArray) : ∀ (l : List Par), (findP s l).isSome = l.any fun q => decide (q.name = s)
  | [] => rfl
  | q :: l => by
    simp only [findP, List.any_cons]
    by_cases h : q.name = s
    · rw [if_pos h]; simp [h]
    · rw [if_neg h, Option.isSome_map, find_any s l]; simp [h]
theorem twice_snoc : ∀ (l : List Par) (p : Par), twiceP (l ++ [p]) = (twiceP l || (findP p.name l).isSome)
  | [], p => rfl
  | q :: l, p => by
    rw [List.cons_append]
    simp only [twiceP, List.any_append, List.any_cons, List.any_nil, twice_snoc l p, find_any]
    have e : decide (p.name = q.name) = decide (q.name = p.name) := by rw [decide_eq_decide]; exact eq_comm
    rw [e]
    cases (l.any fun r => decide (r.name = q.name)) <;> cases (twiceP l) <;> cases (decide (q.name = p.name)) <;> cases (l.any fun r => decide (r.name = p.name)) <;> rfl

/-- What the map holds behind these parameters. -/
structure Firsts (l : List Par) (D : DataW Unit) : Prop where
  has : ∀ s, Maps.has D (keyL s) = (findP s l).isSome
  val : ∀ s i z, findP s l = some i → D.atKey (keyL s) z = .lit (.int .i64 (i : Int))
  no : twiceP l = false → Maps.size D = l.length
  yes : twiceP l = true → Maps.size D < l.length
theorem firsts_nil : Firsts [] (.map []) := ⟨fun _ => rfl, fun s i z h => by simp [findP] at h, fun _ => rfl, fun h => by simp [twiceP] at h⟩
theorem firsts_old {l : List Par} {D : DataW Unit} (h : Firsts l D) {p : Par} (hh : Maps.has D (keyL p.name) = true) : Firsts (l ++ [p]) D := by
  have hp : (findP p.name l).isSome = true := by rw [← h.has]; exact hh
  have hf : ∀ s, findP s (l ++ [p]) = findP s l := fun s => by
    rw [find_snoc]
    cases e : findP s l with
    | some i => rfl
    | none =>
      simp only
      rw [if_neg]
      rintro rfl
      rw [e] at hp
      exact absurd hp (by decide)
  have hle : Maps.size D ≤ l.length := by
    cases e : twiceP l
    · exact Nat.le_of_eq (h.no e)
    · exact Nat.le_of_lt (h.yes e)
  refine ⟨fun s => by rw [hf]; exact h.has s, fun s i z e => h.val s i z (by rw [← hf]; exact e), fun e => ?_, fun e => ?_⟩
  · rw [twice_snoc, hp, Bool.or_true] at e
    exact absurd e (by decide)
  · simp only [List.length_append, List.length_cons, List.length_nil]; omega
theorem firsts_new {l : List Par} {D : DataW Unit} (h : Firsts l D) (ht : Tidy D) {p : Par} (hh : Maps.has D (keyL p.name) = false) : Firsts (l ++ [p]) (D.put (keyL p.name) (.lit (.int .i64 (l.length : Int)))) := by
  have hp : (findP p.name l).isSome = false := by rw [← h.has]; exact hh
  have hpn : findP p.name l = none := by simpa using hp
  have hsz : Maps.size (D.put (keyL p.name) (.lit (.int .i64 (l.length : Int)))) = Maps.size D + 1 := by rw [size_put ht, hh]; rfl
  refine ⟨fun s => ?_, fun s i z e => ?_, fun e => ?_, fun e => ?_⟩
  · by_cases hs : s = p.name
    · subst hs
      rw [has_put_same ht.isMap (show WideAt.IsKeyLit (keyL p.name) from trivial), find_snoc, hpn]
      simp
    · rw [has_put_other (fun e => hs (keyL_inj e)), h.has, find_snoc]
      cases e : findP s l with
      | some i => rfl
      | none => simp only; rw [if_neg (fun e => hs e.symm)]
  · by_cases hs : s = p.name
    · subst hs
      rw [find_snoc, hpn] at e
      simp at e
      subst e
      exact atKey_put_same ht.isMap (show WideAt.IsKeyLit (keyL p.name) from trivial) _ _
    · rw [atKey_put_other (fun e => hs (keyL_inj e))]
      refine h.val s i z ?_
      rw [find_snoc] at e
      cases e2 : findP s l with
      | some j => rw [e2] at e; exact e
      | none => rw [e2] at e; simp only at e; rw [if_neg (fun e => hs e.symm)] at e; exact absurd e (by simp)
  · rw [twice_snoc, hp, Bool.or_false] at e
    rw [hsz, h.no e]
    simp
  · rw [twice_snoc, hp, Bool.or_false] at e
    have := h.yes e
    rw [hsz]
    simp only [List.length_append, List.length_cons, List.length_nil]; omega

theorem lawK : Keyed Tryz.prog 9 := string_keyed Tryz.underlying9
theorem zeroI (w : World) : (zeroValue 3).run Tryz.prog w = .ok (.int .i64 0) w := by kernel_rfl
/-- A map from names to places, in block b. -/
def MapAt (w : World) (b n : Nat) (D : DataW Unit) : Prop := w.ownsMap Tryz.prog 9 (plainElem Tryz.prog 3) b n D
theorem MapAt.below {w w' : World} {b n : Nat} {D : DataW Unit} (h : MapAt w b n D) (k : Below w.heap.size w w') : MapAt w' b n D :=
  World.ownsMap.kept h (row := none) ⟨k.os, k.tape, k.output, k.size, fun j hj _ => k.block j hj⟩ (by simp)

set_option maxRecDepth 100000 in
set_option maxHeartbeats 2000000 in
theorem firsts_any (v : Value) (l : List Par) (hl : l.length ≤ 140737488351232) (hM : ∀ p ∈ l, p.name.size ≤ 140737488351232) (w : World) (hr : Rd w v l) :
    Calls Tryz.prog 97 #[v] w fun e w' => ∃ D, e = .returned (.map (some w.heap.size)) ∧ MapAt w' w.heap.size l.length D ∧ Firsts l D ∧ Below w.heap.size w w' := by
  obtain ⟨p, c, rfl, hr⟩ := hr
  obtain ⟨n, hn⟩ : ∃ n, l.length = n := ⟨_, rfl⟩
  rw [hn] at hl ⊢
  have HN : Hid (l.length = n) := hn
  have HR : Hid (Row w p l) := hr
  have HM : Hid (∀ p ∈ l, p.name.size ≤ 140737488351232) := hM
  clear hn hr hM
  have hmm := @run_makeMap Tryz.prog
  go_enter Tryz.func97, Tryz.ntmps97
  go_wp2
  go_loopw [11] (fun iv wr => Below w.heap.size w wr ∧ ∃ j : Nat, j ≤ n ∧ iv = .int .i64 j ∧ ∃ D, Hid (MapAt wr w.heap.size j D ∧ Firsts (l.take j) D)) (fun iv _ => n - (intOf iv).toNat)
  case atStart => exact ⟨bel_alloc _ _, 0, Nat.zero_le _, rfl, .map [], World.ownsMap_made _ _ _ _, firsts_nil⟩
  case round =>
    obtain ⟨hb, j, hj, rfl, D, hD⟩ := hrel
    by_cases hlt : j < n
    · have hll : j < l.length := by rw [HN.out]; exact hlt
      obtain ⟨b, o, rfl, hx⟩ := HR.out.at hll
      obtain ⟨x0, x1, x2⟩ := hx.below hb
      have i1 : (0 : Int) ≤ (j : Int) := by omega
      have i2 : (j : Int) < (n : Int) := by omega
      have hkey : keyOf Tryz.prog 9 (.string l[j].name) = some (keyL l[j].name) := keyOf_string_mk Tryz.underlying9 (by have := HM.out _ (List.getElem_mem hll); unfold maxLen; omega)
      have HT : Hid (l.take (j + 1) = l.take j ++ [l[j]] ∧ (l.take j).length = j) := ⟨take_succ hll, by rw [List.length_take]; omega⟩
      have hwf : (Lit.int .i64 (j : Int)).wf = true := WalkArith.wf_i64 (by omega)
      have hown : Hid (MapAt (wr.alloc (.cells #[.string l[j].name, .int .i64 l[j].kind, .int .i64 l[j].len] 59)) w.heap.size j D) := hD.out.1.below (bel_alloc _ _)
      have HF : Hid (Firsts (l.take j) D) := hD.out.2
      clear hD hx
      cases hsn : Maps.has D (keyL l[j].name)
      · have HS : Hid (Maps.has D (keyL l[j].name) = false) := hsn
        have tok : True := trivial
        clear hsn
        go_wp2_with (first
          | (at_lookup; have _t := tok; refine wpList_lookup_own_ok_int _ rfl _ _ 164 rfl 9 3 .i64 lawK Tryz.underlying164 Tryz.underlying3 (zeroI _) w.heap.size j D rfl hown.out _ _ rfl hkey ?_; intro c hat hwc; rw [HS.out]; clear hat hwc tok)
          | (at_mapUpdate; refine wpList_mapUpdate_own _ rfl _ _ _ 164 rfl 9 3 lawK Tryz.underlying164 _ w.heap.size j D rfl hown.out (by unfold maxLen; omega) _ _ _ rfl rfl hkey _ [] (plainElem_int Tryz.underlying3 hwf) ?_; intro w1 hown1 hgrow1; have H1 : Hid (MapAt w1 w.heap.size (j + 1) (D.put (keyL l[j].name) (.lit (.int .i64 (j : Int)))) ∧ World.grownBy _ w1 (some w.heap.size)) := ⟨hown1, hgrow1⟩; clear hown1 hgrow1))
        go_roundw
        case rel =>
          refine ⟨?_, j + 1, by omega, by go_num, _, H1.out.1, ?_⟩
          · exact Below.grown (bel hb (bel_alloc _ _)) H1.out.2 (by have := hb.size; simp; omega) (fun k e => by cases e; exact Nat.le_refl _)
          · rw [HT.out.1]
            have := firsts_new HF.out (World.ownsMap.tidy hown.out lawK) HS.out
            rw [HT.out.2] at this
            exact this
        case measure => simp [intOf]; omega
      · have HS : Hid (Maps.has D (keyL l[j].name) = true) := hsn
        clear hsn
        go_wp2_with (at_lookup; refine wpList_lookup_own_ok_int _ rfl _ _ 164 rfl 9 3 .i64 lawK Tryz.underlying164 Tryz.underlying3 (zeroI _) w.heap.size j D rfl hown.out _ _ rfl hkey ?_; intro c hat hwc; rw [HS.out]; clear hat hwc)
        go_roundw
        case rel =>
          refine ⟨bel hb (bel_alloc _ _), j + 1, by omega, by go_num, D, World.ownsMap.mono hown.out (Nat.le_succ _), ?_⟩
          rw [HT.out.1]
          exact firsts_old HF.out HS.out
        case measure => simp [intOf]; omega
    · have : j = n := by omega
      subst this
      have HF : Hid (MapAt wr w.heap.size j D ∧ Firsts l D) := ⟨hD.out.1, by have := hD.out.2; rw [List.take_of_length_le (by rw [HN.out]; exact Nat.le_refl _)] at this; exact this⟩
      clear hD
      go_wp2
      go_ret
      exact ⟨D, rfl, HF.out.1, HF.out.2, hb⟩

end Go.Proofs.YtnlgkkbmbijndaaGreat
/- Package sign: Find and Check. -/
namespace Go.Proofs.YtnlgkkbmbijndaaGreat
open Go.RowKit Go.Maps Go.WideMaps
set_option linter.unusedVariables false
set_option linter.unusedSimpArgs false

set_option maxRecDepth 100000 in
set_option maxHeartbeats 1000000 in
theorem sCheck_any (v : Value) (l : List Par) (hl : l.length ≤ 140737488351232) (hM : ∀ p ∈ l, p.name.size ≤ 140737488351232) (w : World) (hr : Rd w v l) :
    Calls Tryz.prog 71 #[v] w fun e w' => e = .returned (.int .i64 (checkP l)) ∧ Below w.heap.size w w' := by
  have K1 := contains_any v l hl hM w hr
  have K2 := fun w h => firsts_any v l hl hM w h
  have K3 := fun w h => sTotal_any v l hl hM w h
  have HR : Hid (Rd w v l) := hr
  have htb := tot_bounds l
  unfold checkP
  obtain ⟨p, c, rfl, _⟩ := hr
  obtain ⟨n, hn⟩ : ∃ n, l.length = n := ⟨_, rfl⟩
  obtain ⟨N, hN⟩ : ∃ N, l.all mayP = N := ⟨_, rfl⟩
  obtain ⟨T, hT⟩ : ∃ T, totP l = T := ⟨_, rfl⟩
  rw [hn] at K1 K2 K3 HR hl htb ⊢
  rw [hN] at K1 ⊢
  rw [hT] at htb ⊢
  simp only [hT] at K3
  have HK1 : Hid (Calls Tryz.prog 95 #[.slice p n c, .func (.func 96) #[] #[]] w fun e w' => e = .returned (.bool (!N)) ∧ Below w.heap.size w w') := K1
  have HK2 : Hid (∀ w, Rd w (.slice p n c) l → Calls Tryz.prog 97 #[.slice p n c] w fun e w' => ∃ D, e = .returned (.map (some w.heap.size)) ∧ MapAt w' w.heap.size n D ∧ Firsts l D ∧ Below w.heap.size w w') := K2
  have HK3 : Hid (∀ w, Rd w (.slice p n c) l → Calls Tryz.prog 98 #[.slice p n c] w fun e w' => e = .returned (.int .i64 T) ∧ Below w.heap.size w w') := K3
  have HN : Hid (l.length = n) := hn
  clear K1 K2 K3 hN hT hM hn
  by_cases h64 : n > 64
  · have h64' : (64 : Int) < (n : Int) := by omega
    rw [if_pos h64]
    clear h64
    go_enter Tryz.func71, Tryz.ntmps71
    go_wp2
    all_goals (go_ret; exact ⟨rfl, bel0 w⟩)
  · have h64' : ¬ (64 : Int) < (n : Int) := by omega
    rw [if_neg h64]
    clear h64
    cases N
    · rw [if_pos rfl]
      go_enter Tryz.func71, Tryz.ntmps71
      go_wp2_with (go_at_call 95; refine HK1.out.mono ?_; rintro e w1 ⟨rfl, hb1⟩)
      all_goals (go_ret; exact ⟨rfl, hb1⟩)
    · rw [if_neg (by decide)]
      cases htw : twiceP l
      · rw [if_neg (by decide)]
        have HW : Hid (twiceP l = false) := htw
        clear htw
        by_cases h3 : T > 65536
        · rw [if_pos h3]
          have h3' : (65536 : Int) < T := by omega
          go_enter Tryz.func71, Tryz.ntmps71
          go_wp2_with (first
            | (go_at_call 95; refine HK1.out.mono ?_; rintro e w1 ⟨rfl, hb1⟩)
            | (go_at_call 97; refine (HK2.out _ (HR.out.below hb1)).mono ?_; rintro e w2 ⟨D, rfl, hm, hf, hb2⟩; have HM1 : Hid (MapAt w2 w1.heap.size n D) := hm; have hs : Maps.size D = n := (by rw [hf.no HW.out, HN.out]); have hs2 : ¬ ((Maps.size D : Int) < (n : Int)) := (by omega); have HS : Hid (¬ ((Maps.size D : Int) < (n : Int))) := hs2; clear hm hf hs)
            | (have _t := HM1; at_len; refine wpList_len_own _ rfl _ 164 rfl 9 3 Tryz.underlying164 _ w1.heap.size n D rfl HM1.out ?_; clear HM1)
            | (go_at_call 98; refine (HK3.out _ (HR.out.below (bel hb1 hb2))).mono ?_; rintro e w3 ⟨rfl, hb3⟩))
          all_goals (go_ret; exact ⟨rfl, bel (bel hb1 hb2) hb3⟩)
        · rw [if_neg h3]
          have h3' : ¬ (65536 : Int) < T := by omega
          go_enter Tryz.func71, Tryz.ntmps71
          go_wp2_with (first
            | (go_at_call 95; refine HK1.out.mono ?_; rintro e w1 ⟨rfl, hb1⟩)
            | (go_at_call 97; refine (HK2.out _ (HR.out.below hb1)).mono ?_; rintro e w2 ⟨D, rfl, hm, hf, hb2⟩; have HM1 : Hid (MapAt w2 w1.heap.size n D) := hm; have hs : Maps.size D = n := (by rw [hf.no HW.out, HN.out]); have hs2 : ¬ ((Maps.size D : Int) < (n : Int)) := (by omega); have HS : Hid (¬ ((Maps.size D : Int) < (n : Int))) := hs2; clear hm hf hs)
            | (have _t := HM1; at_len; refine wpList_len_own _ rfl _ 164 rfl 9 3 Tryz.underlying164 _ w1.heap.size n D rfl HM1.out ?_; clear HM1)
            | (go_at_call 98; refine (HK3.out _ (HR.out.below (bel hb1 hb2))).mono ?_; rintro e w3 ⟨rfl, hb3⟩))
          all_goals (go_ret; exact ⟨rfl, bel (bel hb1 hb2) hb3⟩)
      · rw [if_pos rfl]
        have HW : Hid (twiceP l = true) := htw
        clear htw
        go_enter Tryz.func71, Tryz.ntmps71
        go_wp2_with (first
          | (go_at_call 95; refine HK1.out.mono ?_; rintro e w1 ⟨rfl, hb1⟩)
          | (go_at_call 97; refine (HK2.out _ (HR.out.below hb1)).mono ?_; rintro e w2 ⟨D, rfl, hm, hf, hb2⟩; have HM1 : Hid (MapAt w2 w1.heap.size n D) := hm; have hs : Maps.size D < n := (by have := hf.yes HW.out; rw [HN.out] at this; exact this); have hs2 : (Maps.size D : Int) < (n : Int) := (by omega); clear hm hf hs)
          | (have _t := HM1; at_len; refine wpList_len_own _ rfl _ 164 rfl 9 3 Tryz.underlying164 _ w1.heap.size n D rfl HM1.out ?_; clear HM1))
        all_goals (go_ret; exact ⟨rfl, bel hb1 hb2⟩)

end Go.Proofs.YtnlgkkbmbijndaaGreat
/- Package ir: what stands ahead of the instructions. -/
namespace Go.Proofs.YtnlgkkbmbijndaaGreat
open Go.RowKit
set_option linter.unusedVariables false
set_option linter.unusedSimpArgs false

set_option maxRecDepth 100000 in
set_option maxHeartbeats 2000000 in
theorem typesMayBe_any (C : Nat) (v0 v1 v2 v3 : Value) (c : Cd) (hk : CdOk c) (w : World) (hc : CdAt w C v0 v1 v2 v3 c) :
    Calls Tryz.prog 72 #[.pointer (some ⟨C, 0, none⟩)] w fun e w' => e = .returned (.bool (typesMay c)) ∧ Below w.heap.size w w' := by
  obtain ⟨hcc, hcv⟩ := hc
  have c0 := hcc.at 0 rfl
  have c1 := hcc.at 1 rfl
  rw [Nat.zero_add] at c0 c1
  have hC := mcell_lt c0
  simp only at hC
  have hr := hcv.regs
  obtain ⟨p, q, rfl, hrr⟩ := hcv.regs
  obtain ⟨p0, q0, rfl, hrr0⟩ := hcv.sign
  have HB := hk.regsL
  have HB0 := hk.signL
  unfold typesMay
  obtain ⟨M, hM⟩ : ∃ M, c.sign.length = M := ⟨_, rfl⟩
  rw [hM] at c0 HB0 ⊢
  obtain ⟨l, hl⟩ : ∃ l, c.regs = l := ⟨_, rfl⟩
  rw [hl] at c1 hr HB ⊢
  obtain ⟨N, hN⟩ : ∃ N, l.length = N := ⟨_, rfl⟩
  have HN : Hid (l.length = N) := hN
  rw [hN] at c1 hr HB
  have HR : Hid (RowG 2 tyC w (.slice p N q) l) := hr
  clear hl hM hN hr hrr hrr0 hcc hcv hk
  go_enter Tryz.func72, Tryz.ntmps72
  go_wp2
  go_loopw [10] (fun iv wr => Below w.heap.size w wr ∧ ∃ j : Nat, j ≤ N ∧ iv = .int .i64 j ∧ Hid (∀ i (h : i < l.length), i < j → typeMay l[i] M = true)) (fun iv _ => N - (intOf iv).toNat)
  case atStart => exact ⟨bel0 w, 0, Nat.zero_le _, rfl, fun i h hi => absurd hi (Nat.not_lt_zero _)⟩
  case round =>
    obtain ⟨hb, j, hj, rfl, hp⟩ := hrel
    by_cases hlt : j < N
    · have hll : j < l.length := by rw [HN.out]; exact hlt
      obtain ⟨b, o, rfl, hx⟩ := HR.out.at hll
      have hx' := hx.below hb
      have x0 := hx'.at 0 rfl
      have x1 := hx'.at 1 rfl
      rw [Nat.add_zero] at x0
      have z0 := kc hb c0
      have hC2 := mcell_lt z0
      have hb2 := mcell_lt x0
      simp only at hC2 hb2
      have n1 : C ≠ wr.heap.size := by omega
      have n2 : b ≠ wr.heap.size := by omega
      have i1 : (0 : Int) ≤ (j : Int) := by omega
      have i2 : (j : Int) < (N : Int) := by omega
      have KN := typeMayBe_any l[j] p0 M q0 HB0
      have NX : Hid (typeMay l[j] M = true → ∀ i (h : i < l.length), i < j + 1 → typeMay l[i] M = true) := fun hq i h hi => by
        by_cases e : i = j
        · subst e; exact hq
        · exact hp.out i h (by omega)
      have NB : Hid (typeMay l[j] M = false → (l.all fun t => typeMay t M) = false) := fun h => List.all_eq_false.2 ⟨l[j], List.getElem_mem hll, by rw [h]; decide⟩
      obtain ⟨T, hT⟩ : ∃ T, l[j] = T := ⟨_, rfl⟩
      rw [hT] at x0 x1 KN NX NB
      obtain ⟨X, hX⟩ : ∃ X, typeMay T M = X := ⟨_, rfl⟩
      rw [hX] at NX NB
      simp only [hX] at KN
      obtain ⟨K, P⟩ := T
      unfold tyV at KN
      simp only at x0 x1 KN
      have HK : Hid (∀ w, Calls Tryz.prog 99 #[.agg #[.int .i64 K, .int .i64 P], .slice p0 M q0] w fun e w' => e = .returned (.bool X) ∧ Below w.heap.size w w') := KN
      have HC : Hid (∀ v, Below (wr.alloc (.cells #[.int .i64 K, .int .i64 P] 62)).heap.size (wr.alloc (.cells #[.int .i64 K, .int .i64 P] 62)) v → v.cell? ⟨C, 0, none⟩ = some (.slice p0 M q0) ∧ v.cell? ⟨wr.heap.size, 0, none⟩ = some (.int .i64 K) ∧ v.cell? ⟨wr.heap.size, 1, none⟩ = some (.int .i64 P)) :=
        fun v hv => ⟨kc hv (kc (bel_alloc _ _) z0), kc hv (by simp [go_sem]), kc hv (by simp [go_sem])⟩
      have f1 := (HC.out _ (bel0 _)).1
      clear KN hT hX hp hx hx'
      cases X
      · go_wp2
        refine wp_region_held_drew (S := (fun v => v.cell? ⟨C, 0, none⟩ = some (.slice p0 M q0) ∧ v.cell? ⟨wr.heap.size, 0, none⟩ = some (.int .i64 K) ∧ v.cell? ⟨wr.heap.size, 1, none⟩ = some (.int .i64 P))) (by kernel_rfl) ?_ (fun hHeld => ?_)
        · ((try dsimp only); go_keep)
        refine wpAnyH_take (i := 0) (v := ?_) (by simp only [List.getElem?_toArray, List.getElem?_cons_succ, List.getElem?_cons_zero]; rfl) (by kernel_rfl) (by kernel_rfl) (by kernel_rfl) (by exact fun _ _ _ h => h) (Or.inl ⟨by rfl, ?_⟩) (by assumption) ?_
        rotate_left 1
        · (intro wS hSw; (try dsimp only at hSw); go_simp; try (with_reducible rfl))
        try simp only [Act.put, List.setIfInBounds_toArray, List.set_cons_zero, List.set_cons_succ]
        refine wpAnyH_take (i := 1) (v := ?_) (by simp only [List.getElem?_toArray, List.getElem?_cons_succ, List.getElem?_cons_zero]; rfl) (by kernel_rfl) (by kernel_rfl) (by kernel_rfl) (by exact fun _ _ _ h => h) (Or.inl ⟨by rfl, ?_⟩) (by assumption) ?_
        rotate_left 1
        · (intro wS hSw; (try dsimp only at hSw); go_simp; try (with_reducible rfl))
        try simp only [Act.put, List.setIfInBounds_toArray, List.set_cons_zero, List.set_cons_succ]
        refine wpAnyH_take (i := 2) (v := ?_) (by simp only [List.getElem?_toArray, List.getElem?_cons_succ, List.getElem?_cons_zero]; rfl) (by kernel_rfl) (by kernel_rfl) (by kernel_rfl) (by exact fun _ _ _ h => h) (Or.inl ⟨by rfl, ?_⟩) (by assumption) ?_
        rotate_left 1
        · (intro wS hSw; (try dsimp only at hSw); go_simp; try (with_reducible rfl))
        try simp only [Act.put, List.setIfInBounds_toArray, List.set_cons_zero, List.set_cons_succ]
        refine wpAnyH_take (i := 3) (v := ?_) (by simp only [List.getElem?_toArray, List.getElem?_cons_succ, List.getElem?_cons_zero]; rfl) (by kernel_rfl) (by kernel_rfl) (by kernel_rfl) (by exact fun _ _ _ h => h) (Or.inl ⟨by rfl, ?_⟩) (by assumption) ?_
        rotate_left 1
        · (intro wS hSw; (try dsimp only at hSw); go_simp; try (with_reducible rfl))
        try simp only [Act.put, List.setIfInBounds_toArray, List.set_cons_zero, List.set_cons_succ]
        refine wpAnyH_take (i := 4) (v := ?_) (by simp only [List.getElem?_toArray, List.getElem?_cons_succ, List.getElem?_cons_zero]; rfl) (by kernel_rfl) (by kernel_rfl) (by kernel_rfl) (by exact fun _ _ _ h => h) (Or.inl ⟨by rfl, ?_⟩) (by assumption) ?_
        rotate_left 1
        · (intro wS hSw; (try dsimp only at hSw); go_simp; try (with_reducible rfl))
        try simp only [Act.put, List.setIfInBounds_toArray, List.set_cons_zero, List.set_cons_succ]
        clear hHeld
        refine wpAnyH_ready (rs := [5]) (by kernel_rfl) (by simp) ?_
        refine AllReadyH.cons (i := 5) (by simp only [List.getElem?_toArray, List.getElem?_cons_succ, List.getElem?_cons_zero]; rfl) (fun K hK => ?_) AllReadyH.nil
        go_simp
        (go_at_call 99; refine (HK.out _).mono ?_; rintro e w1 ⟨rfl, hb1⟩; have HB1 := bel (bel_d _) hb1; obtain ⟨y0, y1, y2⟩ := HC.out w1 HB1)
        try (go_wp2_with fail)
        refine hK.out _ _ ?_ (fun hHeld => ?_)
        · ((try dsimp only); go_keep)
        clear hK K
        try simp only [Act.put, List.setIfInBounds_toArray, List.set_cons_zero, List.set_cons_succ]
        refine wpAnyH_take (i := 6) (v := ?_) (by simp only [List.getElem?_toArray, List.getElem?_cons_succ, List.getElem?_cons_zero]; rfl) (by kernel_rfl) (by kernel_rfl) (by kernel_rfl) (by exact fun _ _ _ h => h) (Or.inl ⟨by rfl, ?_⟩) (by assumption) ?_
        rotate_left 1
        · (intro wS hSw; (try dsimp only at hSw); go_simp; try (with_reducible rfl))
        try simp only [Act.put, List.setIfInBounds_toArray, List.set_cons_zero, List.set_cons_succ]
        refine wpAnyH_done (by kernel_rfl) ?_ _
        go_wp2
        go_ret
        exact ⟨ret_bool (NB.out (by simp)).symm, bel hb (bel (bel_alloc _ _) HB1)⟩
      · go_wp2
        refine wp_region_held_drew (S := (fun v => v.cell? ⟨C, 0, none⟩ = some (.slice p0 M q0) ∧ v.cell? ⟨wr.heap.size, 0, none⟩ = some (.int .i64 K) ∧ v.cell? ⟨wr.heap.size, 1, none⟩ = some (.int .i64 P))) (by kernel_rfl) ?_ (fun hHeld => ?_)
        · ((try dsimp only); go_keep)
        refine wpAnyH_take (i := 0) (v := ?_) (by simp only [List.getElem?_toArray, List.getElem?_cons_succ, List.getElem?_cons_zero]; rfl) (by kernel_rfl) (by kernel_rfl) (by kernel_rfl) (by exact fun _ _ _ h => h) (Or.inl ⟨by rfl, ?_⟩) (by assumption) ?_
        rotate_left 1
        · (intro wS hSw; (try dsimp only at hSw); go_simp; try (with_reducible rfl))
        try simp only [Act.put, List.setIfInBounds_toArray, List.set_cons_zero, List.set_cons_succ]
        refine wpAnyH_take (i := 1) (v := ?_) (by simp only [List.getElem?_toArray, List.getElem?_cons_succ, List.getElem?_cons_zero]; rfl) (by kernel_rfl) (by kernel_rfl) (by kernel_rfl) (by exact fun _ _ _ h => h) (Or.inl ⟨by rfl, ?_⟩) (by assumption) ?_
        rotate_left 1
        · (intro wS hSw; (try dsimp only at hSw); go_simp; try (with_reducible rfl))
        try simp only [Act.put, List.setIfInBounds_toArray, List.set_cons_zero, List.set_cons_succ]
        refine wpAnyH_take (i := 2) (v := ?_) (by simp only [List.getElem?_toArray, List.getElem?_cons_succ, List.getElem?_cons_zero]; rfl) (by kernel_rfl) (by kernel_rfl) (by kernel_rfl) (by exact fun _ _ _ h => h) (Or.inl ⟨by rfl, ?_⟩) (by assumption) ?_
        rotate_left 1
        · (intro wS hSw; (try dsimp only at hSw); go_simp; try (with_reducible rfl))
        try simp only [Act.put, List.setIfInBounds_toArray, List.set_cons_zero, List.set_cons_succ]
        refine wpAnyH_take (i := 3) (v := ?_) (by simp only [List.getElem?_toArray, List.getElem?_cons_succ, List.getElem?_cons_zero]; rfl) (by kernel_rfl) (by kernel_rfl) (by kernel_rfl) (by exact fun _ _ _ h => h) (Or.inl ⟨by rfl, ?_⟩) (by assumption) ?_
        rotate_left 1
        · (intro wS hSw; (try dsimp only at hSw); go_simp; try (with_reducible rfl))
        try simp only [Act.put, List.setIfInBounds_toArray, List.set_cons_zero, List.set_cons_succ]
        refine wpAnyH_take (i := 4) (v := ?_) (by simp only [List.getElem?_toArray, List.getElem?_cons_succ, List.getElem?_cons_zero]; rfl) (by kernel_rfl) (by kernel_rfl) (by kernel_rfl) (by exact fun _ _ _ h => h) (Or.inl ⟨by rfl, ?_⟩) (by assumption) ?_
        rotate_left 1
        · (intro wS hSw; (try dsimp only at hSw); go_simp; try (with_reducible rfl))
        try simp only [Act.put, List.setIfInBounds_toArray, List.set_cons_zero, List.set_cons_succ]
        clear hHeld
        refine wpAnyH_ready (rs := [5]) (by kernel_rfl) (by simp) ?_
        refine AllReadyH.cons (i := 5) (by simp only [List.getElem?_toArray, List.getElem?_cons_succ, List.getElem?_cons_zero]; rfl) (fun K hK => ?_) AllReadyH.nil
        go_simp
        (go_at_call 99; refine (HK.out _).mono ?_; rintro e w1 ⟨rfl, hb1⟩; have HB1 := bel (bel_d _) hb1; obtain ⟨y0, y1, y2⟩ := HC.out w1 HB1)
        try (go_wp2_with fail)
        refine hK.out _ _ ?_ (fun hHeld => ?_)
        · ((try dsimp only); go_keep)
        clear hK K
        try simp only [Act.put, List.setIfInBounds_toArray, List.set_cons_zero, List.set_cons_succ]
        refine wpAnyH_take (i := 6) (v := ?_) (by simp only [List.getElem?_toArray, List.getElem?_cons_succ, List.getElem?_cons_zero]; rfl) (by kernel_rfl) (by kernel_rfl) (by kernel_rfl) (by exact fun _ _ _ h => h) (Or.inl ⟨by rfl, ?_⟩) (by assumption) ?_
        rotate_left 1
        · (intro wS hSw; (try dsimp only at hSw); go_simp; try (with_reducible rfl))
        try simp only [Act.put, List.setIfInBounds_toArray, List.set_cons_zero, List.set_cons_succ]
        refine wpAnyH_done (by kernel_rfl) ?_ _
        go_wp2
        go_roundw
        case rel => exact ⟨bel hb (bel (bel_alloc _ _) HB1), j + 1, by omega, by go_num, NX.out (by simp)⟩
        case measure => simp [intOf]; omega
    · have : j = N := by omega
      subst this
      have HF : Hid ((l.all fun t => typeMay t M) = true) := List.all_eq_true.2 fun t ht => by
        obtain ⟨i, hi, rfl⟩ := List.mem_iff_getElem.1 ht
        exact hp.out i hi (by rw [← HN.out]; exact hi)
      clear hp
      go_wp2
      go_ret
      exact ⟨ret_bool HF.out.symm, hb⟩

set_option maxRecDepth 100000 in
set_option maxHeartbeats 2000000 in
theorem slotsMayBe_any (C : Nat) (v0 v1 v2 v3 : Value) (c : Cd) (hk : CdOk c) (w : World) (hc : CdAt w C v0 v1 v2 v3 c) :
    Calls Tryz.prog 73 #[.pointer (some ⟨C, 0, none⟩)] w fun e w' => e = .returned (.bool (slotsMay c)) ∧ Below w.heap.size w w' := by
  obtain ⟨hcc, hcv⟩ := hc
  have c0 := hcc.at 0 rfl
  have c1 := hcc.at 2 rfl
  rw [Nat.zero_add] at c0 c1
  have hC := mcell_lt c0
  simp only at hC
  have hr := hcv.slots
  obtain ⟨p, q, rfl, hrr⟩ := hcv.slots
  obtain ⟨p0, q0, rfl, hrr0⟩ := hcv.sign
  have HB := hk.slotsL
  have HB0 := hk.signL
  have HSB : Hid (∀ s ∈ c.slots, 0 ≤ s.bits ∧ s.bits < 4294967296) := hk.sbits
  unfold slotsMay
  obtain ⟨M, hM⟩ : ∃ M, c.sign.length = M := ⟨_, rfl⟩
  rw [hM] at c0 HB0 ⊢
  obtain ⟨l, hl⟩ : ∃ l, c.slots = l := ⟨_, rfl⟩
  rw [hl] at c1 hr HB HSB ⊢
  obtain ⟨N, hN⟩ : ∃ N, l.length = N := ⟨_, rfl⟩
  have HN : Hid (l.length = N) := hN
  rw [hN] at c1 hr HB
  have HR : Hid (RowG 5 slC w (.slice p N q) l) := hr
  clear hl hM hN hr hrr hrr0 hcc hcv hk
  go_enter Tryz.func73, Tryz.ntmps73
  go_wp2
  go_loopw [10] (fun iv wr => Below w.heap.size w wr ∧ ∃ j : Nat, j ≤ N ∧ iv = .int .i64 j ∧ Hid (∀ i (h : i < l.length), i < j → slotMay l[i] M = true)) (fun iv _ => N - (intOf iv).toNat)
  case atStart => exact ⟨bel0 w, 0, Nat.zero_le _, rfl, fun i h hi => absurd hi (Nat.not_lt_zero _)⟩
  case round =>
    obtain ⟨hb, j, hj, rfl, hp⟩ := hrel
    by_cases hlt : j < N
    · have hll : j < l.length := by rw [HN.out]; exact hlt
      obtain ⟨b, o, rfl, hx⟩ := HR.out.at hll
      have hx' := hx.below hb
      have x0 := hx'.at 0 rfl
      have x1 := hx'.at 1 rfl
      have x2 := hx'.at 2 rfl
      have x3 := hx'.at 3 rfl
      have x4 := hx'.at 4 rfl
      rw [Nat.add_zero] at x0
      have z0 := kc hb c0
      have hC2 := mcell_lt z0
      have hb2 := mcell_lt x0
      simp only at hC2 hb2
      have n1 : C ≠ wr.heap.size := by omega
      have n2 : b ≠ wr.heap.size := by omega
      have i1 : (0 : Int) ≤ (j : Int) := by omega
      have i2 : (j : Int) < (N : Int) := by omega
      have KN := typeMayBe_any l[j].ty p0 M q0 HB0
      have KB := begins_any l[j] (HSB.out _ (List.getElem_mem hll)).1 (HSB.out _ (List.getElem_mem hll)).2
      have NX : Hid (slotMay l[j] M = true → ∀ i (h : i < l.length), i < j + 1 → slotMay l[i] M = true) := fun hq i h hi => by
        by_cases e : i = j
        · subst e; exact hq
        · exact hp.out i h (by omega)
      have NB : Hid (slotMay l[j] M = false → (l.all fun t => slotMay t M) = false) := fun h => List.all_eq_false.2 ⟨l[j], List.getElem_mem hll, by rw [h]; decide⟩
      obtain ⟨T, hT⟩ : ∃ T, l[j] = T := ⟨_, rfl⟩
      rw [hT] at x0 x1 x2 x3 x4 KN KB NX NB
      have hsm : slotMay T M = (typeMay T.ty M && begins T) := rfl
      rw [hsm] at NX NB
      obtain ⟨X, hX⟩ : ∃ X, typeMay T.ty M = X := ⟨_, rfl⟩
      obtain ⟨Y, hY⟩ : ∃ Y, begins T = Y := ⟨_, rfl⟩
      rw [hX, hY] at NX NB
      simp only [hX] at KN
      simp only [hY] at KB
      obtain ⟨⟨K, P⟩, Q, B, I⟩ := T
      unfold tyV at KN
      unfold slV at KB
      simp only at x0 x1 x2 x3 x4 KN KB
      have HK : Hid (∀ w, Calls Tryz.prog 99 #[.agg #[.int .i64 K, .int .i64 P], .slice p0 M q0] w fun e w' => e = .returned (.bool X) ∧ Below w.heap.size w w') := KN
      have HBW : Hid (∀ w, Calls Tryz.prog 100 #[.agg #[.int .i64 K, .int .i64 P, .bool Q, .int .u32 B, .int .i64 I]] w fun e w' => e = .returned (.bool Y) ∧ Below w.heap.size w w') := KB
      have HC : Hid (∀ v, Below (wr.alloc (.cells #[.int .i64 K, .int .i64 P, .bool Q, .int .u32 B, .int .i64 I] 66)).heap.size (wr.alloc (.cells #[.int .i64 K, .int .i64 P, .bool Q, .int .u32 B, .int .i64 I] 66)) v → v.cell? ⟨C, 0, none⟩ = some (.slice p0 M q0) ∧ v.cell? ⟨wr.heap.size, 0, none⟩ = some (.int .i64 K) ∧ v.cell? ⟨wr.heap.size, 1, none⟩ = some (.int .i64 P) ∧ v.cell? ⟨wr.heap.size, 2, none⟩ = some (.bool Q) ∧ v.cell? ⟨wr.heap.size, 3, none⟩ = some (.int .u32 B) ∧ v.cell? ⟨wr.heap.size, 4, none⟩ = some (.int .i64 I)) :=
        fun v hv => ⟨kc hv (kc (bel_alloc _ _) z0), kc hv (by simp [go_sem]), kc hv (by simp [go_sem]), kc hv (by simp [go_sem]), kc hv (by simp [go_sem]), kc hv (by simp [go_sem])⟩
      have f1 := (HC.out _ (bel0 _)).1
      clear KN KB hT hX hY hp hx hx' hsm
      cases X
      · go_wp2
        refine wp_region_held_drew (S := (fun v => v.cell? ⟨C, 0, none⟩ = some (.slice p0 M q0) ∧ v.cell? ⟨wr.heap.size, 0, none⟩ = some (.int .i64 K) ∧ v.cell? ⟨wr.heap.size, 1, none⟩ = some (.int .i64 P) ∧ v.cell? ⟨wr.heap.size, 2, none⟩ = some (.bool Q) ∧ v.cell? ⟨wr.heap.size, 3, none⟩ = some (.int .u32 B) ∧ v.cell? ⟨wr.heap.size, 4, none⟩ = some (.int .i64 I))) (by kernel_rfl) ?_ (fun hHeld => ?_)
        · ((try dsimp only); go_keep)
        refine wpAnyH_take (i := 0) (v := ?_) (by simp only [List.getElem?_toArray, List.getElem?_cons_succ, List.getElem?_cons_zero]; rfl) (by kernel_rfl) (by kernel_rfl) (by kernel_rfl) (by exact fun _ _ _ h => h) (Or.inl ⟨by rfl, ?_⟩) (by assumption) ?_
        rotate_left 1
        · (intro wS hSw; (try dsimp only at hSw); go_simp; try (with_reducible rfl))
        try simp only [Act.put, List.setIfInBounds_toArray, List.set_cons_zero, List.set_cons_succ]
        refine wpAnyH_take (i := 1) (v := ?_) (by simp only [List.getElem?_toArray, List.getElem?_cons_succ, List.getElem?_cons_zero]; rfl) (by kernel_rfl) (by kernel_rfl) (by kernel_rfl) (by exact fun _ _ _ h => h) (Or.inl ⟨by rfl, ?_⟩) (by assumption) ?_
        rotate_left 1
        · (intro wS hSw; (try dsimp only at hSw); go_simp; try (with_reducible rfl))
        try simp only [Act.put, List.setIfInBounds_toArray, List.set_cons_zero, List.set_cons_succ]
        refine wpAnyH_take (i := 2) (v := ?_) (by simp only [List.getElem?_toArray, List.getElem?_cons_succ, List.getElem?_cons_zero]; rfl) (by kernel_rfl) (by kernel_rfl) (by kernel_rfl) (by exact fun _ _ _ h => h) (Or.inl ⟨by rfl, ?_⟩) (by assumption) ?_
        rotate_left 1
        · (intro wS hSw; (try dsimp only at hSw); go_simp; try (with_reducible rfl))
        try simp only [Act.put, List.setIfInBounds_toArray, List.set_cons_zero, List.set_cons_succ]
        refine wpAnyH_take (i := 3) (v := ?_) (by simp only [List.getElem?_toArray, List.getElem?_cons_succ, List.getElem?_cons_zero]; rfl) (by kernel_rfl) (by kernel_rfl) (by kernel_rfl) (by exact fun _ _ _ h => h) (Or.inl ⟨by rfl, ?_⟩) (by assumption) ?_
        rotate_left 1
        · (intro wS hSw; (try dsimp only at hSw); go_simp; try (with_reducible rfl))
        try simp only [Act.put, List.setIfInBounds_toArray, List.set_cons_zero, List.set_cons_succ]
        refine wpAnyH_take (i := 4) (v := ?_) (by simp only [List.getElem?_toArray, List.getElem?_cons_succ, List.getElem?_cons_zero]; rfl) (by kernel_rfl) (by kernel_rfl) (by kernel_rfl) (by exact fun _ _ _ h => h) (Or.inl ⟨by rfl, ?_⟩) (by assumption) ?_
        rotate_left 1
        · (intro wS hSw; (try dsimp only at hSw); go_simp; try (with_reducible rfl))
        try simp only [Act.put, List.setIfInBounds_toArray, List.set_cons_zero, List.set_cons_succ]
        refine wpAnyH_take (i := 5) (v := ?_) (by simp only [List.getElem?_toArray, List.getElem?_cons_succ, List.getElem?_cons_zero]; rfl) (by kernel_rfl) (by kernel_rfl) (by kernel_rfl) (by exact fun _ _ _ h => h) (Or.inl ⟨by rfl, ?_⟩) (by assumption) ?_
        rotate_left 1
        · (intro wS hSw; (try dsimp only at hSw); go_simp; try (with_reducible rfl))
        try simp only [Act.put, List.setIfInBounds_toArray, List.set_cons_zero, List.set_cons_succ]
        clear hHeld
        refine wpAnyH_ready (rs := [6]) (by kernel_rfl) (by simp) ?_
        refine AllReadyH.cons (i := 6) (by simp only [List.getElem?_toArray, List.getElem?_cons_succ, List.getElem?_cons_zero]; rfl) (fun K hK => ?_) AllReadyH.nil
        go_simp
        (go_at_call 99; refine (HK.out _).mono ?_; rintro e w1 ⟨rfl, hb1⟩; have HB1 := bel (bel_d _) hb1; obtain ⟨y0, y1, y2, y3, y4, y5⟩ := HC.out w1 HB1)
        try (go_wp2_with fail)
        refine hK.out _ _ ?_ (fun hHeld => ?_)
        · ((try dsimp only); go_keep)
        clear hK K
        try simp only [Act.put, List.setIfInBounds_toArray, List.set_cons_zero, List.set_cons_succ]
        refine wpAnyH_take (i := 7) (v := ?_) (by simp only [List.getElem?_toArray, List.getElem?_cons_succ, List.getElem?_cons_zero]; rfl) (by kernel_rfl) (by kernel_rfl) (by kernel_rfl) (by exact fun _ _ _ h => h) (Or.inl ⟨by rfl, ?_⟩) (by assumption) ?_
        rotate_left 1
        · (intro wS hSw; (try dsimp only at hSw); go_simp; try (with_reducible rfl))
        try simp only [Act.put, List.setIfInBounds_toArray, List.set_cons_zero, List.set_cons_succ]
        refine wpAnyH_take (i := 8) (v := ?_) (by simp only [List.getElem?_toArray, List.getElem?_cons_succ, List.getElem?_cons_zero]; rfl) (by kernel_rfl) (by kernel_rfl) (by kernel_rfl) (by exact fun _ _ _ h => h) (Or.inl ⟨by rfl, ?_⟩) (by assumption) ?_
        rotate_left 1
        · (intro wS hSw; (try dsimp only at hSw); go_simp; try (with_reducible rfl))
        try simp only [Act.put, List.setIfInBounds_toArray, List.set_cons_zero, List.set_cons_succ]
        refine wpAnyH_take (i := 9) (v := undef) (by simp only [List.getElem?_toArray, List.getElem?_cons_succ, List.getElem?_cons_zero]; rfl) (by kernel_rfl) (by kernel_rfl) (by kernel_rfl) (by exact fun _ _ _ h => h) (Or.inr ⟨by rfl, rfl⟩) (by assumption) ?_
        try simp only [Act.put, List.setIfInBounds_toArray, List.set_cons_zero, List.set_cons_succ]
        refine wpAnyH_take (i := 10) (v := undef) (by simp only [List.getElem?_toArray, List.getElem?_cons_succ, List.getElem?_cons_zero]; rfl) (by kernel_rfl) (by kernel_rfl) (by kernel_rfl) (by exact fun _ _ _ h => h) (Or.inr ⟨by rfl, rfl⟩) (by assumption) ?_
        try simp only [Act.put, List.setIfInBounds_toArray, List.set_cons_zero, List.set_cons_succ]
        refine wpAnyH_take (i := 11) (v := undef) (by simp only [List.getElem?_toArray, List.getElem?_cons_succ, List.getElem?_cons_zero]; rfl) (by kernel_rfl) (by kernel_rfl) (by kernel_rfl) (by exact fun _ _ _ h => h) (Or.inr ⟨by rfl, rfl⟩) (by assumption) ?_
        try simp only [Act.put, List.setIfInBounds_toArray, List.set_cons_zero, List.set_cons_succ]
        refine wpAnyH_take (i := 12) (v := ?_) (by simp only [List.getElem?_toArray, List.getElem?_cons_succ, List.getElem?_cons_zero]; rfl) (by kernel_rfl) (by kernel_rfl) (by kernel_rfl) (by exact fun _ _ _ h => h) (Or.inl ⟨by rfl, ?_⟩) (by assumption) ?_
        rotate_left 1
        · (intro wS hSw; (try dsimp only at hSw); go_simp; try (with_reducible rfl))
        try simp only [Act.put, List.setIfInBounds_toArray, List.set_cons_zero, List.set_cons_succ]
        refine wpAnyH_done (by kernel_rfl) ?_ _
        go_wp2
        go_ret
        exact ⟨ret_bool (NB.out (by simp)).symm, bel hb (bel (bel_alloc _ _) HB1)⟩
      · cases Y
        · go_wp2
          refine wp_region_held_drew (S := (fun v => v.cell? ⟨C, 0, none⟩ = some (.slice p0 M q0) ∧ v.cell? ⟨wr.heap.size, 0, none⟩ = some (.int .i64 K) ∧ v.cell? ⟨wr.heap.size, 1, none⟩ = some (.int .i64 P) ∧ v.cell? ⟨wr.heap.size, 2, none⟩ = some (.bool Q) ∧ v.cell? ⟨wr.heap.size, 3, none⟩ = some (.int .u32 B) ∧ v.cell? ⟨wr.heap.size, 4, none⟩ = some (.int .i64 I))) (by kernel_rfl) ?_ (fun hHeld => ?_)
          · ((try dsimp only); go_keep)
          refine wpAnyH_take (i := 0) (v := ?_) (by simp only [List.getElem?_toArray, List.getElem?_cons_succ, List.getElem?_cons_zero]; rfl) (by kernel_rfl) (by kernel_rfl) (by kernel_rfl) (by exact fun _ _ _ h => h) (Or.inl ⟨by rfl, ?_⟩) (by assumption) ?_
          rotate_left 1
          · (intro wS hSw; (try dsimp only at hSw); go_simp; try (with_reducible rfl))
          try simp only [Act.put, List.setIfInBounds_toArray, List.set_cons_zero, List.set_cons_succ]
          refine wpAnyH_take (i := 1) (v := ?_) (by simp only [List.getElem?_toArray, List.getElem?_cons_succ, List.getElem?_cons_zero]; rfl) (by kernel_rfl) (by kernel_rfl) (by kernel_rfl) (by exact fun _ _ _ h => h) (Or.inl ⟨by rfl, ?_⟩) (by assumption) ?_
          rotate_left 1
          · (intro wS hSw; (try dsimp only at hSw); go_simp; try (with_reducible rfl))
          try simp only [Act.put, List.setIfInBounds_toArray, List.set_cons_zero, List.set_cons_succ]
          refine wpAnyH_take (i := 2) (v := ?_) (by simp only [List.getElem?_toArray, List.getElem?_cons_succ, List.getElem?_cons_zero]; rfl) (by kernel_rfl) (by kernel_rfl) (by kernel_rfl) (by exact fun _ _ _ h => h) (Or.inl ⟨by rfl, ?_⟩) (by assumption) ?_
          rotate_left 1
          · (intro wS hSw; (try dsimp only at hSw); go_simp; try (with_reducible rfl))
          try simp only [Act.put, List.setIfInBounds_toArray, List.set_cons_zero, List.set_cons_succ]
          refine wpAnyH_take (i := 3) (v := ?_) (by simp only [List.getElem?_toArray, List.getElem?_cons_succ, List.getElem?_cons_zero]; rfl) (by kernel_rfl) (by kernel_rfl) (by kernel_rfl) (by exact fun _ _ _ h => h) (Or.inl ⟨by rfl, ?_⟩) (by assumption) ?_
          rotate_left 1
          · (intro wS hSw; (try dsimp only at hSw); go_simp; try (with_reducible rfl))
          try simp only [Act.put, List.setIfInBounds_toArray, List.set_cons_zero, List.set_cons_succ]
          refine wpAnyH_take (i := 4) (v := ?_) (by simp only [List.getElem?_toArray, List.getElem?_cons_succ, List.getElem?_cons_zero]; rfl) (by kernel_rfl) (by kernel_rfl) (by kernel_rfl) (by exact fun _ _ _ h => h) (Or.inl ⟨by rfl, ?_⟩) (by assumption) ?_
          rotate_left 1
          · (intro wS hSw; (try dsimp only at hSw); go_simp; try (with_reducible rfl))
          try simp only [Act.put, List.setIfInBounds_toArray, List.set_cons_zero, List.set_cons_succ]
          refine wpAnyH_take (i := 5) (v := ?_) (by simp only [List.getElem?_toArray, List.getElem?_cons_succ, List.getElem?_cons_zero]; rfl) (by kernel_rfl) (by kernel_rfl) (by kernel_rfl) (by exact fun _ _ _ h => h) (Or.inl ⟨by rfl, ?_⟩) (by assumption) ?_
          rotate_left 1
          · (intro wS hSw; (try dsimp only at hSw); go_simp; try (with_reducible rfl))
          try simp only [Act.put, List.setIfInBounds_toArray, List.set_cons_zero, List.set_cons_succ]
          clear hHeld
          refine wpAnyH_ready (rs := [6]) (by kernel_rfl) (by simp) ?_
          refine AllReadyH.cons (i := 6) (by simp only [List.getElem?_toArray, List.getElem?_cons_succ, List.getElem?_cons_zero]; rfl) (fun K hK => ?_) AllReadyH.nil
          go_simp
          (go_at_call 99; refine (HK.out _).mono ?_; rintro e w1 ⟨rfl, hb1⟩; have HB1 := bel (bel_d _) hb1; obtain ⟨y0, y1, y2, y3, y4, y5⟩ := HC.out w1 HB1)
          try (go_wp2_with fail)
          refine hK.out _ _ ?_ (fun hHeld => ?_)
          · ((try dsimp only); go_keep)
          clear hK K
          try simp only [Act.put, List.setIfInBounds_toArray, List.set_cons_zero, List.set_cons_succ]
          refine wpAnyH_take (i := 7) (v := ?_) (by simp only [List.getElem?_toArray, List.getElem?_cons_succ, List.getElem?_cons_zero]; rfl) (by kernel_rfl) (by kernel_rfl) (by kernel_rfl) (by exact fun _ _ _ h => h) (Or.inl ⟨by rfl, ?_⟩) (by assumption) ?_
          rotate_left 1
          · (intro wS hSw; (try dsimp only at hSw); go_simp; try (with_reducible rfl))
          try simp only [Act.put, List.setIfInBounds_toArray, List.set_cons_zero, List.set_cons_succ]
          refine wpAnyH_take (i := 8) (v := ?_) (by simp only [List.getElem?_toArray, List.getElem?_cons_succ, List.getElem?_cons_zero]; rfl) (by kernel_rfl) (by kernel_rfl) (by kernel_rfl) (by exact fun _ _ _ h => h) (Or.inl ⟨by rfl, ?_⟩) (by assumption) ?_
          rotate_left 1
          · (intro wS hSw; (try dsimp only at hSw); go_simp; try (with_reducible rfl))
          try simp only [Act.put, List.setIfInBounds_toArray, List.set_cons_zero, List.set_cons_succ]
          refine wpAnyH_take (i := 9) (v := ?_) (by simp only [List.getElem?_toArray, List.getElem?_cons_succ, List.getElem?_cons_zero]; rfl) (by kernel_rfl) (by kernel_rfl) (by kernel_rfl) (by exact fun _ _ _ h => h) (Or.inl ⟨by rfl, ?_⟩) (by assumption) ?_
          rotate_left 1
          · (intro wS hSw; (try dsimp only at hSw); go_simp; try (with_reducible rfl))
          try simp only [Act.put, List.setIfInBounds_toArray, List.set_cons_zero, List.set_cons_succ]
          clear hHeld
          refine wpAnyH_ready (rs := [10]) (by kernel_rfl) (by simp) ?_
          refine AllReadyH.cons (i := 10) (by simp only [List.getElem?_toArray, List.getElem?_cons_succ, List.getElem?_cons_zero]; rfl) (fun K hK => ?_) AllReadyH.nil
          go_simp
          (go_at_call 100; refine (HBW.out _).mono ?_; rintro e w2 ⟨rfl, hb2⟩; have HB2 := bel HB1 hb2; obtain ⟨y0, y1, y2, y3, y4, y5⟩ := HC.out w2 HB2)
          try (go_wp2_with fail)
          refine hK.out _ _ ?_ (fun hHeld => ?_)
          · ((try dsimp only); go_keep)
          clear hK K
          try simp only [Act.put, List.setIfInBounds_toArray, List.set_cons_zero, List.set_cons_succ]
          refine wpAnyH_take (i := 11) (v := ?_) (by simp only [List.getElem?_toArray, List.getElem?_cons_succ, List.getElem?_cons_zero]; rfl) (by kernel_rfl) (by kernel_rfl) (by kernel_rfl) (by exact fun _ _ _ h => h) (Or.inl ⟨by rfl, ?_⟩) (by assumption) ?_
          rotate_left 1
          · (intro wS hSw; (try dsimp only at hSw); go_simp; try (with_reducible rfl))
          try simp only [Act.put, List.setIfInBounds_toArray, List.set_cons_zero, List.set_cons_succ]
          refine wpAnyH_take (i := 12) (v := ?_) (by simp only [List.getElem?_toArray, List.getElem?_cons_succ, List.getElem?_cons_zero]; rfl) (by kernel_rfl) (by kernel_rfl) (by kernel_rfl) (by exact fun _ _ _ h => h) (Or.inl ⟨by rfl, ?_⟩) (by assumption) ?_
          rotate_left 1
          · (intro wS hSw; (try dsimp only at hSw); go_simp; try (with_reducible rfl))
          try simp only [Act.put, List.setIfInBounds_toArray, List.set_cons_zero, List.set_cons_succ]
          refine wpAnyH_done (by kernel_rfl) ?_ _
          go_wp2
          go_ret
          exact ⟨ret_bool (NB.out (by simp)).symm, bel hb (bel (bel_alloc _ _) HB2)⟩
        · go_wp2
          refine wp_region_held_drew (S := (fun v => v.cell? ⟨C, 0, none⟩ = some (.slice p0 M q0) ∧ v.cell? ⟨wr.heap.size, 0, none⟩ = some (.int .i64 K) ∧ v.cell? ⟨wr.heap.size, 1, none⟩ = some (.int .i64 P) ∧ v.cell? ⟨wr.heap.size, 2, none⟩ = some (.bool Q) ∧ v.cell? ⟨wr.heap.size, 3, none⟩ = some (.int .u32 B) ∧ v.cell? ⟨wr.heap.size, 4, none⟩ = some (.int .i64 I))) (by kernel_rfl) ?_ (fun hHeld => ?_)
          · ((try dsimp only); go_keep)
          refine wpAnyH_take (i := 0) (v := ?_) (by simp only [List.getElem?_toArray, List.getElem?_cons_succ, List.getElem?_cons_zero]; rfl) (by kernel_rfl) (by kernel_rfl) (by kernel_rfl) (by exact fun _ _ _ h => h) (Or.inl ⟨by rfl, ?_⟩) (by assumption) ?_
          rotate_left 1
          · (intro wS hSw; (try dsimp only at hSw); go_simp; try (with_reducible rfl))
          try simp only [Act.put, List.setIfInBounds_toArray, List.set_cons_zero, List.set_cons_succ]
          refine wpAnyH_take (i := 1) (v := ?_) (by simp only [List.getElem?_toArray, List.getElem?_cons_succ, List.getElem?_cons_zero]; rfl) (by kernel_rfl) (by kernel_rfl) (by kernel_rfl) (by exact fun _ _ _ h => h) (Or.inl ⟨by rfl, ?_⟩) (by assumption) ?_
          rotate_left 1
          · (intro wS hSw; (try dsimp only at hSw); go_simp; try (with_reducible rfl))
          try simp only [Act.put, List.setIfInBounds_toArray, List.set_cons_zero, List.set_cons_succ]
          refine wpAnyH_take (i := 2) (v := ?_) (by simp only [List.getElem?_toArray, List.getElem?_cons_succ, List.getElem?_cons_zero]; rfl) (by kernel_rfl) (by kernel_rfl) (by kernel_rfl) (by exact fun _ _ _ h => h) (Or.inl ⟨by rfl, ?_⟩) (by assumption) ?_
          rotate_left 1
          · (intro wS hSw; (try dsimp only at hSw); go_simp; try (with_reducible rfl))
          try simp only [Act.put, List.setIfInBounds_toArray, List.set_cons_zero, List.set_cons_succ]
          refine wpAnyH_take (i := 3) (v := ?_) (by simp only [List.getElem?_toArray, List.getElem?_cons_succ, List.getElem?_cons_zero]; rfl) (by kernel_rfl) (by kernel_rfl) (by kernel_rfl) (by exact fun _ _ _ h => h) (Or.inl ⟨by rfl, ?_⟩) (by assumption) ?_
          rotate_left 1
          · (intro wS hSw; (try dsimp only at hSw); go_simp; try (with_reducible rfl))
          try simp only [Act.put, List.setIfInBounds_toArray, List.set_cons_zero, List.set_cons_succ]
          refine wpAnyH_take (i := 4) (v := ?_) (by simp only [List.getElem?_toArray, List.getElem?_cons_succ, List.getElem?_cons_zero]; rfl) (by kernel_rfl) (by kernel_rfl) (by kernel_rfl) (by exact fun _ _ _ h => h) (Or.inl ⟨by rfl, ?_⟩) (by assumption) ?_
          rotate_left 1
          · (intro wS hSw; (try dsimp only at hSw); go_simp; try (with_reducible rfl))
          try simp only [Act.put, List.setIfInBounds_toArray, List.set_cons_zero, List.set_cons_succ]
          refine wpAnyH_take (i := 5) (v := ?_) (by simp only [List.getElem?_toArray, List.getElem?_cons_succ, List.getElem?_cons_zero]; rfl) (by kernel_rfl) (by kernel_rfl) (by kernel_rfl) (by exact fun _ _ _ h => h) (Or.inl ⟨by rfl, ?_⟩) (by assumption) ?_
          rotate_left 1
          · (intro wS hSw; (try dsimp only at hSw); go_simp; try (with_reducible rfl))
          try simp only [Act.put, List.setIfInBounds_toArray, List.set_cons_zero, List.set_cons_succ]
          clear hHeld
          refine wpAnyH_ready (rs := [6]) (by kernel_rfl) (by simp) ?_
          refine AllReadyH.cons (i := 6) (by simp only [List.getElem?_toArray, List.getElem?_cons_succ, List.getElem?_cons_zero]; rfl) (fun K hK => ?_) AllReadyH.nil
          go_simp
          (go_at_call 99; refine (HK.out _).mono ?_; rintro e w1 ⟨rfl, hb1⟩; have HB1 := bel (bel_d _) hb1; obtain ⟨y0, y1, y2, y3, y4, y5⟩ := HC.out w1 HB1)
          try (go_wp2_with fail)
          refine hK.out _ _ ?_ (fun hHeld => ?_)
          · ((try dsimp only); go_keep)
          clear hK K
          try simp only [Act.put, List.setIfInBounds_toArray, List.set_cons_zero, List.set_cons_succ]
          refine wpAnyH_take (i := 7) (v := ?_) (by simp only [List.getElem?_toArray, List.getElem?_cons_succ, List.getElem?_cons_zero]; rfl) (by kernel_rfl) (by kernel_rfl) (by kernel_rfl) (by exact fun _ _ _ h => h) (Or.inl ⟨by rfl, ?_⟩) (by assumption) ?_
          rotate_left 1
          · (intro wS hSw; (try dsimp only at hSw); go_simp; try (with_reducible rfl))
          try simp only [Act.put, List.setIfInBounds_toArray, List.set_cons_zero, List.set_cons_succ]
          refine wpAnyH_take (i := 8) (v := ?_) (by simp only [List.getElem?_toArray, List.getElem?_cons_succ, List.getElem?_cons_zero]; rfl) (by kernel_rfl) (by kernel_rfl) (by kernel_rfl) (by exact fun _ _ _ h => h) (Or.inl ⟨by rfl, ?_⟩) (by assumption) ?_
          rotate_left 1
          · (intro wS hSw; (try dsimp only at hSw); go_simp; try (with_reducible rfl))
          try simp only [Act.put, List.setIfInBounds_toArray, List.set_cons_zero, List.set_cons_succ]
          refine wpAnyH_take (i := 9) (v := ?_) (by simp only [List.getElem?_toArray, List.getElem?_cons_succ, List.getElem?_cons_zero]; rfl) (by kernel_rfl) (by kernel_rfl) (by kernel_rfl) (by exact fun _ _ _ h => h) (Or.inl ⟨by rfl, ?_⟩) (by assumption) ?_
          rotate_left 1
          · (intro wS hSw; (try dsimp only at hSw); go_simp; try (with_reducible rfl))
          try simp only [Act.put, List.setIfInBounds_toArray, List.set_cons_zero, List.set_cons_succ]
          clear hHeld
          refine wpAnyH_ready (rs := [10]) (by kernel_rfl) (by simp) ?_
          refine AllReadyH.cons (i := 10) (by simp only [List.getElem?_toArray, List.getElem?_cons_succ, List.getElem?_cons_zero]; rfl) (fun K hK => ?_) AllReadyH.nil
          go_simp
          (go_at_call 100; refine (HBW.out _).mono ?_; rintro e w2 ⟨rfl, hb2⟩; have HB2 := bel HB1 hb2; obtain ⟨y0, y1, y2, y3, y4, y5⟩ := HC.out w2 HB2)
          try (go_wp2_with fail)
          refine hK.out _ _ ?_ (fun hHeld => ?_)
          · ((try dsimp only); go_keep)
          clear hK K
          try simp only [Act.put, List.setIfInBounds_toArray, List.set_cons_zero, List.set_cons_succ]
          refine wpAnyH_take (i := 11) (v := ?_) (by simp only [List.getElem?_toArray, List.getElem?_cons_succ, List.getElem?_cons_zero]; rfl) (by kernel_rfl) (by kernel_rfl) (by kernel_rfl) (by exact fun _ _ _ h => h) (Or.inl ⟨by rfl, ?_⟩) (by assumption) ?_
          rotate_left 1
          · (intro wS hSw; (try dsimp only at hSw); go_simp; try (with_reducible rfl))
          try simp only [Act.put, List.setIfInBounds_toArray, List.set_cons_zero, List.set_cons_succ]
          refine wpAnyH_take (i := 12) (v := ?_) (by simp only [List.getElem?_toArray, List.getElem?_cons_succ, List.getElem?_cons_zero]; rfl) (by kernel_rfl) (by kernel_rfl) (by kernel_rfl) (by exact fun _ _ _ h => h) (Or.inl ⟨by rfl, ?_⟩) (by assumption) ?_
          rotate_left 1
          · (intro wS hSw; (try dsimp only at hSw); go_simp; try (with_reducible rfl))
          try simp only [Act.put, List.setIfInBounds_toArray, List.set_cons_zero, List.set_cons_succ]
          refine wpAnyH_done (by kernel_rfl) ?_ _
          go_wp2
          go_roundw
          case rel => exact ⟨bel hb (bel (bel_alloc _ _) HB2), j + 1, by omega, by go_num, NX.out (by simp)⟩
          case measure => simp [intOf]; omega
    · have : j = N := by omega
      subst this
      have HF : Hid ((l.all fun t => slotMay t M) = true) := List.all_eq_true.2 fun t ht => by
        obtain ⟨i, hi, rfl⟩ := List.mem_iff_getElem.1 ht
        exact hp.out i hi (by rw [← HN.out]; exact hi)
      clear hp
      go_wp2
      go_ret
      exact ⟨ret_bool HF.out.symm, hb⟩

end Go.Proofs.YtnlgkkbmbijndaaGreat
/- Package ir: faultAhead. -/
namespace Go.Proofs.YtnlgkkbmbijndaaGreat
open Go.RowKit
set_option linter.unusedVariables false
set_option linter.unusedSimpArgs false

set_option maxRecDepth 100000 in
set_option maxHeartbeats 2000000 in
theorem faultAhead_any (C : Nat) (v0 v1 v2 v3 : Value) (c : Cd) (hk : CdOk c) (w : World) (hc : CdAt w C v0 v1 v2 v3 c) :
    Calls Tryz.prog 38 #[.pointer (some ⟨C, 0, none⟩)] w fun e w' => e = .returned (.int .i64 (aheadP c)) ∧ Below w.heap.size w w' := by
  have K1 := sCheck_any v0 c.sign hk.signL hk.names w hc.2.sign.rd
  have K2 := fun w h => typesMayBe_any C v0 v1 v2 v3 c hk w h
  have K3 := fun w h => slotsMayBe_any C v0 v1 v2 v3 c hk w h
  unfold aheadP
  obtain ⟨E, hE⟩ : ∃ E, checkP c.sign = E := ⟨_, rfl⟩
  obtain ⟨X, hX⟩ : ∃ X, typesMay c = X := ⟨_, rfl⟩
  obtain ⟨Y, hY⟩ : ∃ Y, slotsMay c = Y := ⟨_, rfl⟩
  simp only [hE] at K1 ⊢
  simp only [hX] at K2 ⊢
  simp only [hY] at K3 ⊢
  have HC0 : Hid (CdAt w C v0 v1 v2 v3 c) := hc
  obtain ⟨hcc, hcv⟩ := hc
  have b1 := hk.regsL
  have b2 := hk.slotsL
  have b3 := hk.listL
  obtain ⟨p1, q1, rfl, r1⟩ := hcv.regs
  obtain ⟨p2, q2, rfl, r2⟩ := hcv.slots
  obtain ⟨p3, q3, rfl, r3⟩ := hcv.list
  have c0 := hcc.at 0 rfl
  have c1 := hcc.at 1 rfl
  have c2 := hcc.at 2 rfl
  have c3 := hcc.at 3 rfl
  rw [Nat.zero_add] at c0 c1 c2 c3
  obtain ⟨N1, h1⟩ : ∃ N, c.regs.length = N := ⟨_, rfl⟩
  obtain ⟨N2, h2⟩ : ∃ N, c.slots.length = N := ⟨_, rfl⟩
  obtain ⟨N3, h3⟩ : ∃ N, c.list.length = N := ⟨_, rfl⟩
  rw [h1] at K2 K3 c1 b1 HC0 ⊢
  rw [h2] at K2 K3 c2 b2 HC0 ⊢
  rw [h3] at K2 K3 c3 b3 HC0 ⊢
  have HK1 : Hid (Calls Tryz.prog 71 #[v0] w fun e w' => e = .returned (.int .i64 E) ∧ Below w.heap.size w w') := K1
  have HK2 : Hid (∀ w, CdAt w C v0 (.slice p1 N1 q1) (.slice p2 N2 q2) (.slice p3 N3 q3) c → Calls Tryz.prog 72 #[.pointer (some ⟨C, 0, none⟩)] w fun e w' => e = .returned (.bool X) ∧ Below w.heap.size w w') := K2
  have HK3 : Hid (∀ w, CdAt w C v0 (.slice p1 N1 q1) (.slice p2 N2 q2) (.slice p3 N3 q3) c → Calls Tryz.prog 73 #[.pointer (some ⟨C, 0, none⟩)] w fun e w' => e = .returned (.bool Y) ∧ Below w.heap.size w w') := K3
  have HC : Hid (∀ v, Below w.heap.size w v → v.cell? ⟨C, 1, none⟩ = some (.slice p1 N1 q1) ∧ v.cell? ⟨C, 2, none⟩ = some (.slice p2 N2 q2) ∧ v.cell? ⟨C, 3, none⟩ = some (.slice p3 N3 q3)) := fun v hv => ⟨kc hv c1, kc hv c2, kc hv c3⟩
  clear K1 K2 K3 hE hX hY h1 h2 h3 r1 r2 r3 hcc hcv hk
  by_cases hE : E = 0
  · subst hE
    rw [if_neg (by simp)]
    by_cases s1 : 16384 < N1 ∨ 32768 < N3
    · rw [if_pos s1]
      by_cases s2 : 16384 < N1
      · have s2' : (16384 : Int) < (N1 : Int) := by omega
        clear s1 s2
        go_enter Tryz.func38, Tryz.ntmps38
        go_wp2_with (go_at_call 71; refine HK1.out.mono ?_; rintro e w1 ⟨rfl, hb1⟩; obtain ⟨d1, d2, d3⟩ := HC.out w1 hb1)
        all_goals (go_ret; exact ⟨rfl, hb1⟩)
      · have s2' : ¬ (16384 : Int) < (N1 : Int) := by omega
        have s3' : (32768 : Int) < (N3 : Int) := by omega
        clear s1 s2
        go_enter Tryz.func38, Tryz.ntmps38
        go_wp2_with (go_at_call 71; refine HK1.out.mono ?_; rintro e w1 ⟨rfl, hb1⟩; obtain ⟨d1, d2, d3⟩ := HC.out w1 hb1)
        all_goals (go_ret; exact ⟨rfl, hb1⟩)
    · rw [if_neg s1]
      have s2' : ¬ (16384 : Int) < (N1 : Int) := by omega
      have s3' : ¬ (32768 : Int) < (N3 : Int) := by omega
      clear s1
      by_cases s4 : 4096 < N2
      · rw [if_pos s4]
        have s4' : (4096 : Int) < (N2 : Int) := by omega
        clear s4
        go_enter Tryz.func38, Tryz.ntmps38
        go_wp2_with (go_at_call 71; refine HK1.out.mono ?_; rintro e w1 ⟨rfl, hb1⟩; obtain ⟨d1, d2, d3⟩ := HC.out w1 hb1)
        all_goals (go_ret; exact ⟨rfl, hb1⟩)
      · rw [if_neg s4]
        have s4' : ¬ (4096 : Int) < (N2 : Int) := by omega
        clear s4
        cases X
        · go_enter Tryz.func38, Tryz.ntmps38
          go_wp2_with (first
            | (go_at_call 71; refine HK1.out.mono ?_; rintro e w1 ⟨rfl, hb1⟩; obtain ⟨d1, d2, d3⟩ := HC.out w1 hb1)
            | (go_at_call 72; refine (HK2.out _ (HC0.out.below hb1)).mono ?_; rintro e w2 ⟨rfl, hb2⟩; have HB2 := bel hb1 hb2)
            | (go_at_call 73; refine (HK3.out _ (HC0.out.below HB2)).mono ?_; rintro e w3 ⟨rfl, hb3⟩; have HB3 := bel HB2 hb3))
          all_goals (go_ret; exact ⟨rfl, HB2⟩)
        · cases Y
          · go_enter Tryz.func38, Tryz.ntmps38
            go_wp2_with (first
              | (go_at_call 71; refine HK1.out.mono ?_; rintro e w1 ⟨rfl, hb1⟩; obtain ⟨d1, d2, d3⟩ := HC.out w1 hb1)
              | (go_at_call 72; refine (HK2.out _ (HC0.out.below hb1)).mono ?_; rintro e w2 ⟨rfl, hb2⟩; have HB2 := bel hb1 hb2)
              | (go_at_call 73; refine (HK3.out _ (HC0.out.below HB2)).mono ?_; rintro e w3 ⟨rfl, hb3⟩; have HB3 := bel HB2 hb3))
            all_goals (go_ret; exact ⟨rfl, HB3⟩)
          · go_enter Tryz.func38, Tryz.ntmps38
            go_wp2_with (first
              | (go_at_call 71; refine HK1.out.mono ?_; rintro e w1 ⟨rfl, hb1⟩; obtain ⟨d1, d2, d3⟩ := HC.out w1 hb1)
              | (go_at_call 72; refine (HK2.out _ (HC0.out.below hb1)).mono ?_; rintro e w2 ⟨rfl, hb2⟩; have HB2 := bel hb1 hb2)
              | (go_at_call 73; refine (HK3.out _ (HC0.out.below HB2)).mono ?_; rintro e w3 ⟨rfl, hb3⟩; have HB3 := bel HB2 hb3))
            all_goals (go_ret; exact ⟨rfl, HB3⟩)
  · rw [if_pos hE]
    have hE' : (E == 0) = false := by simpa using hE
    go_enter Tryz.func38, Tryz.ntmps38
    go_wp2_with (go_at_call 71; refine HK1.out.mono ?_; rintro e w1 ⟨rfl, hb1⟩)
    all_goals (go_ret; exact ⟨rfl, hb1⟩)

end Go.Proofs.YtnlgkkbmbijndaaGreat
