import Derived.Test.YtmpfoajpafglgaaDoorSignList
/- Package sign: the places at which names stand for the first time, in a map. -/
namespace Go.Proofs.YtmpfoajpafglgaaDoor
open Go.RowKit Go.Maps Go.WideMaps
set_option linter.unusedVariables false
set_option linter.unusedSimpArgs false

def keyL (s : ByteArray) : Lit := .string s.data.toList
theorem keyL_inj {a b : ByteArray} (h : keyL a = keyL b) : a = b := by
  unfold keyL at h
  injection h with h
  exact bs_inj h
theorem find_snoc (s : ByteArray) : ∀ (l : List Par) (p : Par), findP s (l ++ [p]) = match findP s l with | some i => some i | none => if p.name = s then some l.length else none
  | [], p => by simp [findP]
  | q :: l, p => by
    rw [List.cons_append]
    simp only [findP]
    by_cases h : q.name = s
    · rw [if_pos h, if_pos h]
    · rw [if_neg h, if_neg h, find_snoc s l p]
      cases findP s l with
      | some i => rfl
      | none =>
        simp only [Option.map_none]
        split
        · rfl
        · rfl
theorem find_any (s : ByteArray) : ∀ (l : List Par), (findP s l).isSome = l.any fun q => decide (q.name = s)
  | [] => rfl
  | q :: l => by
    simp only [findP, List.any_cons]
    by_cases h : q.name = s
    · rw [if_pos h]; simp [h]
    · rw [if_neg h, Option.isSome_map, find_any s l]; simp [h]
theorem twice_snoc : ∀ (l : List Par) (p : Par), twiceP (l ++ [p]) = (twiceP l || (findP p.name l).isSome)
  | [], p => rfl
  | q :: l, p => by
    rw [List.cons_append]
    simp only [twiceP, List.any_append, List.any_cons, List.any_nil, twice_snoc l p, find_any]
    have e : decide (p.name = q.name) = decide (q.name = p.name) := by rw [decide_eq_decide]; exact eq_comm
    rw [e]
    cases (l.any fun r => decide (r.name = q.name)) <;> cases (twiceP l) <;> cases (decide (q.name = p.name)) <;> cases (l.any fun r => decide (r.name = p.name)) <;> rfl

/-- What the map holds behind these parameters. -/
structure Firsts (l : List Par) (D : DataW Unit) : Prop where
  has : ∀ s, Maps.has D (keyL s) = (findP s l).isSome
  val : ∀ s i z, findP s l = some i → D.atKey (keyL s) z = .lit (.int .i64 (i : Int))
  no : twiceP l = false → Maps.size D = l.length
  yes : twiceP l = true → Maps.size D < l.length
theorem firsts_nil : Firsts [] (.map []) := ⟨fun _ => rfl, fun s i z h => by simp [findP] at h, fun _ => rfl, fun h => by simp [twiceP] at h⟩
theorem firsts_old {l : List Par} {D : DataW Unit} (h : Firsts l D) {p : Par} (hh : Maps.has D (keyL p.name) = true) : Firsts (l ++ [p]) D := by
  have hp : (findP p.name l).isSome = true := by rw [← h.has]; exact hh
  have hf : ∀ s, findP s (l ++ [p]) = findP s l := fun s => by
    rw [find_snoc]
    cases e : findP s l with
    | some i => rfl
    | none =>
      simp only
      rw [if_neg]
      rintro rfl
      rw [e] at hp
      exact absurd hp (by decide)
  have hle : Maps.size D ≤ l.length := by
    cases e : twiceP l
    · exact Nat.le_of_eq (h.no e)
    · exact Nat.le_of_lt (h.yes e)
  refine ⟨fun s => by rw [hf]; exact h.has s, fun s i z e => h.val s i z (by rw [← hf]; exact e), fun e => ?_, fun e => ?_⟩
  · rw [twice_snoc, hp, Bool.or_true] at e
    exact absurd e (by decide)
  · simp only [List.length_append, List.length_cons, List.length_nil]; omega
theorem firsts_new {l : List Par} {D : DataW Unit} (h : Firsts l D) (ht : Tidy D) {p : Par} (hh : Maps.has D (keyL p.name) = false) : Firsts (l ++ [p]) (D.put (keyL p.name) (.lit (.int .i64 (l.length : Int)))) := by
  have hp : (findP p.name l).isSome = false := by rw [← h.has]; exact hh
  have hpn : findP p.name l = none := by simpa using hp
  have hsz : Maps.size (D.put (keyL p.name) (.lit (.int .i64 (l.length : Int)))) = Maps.size D + 1 := by rw [size_put ht, hh]; rfl
  refine ⟨fun s => ?_, fun s i z e => ?_, fun e => ?_, fun e => ?_⟩
  · by_cases hs : s = p.name
    · subst hs
      rw [has_put_same ht.isMap (show WideAt.IsKeyLit (keyL p.name) from trivial), find_snoc, hpn]
      simp
    · rw [has_put_other (fun e => hs (keyL_inj e)), h.has, find_snoc]
      cases e : findP s l with
      | some i => rfl
      | none => simp only; rw [if_neg (fun e => hs e.symm)]
  · by_cases hs : s = p.name
    · subst hs
      rw [find_snoc, hpn] at e
      simp at e
      subst e
      exact atKey_put_same ht.isMap (show WideAt.IsKeyLit (keyL p.name) from trivial) _ _
    · rw [atKey_put_other (fun e => hs (keyL_inj e))]
      refine h.val s i z ?_
      rw [find_snoc] at e
      cases e2 : findP s l with
      | some j => rw [e2] at e; exact e
      | none => rw [e2] at e; simp only at e; rw [if_neg (fun e => hs e.symm)] at e; exact absurd e (by simp)
  · rw [twice_snoc, hp, Bool.or_false] at e
    rw [hsz, h.no e]
    simp
  · rw [twice_snoc, hp, Bool.or_false] at e
    have := h.yes e
    rw [hsz]
    simp only [List.length_append, List.length_cons, List.length_nil]; omega

theorem lawK : Keyed Tryd.prog 9 := string_keyed Tryd.underlying9
theorem zeroI (w : World) : (zeroValue 3).run Tryd.prog w = .ok (.int .i64 0) w := by kernel_rfl
/-- A map from names to places, in block b. -/
def MapAt (w : World) (b n : Nat) (D : DataW Unit) : Prop := w.ownsMap Tryd.prog 9 (plainElem Tryd.prog 3) b n D
theorem MapAt.below {w w' : World} {b n : Nat} {D : DataW Unit} (h : MapAt w b n D) (k : Below w.heap.size w w') : MapAt w' b n D :=
  World.ownsMap.kept h (row := none) ⟨k.os, k.tape, k.output, k.size, fun j hj _ => k.block j hj⟩ (by simp)

set_option maxRecDepth 100000 in
set_option maxHeartbeats 2000000 in
theorem firsts_any (v : Value) (l : List Par) (hl : l.length ≤ 140737488351232) (hM : ∀ p ∈ l, p.name.size ≤ 140737488351232) (w : World) (hr : Rd w v l) :
    Calls Tryd.prog 25 #[v] w fun e w' => ∃ D, e = .returned (.map (some w.heap.size)) ∧ MapAt w' w.heap.size l.length D ∧ Firsts l D ∧ Below w.heap.size w w' := by
  obtain ⟨p, c, rfl, hr⟩ := hr
  obtain ⟨n, hn⟩ : ∃ n, l.length = n := ⟨_, rfl⟩
  rw [hn] at hl ⊢
  have HN : Hid (l.length = n) := hn
  have HR : Hid (Row w p l) := hr
  have HM : Hid (∀ p ∈ l, p.name.size ≤ 140737488351232) := hM
  clear hn hr hM
  have hmm := @run_makeMap Tryd.prog
  go_enter Tryd.func25, Tryd.ntmps25
  go_wp2
  go_loopw [11] (fun iv wr => Below w.heap.size w wr ∧ ∃ j : Nat, j ≤ n ∧ iv = .int .i64 j ∧ ∃ D, Hid (MapAt wr w.heap.size j D ∧ Firsts (l.take j) D)) (fun iv _ => n - (intOf iv).toNat)
  case atStart => exact ⟨bel_alloc _ _, 0, Nat.zero_le _, rfl, .map [], World.ownsMap_made _ _ _ _, firsts_nil⟩
  case round =>
    obtain ⟨hb, j, hj, rfl, D, hD⟩ := hrel
    by_cases hlt : j < n
    · have hll : j < l.length := by rw [HN.out]; exact hlt
      obtain ⟨b, o, rfl, hx⟩ := HR.out.at hll
      obtain ⟨x0, x1, x2⟩ := hx.below hb
      have i1 : (0 : Int) ≤ (j : Int) := by omega
      have i2 : (j : Int) < (n : Int) := by omega
      have hkey : keyOf Tryd.prog 9 (.string l[j].name) = some (keyL l[j].name) := keyOf_string_mk Tryd.underlying9 (by have := HM.out _ (List.getElem_mem hll); unfold maxLen; omega)
      have HT : Hid (l.take (j + 1) = l.take j ++ [l[j]] ∧ (l.take j).length = j) := ⟨take_succ hll, by rw [List.length_take]; omega⟩
      have hwf : (Lit.int .i64 (j : Int)).wf = true := WalkArith.wf_i64 (by omega)
      have hown : Hid (MapAt (wr.alloc (.cells #[.string l[j].name, .int .i64 l[j].kind, .int .i64 l[j].len] 30)) w.heap.size j D) := hD.out.1.below (bel_alloc _ _)
      have HF : Hid (Firsts (l.take j) D) := hD.out.2
      clear hD hx
      cases hsn : Maps.has D (keyL l[j].name)
      · have HS : Hid (Maps.has D (keyL l[j].name) = false) := hsn
        have tok : True := trivial
        clear hsn
        go_wp2_with (first
          | (at_lookup; have _t := tok; refine wpList_lookup_own_ok_int _ rfl _ _ 49 rfl 9 3 .i64 lawK Tryd.underlying49 Tryd.underlying3 (zeroI _) w.heap.size j D rfl hown.out _ _ rfl hkey ?_; intro c hat hwc; rw [HS.out]; clear hat hwc tok)
          | (at_mapUpdate; refine wpList_mapUpdate_own _ rfl _ _ _ 49 rfl 9 3 lawK Tryd.underlying49 _ w.heap.size j D rfl hown.out (by unfold maxLen; omega) _ _ _ rfl rfl hkey _ [] (plainElem_int Tryd.underlying3 hwf) ?_; intro w1 hown1 hgrow1; have H1 : Hid (MapAt w1 w.heap.size (j + 1) (D.put (keyL l[j].name) (.lit (.int .i64 (j : Int)))) ∧ World.grownBy _ w1 (some w.heap.size)) := ⟨hown1, hgrow1⟩; clear hown1 hgrow1))
        go_roundw
        case rel =>
          refine ⟨?_, j + 1, by omega, by go_num, _, H1.out.1, ?_⟩
          · exact Below.grown (bel hb (bel_alloc _ _)) H1.out.2 (by have := hb.size; simp; omega) (fun k e => by cases e; exact Nat.le_refl _)
          · rw [HT.out.1]
            have := firsts_new HF.out (World.ownsMap.tidy hown.out lawK) HS.out
            rw [HT.out.2] at this
            exact this
        case measure => simp [intOf]; omega
      · have HS : Hid (Maps.has D (keyL l[j].name) = true) := hsn
        clear hsn
        go_wp2_with (at_lookup; refine wpList_lookup_own_ok_int _ rfl _ _ 49 rfl 9 3 .i64 lawK Tryd.underlying49 Tryd.underlying3 (zeroI _) w.heap.size j D rfl hown.out _ _ rfl hkey ?_; intro c hat hwc; rw [HS.out]; clear hat hwc)
        go_roundw
        case rel =>
          refine ⟨bel hb (bel_alloc _ _), j + 1, by omega, by go_num, D, World.ownsMap.mono hown.out (Nat.le_succ _), ?_⟩
          rw [HT.out.1]
          exact firsts_old HF.out HS.out
        case measure => simp [intOf]; omega
    · have : j = n := by omega
      subst this
      have HF : Hid (MapAt wr w.heap.size j D ∧ Firsts l D) := ⟨hD.out.1, by have := hD.out.2; rw [List.take_of_length_le (by rw [HN.out]; exact Nat.le_refl _)] at this; exact this⟩
      clear hD
      go_wp2
      go_ret
      exact ⟨D, rfl, HF.out.1, HF.out.2, hb⟩

end Go.Proofs.YtmpfoajpafglgaaDoor
