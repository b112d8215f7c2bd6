import Derived.Test.YtmiidhgbdecdkaaGreatPart10
namespace Go.Proofs.YtmiidhgbdecdkaaGreat
set_option linter.unusedVariables false
set_option linter.unusedSimpArgs false
def updN (g : ByteArray → Option Nd) (k : ByteArray) (x : Nd) : ByteArray → Option Nd := fun j => if j = k then some x else g j
def giveL (L : List (ByteArray × Nd)) : List Nd → List Nd → (ByteArray → Option Nd) → Except (Int × Int) (ByteArray → Option Nd)
 | [], _, g => .ok g
 | x :: l, ahead, g =>
  if (g (meantR L x.key ahead).1).isSome then .error (132, x.at_)
  else if (meantR L x.key ahead).2 ≠ 0 then .error ((meantR L x.key ahead).2, x.at_)
  else giveL L l (ahead ++ [x]) (updN g (meantR L x.key ahead).1 (keyN x ⟨#[]⟩))
def giveP (L : List (ByteArray × Nd)) (t : Nd) : Except (Int × Int) (ByteArray → Option Nd) :=
 match giveL L t.args [] (fun _ => none) with
 | .error e => .error e
 | .ok g => if (g ⟨#[114, 97, 116, 101]⟩).isSome then .ok g else .error (131, t.at_)
def atN (t : Nd) (a : Int) : Nd := ⟨t.kind, t.name, t.num, t.int_, t.key, t.args, a⟩
def partsL (a : Int) : List (ByteArray × Nd) → (ByteArray → Option Nd) → (ByteArray → Option Nd)
 | [], g => g
 | x :: L, g => partsL a L (if (g x.1).isSome then g else updN g x.1 (atN x.2 a))
theorem sameB_iff {a b : ByteArray} : sameB a b = true ↔ a = b := by
 unfold sameB
 rw [beq_iff_eq]
 constructor
 ·intro h
  cases a; cases b
  simpa [ByteArray.toList_eq] using h
 ·rintro rfl; rfl
theorem key_empty {k : ByteArray} : (k.toList == []) = true ↔ k = ⟨#[]⟩ := by
 have : (k.toList == []) = sameB k ⟨#[]⟩ := by unfold sameB; rw [show (⟨#[]⟩ : ByteArray).toList = [] by simp [ByteArray.toList_eq]]
 rw [this, sameB_iff]
theorem size_empty {k : ByteArray} : (k.size != 0) = true ↔ k ≠ ⟨#[]⟩ := by
 cases k with
 | mk d =>
  cases d with
  | mk l => cases l <;> simp [ByteArray.size]
theorem isKeyed_iff {t : Nd} : isKeyed t = true ↔ t.key ≠ ⟨#[]⟩ := by
 unfold isKeyed
 rw [Bool.not_eq_true', ← Bool.not_eq_true, beq_iff_eq]
 have := @sameB_iff t.key ⟨#[]⟩
 unfold sameB at this
 rw [beq_iff_eq] at this
 rw [this]
theorem partsL_at (a : Int) : ∀ (L : List (ByteArray × Nd)) (g : ByteArray → Option Nd) (nm : ByteArray), partsL a L g nm = if (g nm).isSome then g nm else (L.find? (fun x => decide (x.1 = nm))).map (fun x => atN x.2 a)
 | [], g, nm => by
  unfold partsL
  cases h : g nm <;> simp
 | x :: L, g, nm => by
  rw [partsL, partsL_at a L]
  by_cases e : x.1 = nm
  ·rw [List.find?_cons_of_pos (by simpa using e)]
   subst e
   by_cases c : (g x.1).isSome
   ·simp [c]
   ·simp [c, updN]
  ·rw [List.find?_cons_of_neg (by simpa using e)]
   have e' : ¬ nm = x.1 := fun h => e h.symm
   by_cases c : (g x.1).isSome
   ·simp [c]
   ·simp [c, updN, e']
theorem fill_len : ∀ (w : List Nat) (l a : List Nd), (fillA w l a).length = a.length
 | [], l, a => by simp [fillA]
 | k :: w, [], a => by simp [fillA]
 | k :: w, x :: l, a => by rw [fillA, fill_len w l]; simp
theorem fill_no : ∀ (w : List Nat) (l a : List Nd) (k : Nat), k ∉ w → (fillA w l a)[k]? = a[k]?
 | [], l, a, k, _ => by simp [fillA]
 | j :: w, [], a, k, _ => by simp [fillA]
 | j :: w, x :: l, a, k, h => by
  rw [fillA, fill_no w l _ k (fun c => h (List.mem_cons_of_mem _ c)), List.getElem?_set_ne (fun c => h (by rw [c]; exact List.mem_cons_self))]
theorem fill_at : ∀ (w : List Nat) (l a : List Nd) (i : Nat) (hi : i < w.length) (hl : i < l.length), w.Nodup → w[i] < a.length → (fillA w l a)[w[i]]? = some (keyN l[i] ⟨#[]⟩)
 | [], l, a, i, hi, _, _, _ => absurd hi (Nat.not_lt_zero _)
 | j :: w, [], a, i, _, hl, _, _ => absurd hl (Nat.not_lt_zero _)
 | j :: w, x :: l, a, 0, hi, hl, hd, ha => by
  rw [List.nodup_cons] at hd
  simp only [List.getElem_cons_zero] at ha ⊢
  rw [fillA, fill_no w l _ j hd.1, List.getElem?_set_self ha]
 | j :: w, x :: l, a, i + 1, hi, hl, hd, ha => by
  rw [List.nodup_cons] at hd
  simp only [List.getElem_cons_succ] at ha ⊢
  rw [fillA]
  exact fill_at w l _ i (by simpa using hi) (by simpa using hl) hd.2 (by rw [List.length_set]; exact ha)
theorem find_at {E : List (ByteArray × Nd)} (hn : (E.map fun e => e.1).Nodup) {e : ByteArray × Nd} (he : e ∈ E) {nm : ByteArray} (h : e.1 = nm) : E.find? (fun x => decide (x.1 = nm)) = some e := by
 induction E with
 | nil => cases he
 | cons x E ih =>
  rw [List.map_cons, List.nodup_cons] at hn
  by_cases c : x.1 = nm
  ·rw [List.find?_cons_of_pos (by simpa using c)]
   rcases List.mem_cons.1 he with rfl | he
   ·rfl
   ·exact absurd (List.mem_map.2 ⟨e, he, h.trans c.symm⟩) hn.1
  ·rw [List.find?_cons_of_neg (by simpa using c)]
   rcases List.mem_cons.1 he with rfl | he
   ·exact absurd h c
   ·exact ih hn.2 he
structure Fine (r : Rw) (L : List (ByteArray × Nd)) : Prop where
 names : L.map (fun x => x.1) = r.args
 vals : L.map (fun x => x.2) = r.vals
 nd : r.args.Nodup
 ne : ∀ x ∈ r.args, x ≠ ⟨#[]⟩
 rate : r.args[0]? = some ⟨#[114, 97, 116, 101]⟩
 leaf : ∀ v ∈ r.vals, v.args = []
theorem placeI_yes : ∀ {l : List ByteArray} {key : ByteArray} {k : Nat}, placeI l key = some k → l[k]? = some key
 | [], key, k, h => by simp [placeI] at h
 | x :: l, key, k, h => by
  rw [placeI] at h
  by_cases c : sameB x key = true
  ·rw [if_pos c] at h
   cases h
   rw [sameB_iff.1 c]; rfl
  ·rw [if_neg c] at h
   cases hp : placeI l key with
   | none => rw [hp] at h; cases h
   | some j =>
    rw [hp] at h
    cases h
    exact placeI_yes (l := l) hp
theorem placeI_not : ∀ {l : List ByteArray} {key : ByteArray}, placeI l key = none → key ∉ l
 | [], key, h => by simp
 | x :: l, key, h => by
  rw [placeI] at h
  by_cases c : sameB x key = true
  ·rw [if_pos c] at h; cases h
  ·rw [if_neg c] at h
   cases hp : placeI l key with
   | none =>
    rw [List.mem_cons]
    rintro (rfl | h2)
    ·exact c (sameB_iff.2 rfl)
    ·exact placeI_not hp h2
   | some j => rw [hp] at h; cases h
structure GR (r : Rw) (ahead : List Nd) (g : ByteArray → Option Nd) (next : Nat) (keyed : Bool) (taken : List Nat) : Prop where
 kd : keyed = ahead.any isKeyed
 nx : keyed = false → next = ahead.length ∧ ∀ k ∈ taken, k < next
 len : taken.length = ahead.length
 lt : ∀ k ∈ taken, k < r.args.length
 nd : taken.Nodup
 is : ∀ i (h : i < taken.length) (h2 : i < ahead.length) nm, r.args[taken[i]]? = some nm → g nm = some (keyN ahead[i] ⟨#[]⟩)
 no : ∀ nm, (∀ k ∈ taken, r.args[k]? ≠ some nm) → g nm = none
theorem nodup_at {l : List ByteArray} (h : l.Nodup) {i j : Nat} {x : ByteArray} (hi : l[i]? = some x) (hj : l[j]? = some x) : i = j := by
 obtain ⟨h1, h2⟩ := List.getElem?_eq_some_iff.1 hi
 obtain ⟨h3, h4⟩ := List.getElem?_eq_some_iff.1 hj
 have key := List.pairwise_iff_getElem.1 h
 rcases Nat.lt_trichotomy i j with c | c | c
 ·exact absurd (h2.trans h4.symm) (key i j h1 h3 c)
 ·exact c
 ·exact absurd (h4.trans h2.symm) (key j i h3 h1 c)
theorem GR.yes {r : Rw} {ahead : List Nd} {g : ByteArray → Option Nd} {next : Nat} {keyed : Bool} {taken : List Nat} (h : GR r ahead g next keyed taken) {k : Nat} (hk : k ∈ taken) {nm : ByteArray} (hn : r.args[k]? = some nm) : (g nm).isSome = true := by
 obtain ⟨i, hi, rfl⟩ := List.getElem_of_mem hk
 rw [h.is i hi (by rw [← h.len]; exact hi) nm hn]
 rfl
theorem GR.push {r : Rw} {ahead : List Nd} {g : ByteArray → Option Nd} {next next' : Nat} {keyed keyed' : Bool} {taken : List Nat} (hnd : r.args.Nodup) (h : GR r ahead g next keyed taken) {k : Nat} {nm : ByteArray} {x : Nd} (hk : r.args[k]? = some nm) (hnk : k ∉ taken)
  (h1 : keyed' = (ahead ++ [x]).any isKeyed) (h2 : keyed' = false → next' = (ahead ++ [x]).length ∧ ∀ j ∈ taken ++ [k], j < next') : GR r (ahead ++ [x]) (updN g nm (keyN x ⟨#[]⟩)) next' keyed' (taken ++ [k]) where
 kd := h1
 nx := h2
 len := by simp [h.len]
 lt := fun j hj => by
  rcases List.mem_append.1 hj with hj | hj
  ·exact h.lt j hj
  ·rw [List.mem_singleton.1 hj]
   exact (List.getElem?_eq_some_iff.1 hk).1
 nd := by
  rw [List.nodup_append]
  refine ⟨h.nd, List.nodup_cons.2 ⟨List.not_mem_nil, List.nodup_nil⟩, fun a ha b hb e => ?_⟩
  rw [List.mem_singleton.1 hb] at e
  exact hnk (e ▸ ha)
 is := fun i hi hi2 m hm => by
  unfold updN
  by_cases c : i < taken.length
  ·have e1 : (taken ++ [k])[i] = taken[i] := List.getElem_append_left c
   have e2 : (ahead ++ [x])[i] = ahead[i]'(by rw [← h.len]; exact c) := List.getElem_append_left (by rw [← h.len]; exact c)
   rw [e1] at hm
   rw [e2, if_neg (fun e => hnk ?_)]
   ·exact h.is i c _ m hm
   ·subst e
    rw [nodup_at hnd hk hm]
    exact List.getElem_mem c
  ·have hi' : i = taken.length := by simp at hi; omega
   subst hi'
   have e1 : (taken ++ [k])[taken.length] = k := by simp
   have e2 : (ahead ++ [x])[taken.length] = x := by simp [h.len]
   rw [e1] at hm
   rw [e2, if_pos (by rw [hk] at hm; exact (Option.some.inj hm).symm)]
 no := fun m hm => by
  unfold updN
  rw [if_neg (fun (e : m = nm) => hm k (by simp) (by rw [e]; exact hk))]
  exact h.no m fun j hj => hm j (List.mem_append_left _ hj)
theorem any_name {r : Rw} {L : List (ByteArray × Nd)} (hf : Fine r L) (key : ByteArray) : L.any (fun x => sameB x.1 key) = true ↔ key ∈ r.args := by
 rw [← hf.names, List.any_eq_true, List.mem_map]
 exact ⟨fun ⟨x, h1, h2⟩ => ⟨x, h1, sameB_iff.1 h2⟩, fun ⟨x, h1, h2⟩ => ⟨x, h1, sameB_iff.2 h2⟩⟩
theorem key_dec (k : ByteArray) : k = ⟨#[]⟩ ∨ k ≠ ⟨#[]⟩ := Classical.em _
theorem give_rel {r : Rw} {L : List (ByteArray × Nd)} (hf : Fine r L) : ∀ (l ahead : List Nd) (g : ByteArray → Option Nd) (next : Nat) (keyed : Bool) (taken : List Nat), GR r ahead g next keyed taken →
  (∃ e, giveL L l ahead g = .error e ∧ givenL r l next keyed taken = .error e) ∨ (∃ g' tk nx kd, giveL L l ahead g = .ok g' ∧ givenL r l next keyed taken = .ok tk ∧ GR r (ahead ++ l) g' nx kd tk)
 | [], ahead, g, next, keyed, taken, h => .inr ⟨g, taken, next, keyed, rfl, rfl, by rw [List.append_nil]; exact h⟩
 | x :: l, ahead, g, next, keyed, taken, h => by
  have none_ : g ⟨#[]⟩ = none := h.no _ fun k _ e => hf.ne _ (List.mem_of_getElem? e) rfl
  have eqx : givenL r (x :: l) next keyed taken = if x.key.size != 0 then (match placeI r.args x.key with | none => .error (132, x.at_) | some k => if taken.contains k then .error (132, x.at_) else givenL r l next true (taken ++ [k])) else if keyed then .error (132, x.at_) else if r.args.length ≤ next then .error (131, x.at_) else givenL r l (next + 1) false (taken ++ [next]) := by cases x; rfl
  have app : ahead ++ x :: l = (ahead ++ [x]) ++ l := by simp
  have egl : giveL L (x :: l) ahead g = if (g (meantR L x.key ahead).1).isSome then .error (132, x.at_) else if (meantR L x.key ahead).2 ≠ 0 then .error ((meantR L x.key ahead).2, x.at_) else giveL L l (ahead ++ [x]) (updN g (meantR L x.key ahead).1 (keyN x ⟨#[]⟩)) := by rw [giveL]
  rcases key_dec x.key with hk | hk
  ·have e1 : (x.key.toList == []) = true := key_empty.2 hk
   have e2 : (x.key.size != 0) = false := by rw [← Bool.not_eq_true, size_empty]; exact fun c => c hk
   have e3 : isKeyed x = false := by rw [← Bool.not_eq_true, isKeyed_iff]; exact fun c => c hk
   rw [if_neg (by rw [e2]; decide)] at eqx
   cases hkd : keyed
   ·rw [hkd, if_neg (by decide)] at eqx
    have hkd2 : ahead.any isKeyed = false := by rw [← h.kd]; exact hkd
    obtain ⟨n1, n2⟩ := h.nx hkd
    have hm : meantR L x.key ahead = match L[ahead.length]? with | some y => (y.1, 0) | none => (⟨#[]⟩, 131) := by
     unfold meantR
     rw [if_neg (by rw [e1]; decide), if_neg (by rw [hkd2]; decide)]
     cases L[ahead.length]? <;> rfl
    have hlen : L.length = r.args.length := by rw [← hf.names]; simp
    by_cases c : r.args.length ≤ next
    ·rw [if_pos c] at eqx
     rw [List.getElem?_eq_none (by omega)] at hm
     simp only at hm
     rw [hm, if_neg (by rw [none_]; decide), if_pos (by decide)] at egl
     exact .inl ⟨_, egl, eqx⟩
    ·rw [if_neg c] at eqx
     have hlt : ahead.length < L.length := by omega
     rw [List.getElem?_eq_getElem hlt] at hm
     simp only at hm
     have ha : r.args[next]? = some (L[ahead.length]).1 := by
      rw [← hf.names, n1, List.getElem?_map, List.getElem?_eq_getElem hlt]; rfl
     have hnt : next ∉ taken := fun c => Nat.lt_irrefl _ (n2 _ c)
     have hg : g (L[ahead.length]).1 = none := h.no _ fun k hk e => hnt (by rw [nodup_at hf.nd ha e]; exact hk)
     rw [hm, if_neg (by rw [hg]; decide), if_neg (by simp)] at egl
     rw [egl, eqx, app]
     refine give_rel hf l _ _ _ _ _ (h.push hf.nd ha hnt ?_ fun _ => ⟨?_, fun j hj => ?_⟩)
     ·rw [List.any_append, hkd2]; simp [e3]
     ·simp [n1]
     ·rcases List.mem_append.1 hj with hj | hj
      ·have := n2 j hj; omega
      ·rw [List.mem_singleton.1 hj]; omega
   ·rw [hkd, if_pos rfl] at eqx
    have hkd2 : ahead.any isKeyed = true := by rw [← h.kd]; exact hkd
    have hm : meantR L x.key ahead = (⟨#[]⟩, 132) := by
     unfold meantR
     rw [if_neg (by rw [e1]; decide), if_pos hkd2]
    rw [hm, if_neg (by rw [none_]; decide), if_pos (by decide)] at egl
    exact .inl ⟨_, egl, eqx⟩
  ·have e1 : (x.key.toList == []) = false := by rw [← Bool.not_eq_true, key_empty]; exact hk
   have e2 : (x.key.size != 0) = true := size_empty.2 hk
   have e3 : isKeyed x = true := isKeyed_iff.2 hk
   rw [if_pos e2] at eqx
   cases hp : placeI r.args x.key with
   | none =>
    rw [hp] at eqx
    have hm : meantR L x.key ahead = (⟨#[]⟩, 132) := by
     unfold meantR
     rw [if_pos e1, if_neg (fun c => placeI_not hp ((any_name hf x.key).1 c))]
    rw [hm, if_neg (by rw [none_]; decide), if_pos (by decide)] at egl
    exact .inl ⟨_, egl, eqx⟩
   | some k =>
    rw [hp] at eqx
    simp only at eqx
    have ha := placeI_yes hp
    have hm : meantR L x.key ahead = (x.key, 0) := by
     unfold meantR
     rw [if_pos e1, if_pos ((any_name hf x.key).2 (List.mem_of_getElem? ha))]
    rw [hm] at egl
    by_cases c : k ∈ taken
    ·rw [if_pos (h.yes c ha)] at egl
     rw [if_pos (List.contains_iff_mem.2 c)] at eqx
     exact .inl ⟨_, egl, eqx⟩
    ·have hg : g x.key = none := h.no _ fun j hj e => c (by rw [nodup_at hf.nd ha e]; exact hj)
     rw [if_neg (by rw [hg]; decide), if_neg (by simp)] at egl
     rw [if_neg (fun d => c (List.contains_iff_mem.1 d))] at eqx
     rw [egl, eqx, app]
     exact give_rel hf l _ _ _ _ _ (h.push hf.nd ha c (by simp [e3]) fun h => by cases h)
theorem giveP_eq {r : Rw} {L : List (ByteArray × Nd)} (hf : Fine r L) (t : Nd) :
  (∃ e, giveP L t = .error e ∧ givenP r t = .error e) ∨ (∃ g tk nx kd, giveP L t = .ok g ∧ givenP r t = .ok tk ∧ GR r t.args g nx kd tk) := by
 unfold giveP givenP
 have h0 : GR r [] (fun _ => none) 0 false [] := ⟨rfl, fun _ => ⟨rfl, fun k h => absurd h List.not_mem_nil⟩, rfl, fun k h => absurd h List.not_mem_nil, List.nodup_nil, fun i h => absurd h (Nat.not_lt_zero _), fun _ _ => rfl⟩
 rcases give_rel hf t.args [] _ 0 false [] h0 with ⟨e, h1, h2⟩ | ⟨g, tk, nx, kd, h1, h2, h3⟩
 ·rw [h1, h2]
  exact .inl ⟨e, rfl, rfl⟩
 ·rw [h1, h2]
  rw [List.nil_append] at h3
  by_cases c : 0 ∈ tk
  ·have e1 := h3.yes c hf.rate
   have e2 : tk.contains 0 = true := List.contains_iff_mem.2 c
   simp only [e1, e2, if_true]
   exact .inr ⟨g, tk, nx, kd, rfl, rfl, h3⟩
  ·have e1 : g ⟨#[114, 97, 116, 101]⟩ = none := h3.no _ fun k hk e => c (by rw [nodup_at hf.nd hf.rate e]; exact hk)
   have e2 : tk.contains 0 = false := by rw [← Bool.not_eq_true, List.contains_iff_mem]; exact c
   simp only [e1, e2]
   exact .inl ⟨(131, t.at_), by simp, by simp⟩
theorem giveL_ne {L : List (ByteArray × Nd)} : ∀ {l ahead : List Nd} {g : ByteArray → Option Nd} {er a : Int}, giveL L l ahead g = .error (er, a) → er ≠ 0
 | [], ahead, g, er, a, h => by rw [giveL] at h; cases h
 | x :: l, ahead, g, er, a, h => by
  rw [giveL] at h
  split at h
  ·simp only [Except.error.injEq, Prod.mk.injEq] at h
   rw [← h.1]; decide
  ·split at h
   ·rename_i h2
    simp only [Except.error.injEq, Prod.mk.injEq] at h
    rw [← h.1]; exact h2
   ·exact giveL_ne h
theorem giveP_ne {L : List (ByteArray × Nd)} {t : Nd} {er a : Int} (h : giveP L t = .error (er, a)) : er ≠ 0 := by
 unfold giveP at h
 split at h
 ·rename_i e he
  cases h
  exact giveL_ne he
 ·split at h
  ·cases h
  ·simp only [Except.error.injEq, Prod.mk.injEq] at h
   rw [← h.1]; decide
theorem parts_fill {r : Rw} {L : List (ByteArray × Nd)} (hf : Fine r L) {xs : List Nd} {g : ByteArray → Option Nd} {nx : Nat} {kd : Bool} {tk : List Nat} (h : GR r xs g nx kd tk) (a : Int) {k : Nat} {nm : ByteArray} (hk : r.args[k]? = some nm) :
  partsL a L g nm = some (ix (fillA tk xs (r.vals.map fun v => placeN v a)) k) := by
 have hkl := (List.getElem?_eq_some_iff.1 hk).1
 have hvl : r.vals.length = r.args.length := by rw [← hf.names, ← hf.vals]; simp
 have hLl : L.length = r.args.length := by rw [← hf.names]; simp
 rw [partsL_at]
 by_cases c : k ∈ tk
 ·rw [if_pos (h.yes c hk)]
  obtain ⟨i, hi, rfl⟩ := List.getElem_of_mem c
  rw [h.is i hi (by rw [← h.len]; exact hi) nm hk]
  unfold ix
  rw [List.getD_eq_getElem?_getD, fill_at tk xs _ i hi (by rw [← h.len]; exact hi) h.nd (by rw [List.length_map, hvl]; exact hkl)]
  rfl
 ·have hn : g nm = none := h.no nm fun j hj e => c (by rw [nodup_at hf.nd hk e]; exact hj)
  rw [hn]
  simp only [Option.isSome_none, Bool.false_eq_true, if_false]
  unfold ix
  rw [List.getD_eq_getElem?_getD, fill_no tk xs _ k c, List.getElem?_map, List.getElem?_eq_getElem (by rw [hvl]; exact hkl)]
  have hkL : k < L.length := by rw [hLl]; exact hkl
  have hfind : L.find? (fun x => decide (x.1 = nm)) = some L[k] := by
   refine find_at (by rw [hf.names]; exact hf.nd) (List.getElem_mem hkL) ?_
   have : (L.map fun x => x.1)[k]? = some nm := by rw [hf.names]; exact hk
   rw [List.getElem?_map, List.getElem?_eq_getElem hkL] at this
   exact Option.some.inj this
  have hval : r.vals[k]'(by rw [hvl]; exact hkl) = (L[k]).2 := by
   have : (L.map fun x => x.2)[k]? = r.vals[k]? := by rw [hf.vals]
   rw [List.getElem?_map, List.getElem?_eq_getElem hkL, List.getElem?_eq_getElem (by rw [hvl]; exact hkl)] at this
   exact (Option.some.inj this).symm
  rw [hfind, hval]
  simp only [Option.map_some, Option.getD_some, Option.some.injEq]
  have hl := hf.leaf (L[k]).2 (by rw [← hval]; exact List.getElem_mem _)
  unfold atN placeN
  rw [hl, placeL_nil]
end Go.Proofs.YtmiidhgbdecdkaaGreat
namespace Go.Proofs.YtmiidhgbdecdkaaGreat
open Go.RowKit
set_option linter.unusedVariables false
set_option linter.unusedSimpArgs false
theorem und_nodes : Tryz.prog.underlying 27 = some (.slice (Tryz.prog.elem 27)) := by kernel_rfl
theorem elem_nodes : Tryz.prog.elem 27 = 29 := by kernel_rfl
theorem size_node (w : World) : (sizeOf 29).run Tryz.prog w = .ok 7 w := by
 obtain ⟨i0, hi0, hz0, hz1, hz2⟩ := info_parts info_Node
 have h := run_sizeOf (P := Tryz.prog) (w := w) hi0
 rw [show Tryz.prog.cellsOf 29 = 7 by kernel_rfl] at h
 exact h
theorem nodes_to (p : Option Addr) (n c h : Nat) (hh : h ≤ c) (w : World) : (Instr.sliceAt 27 (.slice p n c) none (some (.int .i64 h)) none).run Tryz.prog w = .ok (.slice p h c) w := by
 rw [run_sliceAt_slice (h := und_nodes), run_slice_h (ht := und_nodes) (h0 := by omega) (h2 := by omega), elem_nodes, size_node]
 show Result.ok (sliced p 0 (h : Int).toNat c 7) w = _
 unfold sliced
 congr 1
 by_cases c0 : c = 0
 ·subst c0; simp
 ·rw [if_neg c0]; cases p <;> simp [Addr.add]
theorem PM.new (w : World) (S : Blk) : PM (w.alloc (.map #[] 0)) w.heap.size 0 (fun _ => none) S := ⟨_, MapF.new w, fun k => rfl⟩
theorem PM.put {w : World} {b n : Nat} {g : ByteArray → Option Nd} {S : Blk} (h : PM w b n g S) (hn : n < maxLen) (hS : ∀ j, S j → j ≠ b ∧ j < w.heap.size) {k : ByteArray} (hk : k.size ≤ maxLen) {x : Nd} {p : Option Addr} {c : Nat} (hx : Kids w (inH S) (.slice p x.args.length c) x.args) :
  ∃ w', (Instr.mapUpdate 89 (.map (some b)) (.string k) (nv x (.slice p x.args.length c))).run Tryz.prog w = .ok () w' ∧ PM w' b (n + 1) (updN g k x) S ∧ w.grownBy w' (some b) := by
 obtain ⟨f, h1, h2⟩ := h
 obtain ⟨w', r1, r2, r3⟩ := h1.put hn Tryz.underlying89 hk (nv x (.slice p x.args.length c))
 have kk : ∀ j, S j → w'.heap[j]? = w.heap[j]? := fun j hj => r3.block j (hS j hj).2 (fun e => (hS j hj).1 (Option.some.inj e))
 refine ⟨w', r1, ⟨_, r2, fun y => ?_⟩, r3⟩
 unfold updN updF
 by_cases e : y = k
 ·rw [if_pos e, if_pos e]
  exact ⟨p, c, rfl, hx.inKeep kk⟩
 ·rw [if_neg e, if_neg e]
  have := h2 y
  cases hy : g y with
  | none => rw [hy] at this; exact this
  | some t =>
   rw [hy] at this
   obtain ⟨p', c', e1, e2⟩ := this
   exact ⟨p', c', e1, e2.inKeep kk⟩
theorem PM.look2 {w : World} {b n : Nat} {g : ByteArray → Option Nd} {S : Blk} (h : PM w b n g S) {k : ByteArray} (hk : k.size ≤ maxLen) :
  (∃ y p c, g k = some y ∧ (Instr.lookup 89 (.map (some b)) (.string k) true).run Tryz.prog w = .ok (.tuple #[nv y (.slice p y.args.length c), .bool true]) w) ∨ (g k = none ∧ (Instr.lookup 89 (.map (some b)) (.string k) true).run Tryz.prog w = .ok (.tuple #[.agg #[.int .i64 0, .string ⟨#[]⟩, .int .u32 0, .int .i64 0, .string ⟨#[]⟩, .slice none 0 0, .int .i64 0], .bool false]) w) := by
 obtain ⟨f, h1, h2⟩ := h
 have hr := h1.look2 Tryz.underlying89 (zero_Node w) hk
 have := h2 k
 cases hy : g k with
 | none =>
  rw [hy] at this
  simp only at this
  rw [this] at hr
  exact .inr ⟨rfl, hr⟩
 | some t =>
  rw [hy] at this
  obtain ⟨p, c, e1, e2⟩ := this
  rw [e1] at hr
  exact .inl ⟨t, p, c, rfl, hr⟩
theorem meant_size {L : List (ByteArray × Nd)} {key : ByteArray} {ahead : List Nd} (hL : ∀ x ∈ L, x.1.size ≤ maxLen) (hk : key.size ≤ maxLen) : (meantR L key ahead).1.size ≤ maxLen := by
 have h0 : (⟨#[]⟩ : ByteArray).size ≤ maxLen := by unfold maxLen; decide
 unfold meantR
 split
 ·split
  ·exact hk
  ·exact h0
 ·split
  ·exact h0
  ·split
   ·rename_i x hx
    exact hL x (List.mem_of_getElem? hx)
   ·exact h0
theorem Below.map {B b : Nat} {w v w' : World} (h : Below B w v) (hg : v.grownBy w' (some b)) (hB : B ≤ v.heap.size) (hb : B ≤ b) : Below B w w' :=
 ⟨hg.os.trans h.os, hg.tape.trans h.tape, hg.output.trans h.output, Nat.le_trans h.size hg.size, fun j hj => (hg.block j (by omega) (fun e => by have : j = b := Option.some.inj e; omega)).trans (h.block j hj)⟩
set_option maxRecDepth 100000 in
set_option maxHeartbeats 4000000 in
theorem give_any (L : List (ByteArray × Nd)) (t : Nd) (q : Option Addr) (c : Nat) (f : Fn) (x1 x2 : Array Value) (b o : Nat) (S : Blk) (w : World) (hl : L.length ≤ 40000) (hla : t.args.length ≤ 40000) (hLs : ∀ x ∈ L, x.1.size ≤ maxLen) (hks : ∀ x ∈ t.args, x.key.size ≤ maxLen) (hS : ∀ j, S j → j < w.heap.size) (h : ArgsG w q L) (hn : NodeA w (inH S) b o t) :
  Calls Tryz.prog 47 #[.agg #[.slice q L.length c, .func f x1 x2], .pointer (some ⟨b, o, none⟩)] w fun e w' => Below w.heap.size w w' ∧ ((∃ er a, giveP L t = .error (er, a) ∧ e = .returned (.tuple #[.map none, .int .i64 er, .int .i64 a])) ∨ (∃ g bm m, giveP L t = .ok g ∧ e = .returned (.tuple #[.map (some bm), .int .i64 0, .int .i64 0]) ∧ PM w' bm m g S ∧ m ≤ t.args.length ∧ w.heap.size ≤ bm)) := by
 obtain ⟨GP, hGP⟩ : ∃ GP, giveP L t = GP := ⟨_, rfl⟩
 rw [hGP]
 have HGP : Hid (giveP L t = GP) := hGP
 obtain ⟨-, -, -, -, -, e6, sv, e5, hk⟩ := hn
 obtain ⟨pa, d, rfl, hq, hka⟩ := hk
 have HKA : Hid (t.args = [] ∨ ∃ b', pa = some ⟨b', 0, none⟩ ∧ t.args.length ≤ d ∧ KA w (inH S) b' 0 t.args) := by
  rcases hka with e | ⟨b', o', rfl, hka⟩
  ·exact .inl e
  ·rcases hq with ⟨hh, -⟩ | ⟨b2, hh, -, hc⟩
   ·cases hh
   ·simp only [Option.some.injEq, Addr.mk.injEq] at hh
    obtain ⟨rfl, rfl, -⟩ := hh
    exact .inr ⟨b', rfl, hc, hka⟩
 obtain ⟨n, hnn⟩ : ∃ n, t.args.length = n := ⟨_, rfl⟩
 obtain ⟨Ln, hLn⟩ : ∃ n, L.length = n := ⟨_, rfl⟩
 have HN : Hid (t.args.length = n ∧ L.length = Ln) := ⟨hnn, hLn⟩
 rw [hnn] at e5 hla
 rw [hLn] at hl ⊢
 have H5 : Hid (w.cell? ⟨b, o + 5, none⟩ = some (.slice pa n d)) := e5
 have H6 : Hid (w.cell? ⟨b, o + 6, none⟩ = some (.int .i64 t.at_)) := e6
 have HA : Hid (ArgsG w q L) := h
 have HSW : Hid ((∀ j, S j → j < w.heap.size) ∧ (∀ x ∈ L, x.1.size ≤ maxLen) ∧ ∀ x ∈ t.args, x.key.size ≤ maxLen) := ⟨hS, hLs, hks⟩
 have hbx := bel_alloc w (.cells #[.slice q Ln c, .func f x1 x2] 47)
 have hxx := box_heapA w (.cells #[.slice q Ln c, .func f x1 x2] 47)
 have hpm := PM.new (w.alloc (.cells #[.slice q Ln c, .func f x1 x2] 47)) S
 have hbm : Below w.heap.size w ((w.alloc (.cells #[.slice q Ln c, .func f x1 x2] 47)).alloc (.map #[] 0)) := bel hbx (bel_alloc _ _)
 have hxm := heap_old _ (.map #[] 0) hxx
 have e1 : (w.alloc (.cells #[.slice q Ln c, .func f x1 x2] 47)).heap.size = w.heap.size + 1 := by simp
 rw [e1] at hpm
 have HST : Hid (Below w.heap.size w ((w.alloc (.cells #[.slice q Ln c, .func f x1 x2] 47)).alloc (.map #[] 0)) ∧ ((w.alloc (.cells #[.slice q Ln c, .func f x1 x2] 47)).alloc (.map #[] 0)).heap[w.heap.size]? = some (.cells #[.slice q Ln c, .func f x1 x2] 47) ∧ PM ((w.alloc (.cells #[.slice q Ln c, .func f x1 x2] 47)).alloc (.map #[] 0)) (w.heap.size + 1) 0 (fun _ => none) S) := ⟨hbm, hxm, hpm⟩
 have z5 := (hbm.cell (mcell_lt e5)).trans e5
 have hmm := @run_makeMap Tryz.prog
 clear hGP hq hka hnn hLn hLs hks hS h hbx hxx hpm hbm hxm e5 e6
 go_enter Tryz.func47, Tryz.ntmps47
 go_wp2
 go_loopw [22] (fun iv wr => ∃ j : Nat, j ≤ n ∧ iv = .int .i64 j ∧ Hid (∃ m g, Below w.heap.size w wr ∧ wr.heap[w.heap.size]? = some (.cells #[.slice q Ln c, .func f x1 x2] 47) ∧ PM wr (w.heap.size + 1) m g S ∧ m ≤ j ∧ giveL L t.args [] (fun _ => none) = giveL L (t.args.drop j) (t.args.take j) g)) (fun iv _ => n - (intOf iv).toNat)
 case atStart => exact ⟨0, Nat.zero_le _, rfl, 0, _, HST.out.1, HST.out.2.1, HST.out.2.2, Nat.le_refl _, rfl⟩
 case round =>
  obtain ⟨j, hj, rfl, HS⟩ := hrel
  obtain ⟨m, g, hb, hr0, hpm, hmj, hgl⟩ := HS.out
  clear HS HST z5
  have HB : Hid (Below w.heap.size w wr) := hb
  have HPM : Hid (PM wr (w.heap.size + 1) m g S) := hpm
  have HGL : Hid (giveL L t.args [] (fun _ => none) = giveL L (t.args.drop j) (t.args.take j) g) := hgl
  have HMJ : Hid (m ≤ j) := hmj
  have HR0 : Hid (wr.heap[w.heap.size]? = some (.cells #[.slice q Ln c, .func f x1 x2] 47)) := hr0
  by_cases hlt0 : j < n
  ·have hll : j < t.args.length := by rw [HN.out.1]; exact hlt0
   obtain ⟨b', rfl, hnd, hka⟩ : ∃ b', pa = some ⟨b', 0, none⟩ ∧ t.args.length ≤ d ∧ KA w (inH S) b' 0 t.args := by
    rcases HKA.out with e | e
    ·rw [e] at hll; exact absurd hll (Nat.not_lt_zero _)
    ·exact e
   have hdr : t.args.drop j = t.args[j] :: t.args.drop (j + 1) := List.drop_eq_getElem_cons hll
   have htk : t.args.take (j + 1) = t.args.take j ++ [t.args[j]] := ntake_succ hll
   have hnj := (KA_get hka hll).below hb
   have htl : (t.args.take j).length = j := by rw [List.length_take]; omega
   have hah : Kids wr anyH (.slice (some ⟨b', 0, none⟩) (t.args.take j).length d) (t.args.take j) := by
    refine ⟨_, _, rfl, trivial, .inr ⟨b', 0, rfl, KA_of fun i hi => ?_⟩⟩
    rw [List.getElem_take]
    exact ((KA_get hka (by rw [List.length_take] at hi; omega)).below hb).weak fun _ _ _ _ => trivial
   have hkx : t.args[j].key.size ≤ maxLen := HSW.out.2.2 _ (List.getElem_mem hll)
   obtain ⟨X, hX⟩ : ∃ X, t.args[j] = X := ⟨_, rfl⟩
   rw [hX] at hdr htk hnj hkx
   obtain ⟨AH, hAH⟩ : ∃ l, t.args.take j = l := ⟨_, rfl⟩
   rw [hAH] at htk htl hah hgl
   obtain ⟨ML, hML⟩ : ∃ m, meantR L X.key AH = m := ⟨_, rfl⟩
   have hNM := meant_size (L := L) (key := X.key) (ahead := AH) HSW.out.2.1 hkx
   rw [hML] at hNM
   obtain ⟨NM, ER⟩ := ML
   have HGN : Hid (giveL L t.args [] (fun _ => none) = if (g NM).isSome then .error (132, X.at_) else if ER ≠ 0 then .error (ER, X.at_) else giveL L (t.args.drop (j + 1)) (t.args.take (j + 1)) (updN g NM (keyN X ⟨#[]⟩))) := by
    show _ = _
    rw [hgl, hdr, giveL, hML, htk]
   obtain ⟨y0, y1, y2, y3, y4, y6, svx, y5, hkd⟩ := hnj
   rw [Nat.zero_add] at y0 y1 y2 y3 y4 y5 y6
   obtain ⟨px, cx, rfl, -⟩ := id hkd
   have HKX : Hid (Kids wr (inH S) (.slice px X.args.length cx) X.args) := hkd
   obtain ⟨W4, hW4, hX4, hB4, -⟩ := new_box wr
   obtain ⟨⟨q0, q1, q2, q3, q4, q5, q6⟩, r0, r1, r2, r3, r4, r5, r6⟩ := sevenA hX4
   have HX4 := hidM hX4
   have HB4 := hidM hB4
   have HAH := hidM hah
   have HTL := hidM htl
   have HML := hidM hML
   have HNM : Hid (NM.size ≤ maxLen) := hNM
   have HND : Hid (t.args.length ≤ d) := hnd
   have i1 : (0 : Int) ≤ (j : Int) := by omega
   have i2 : (j : Int) < (n : Int) := by omega
   clear hX4 hB4 hah htl hML hNM hkd hgl hdr htk hkx hX hAH hka HKA hpm hr0 hb hmj HGL hnd hll
   go_upto_region 5 with fail
   have hXU := put_sevenA HX4.out (.int .i64 X.kind) (.string X.name) (.int .u32 X.num) (.int .i64 X.int_) (.string X.key) (.slice px X.args.length cx) (.int .i64 X.at_)
   have hBU := below_seven HB4.out (.int .i64 X.kind) (.string X.name) (.int .u32 X.num) (.int .i64 X.int_) (.string X.key) (.slice px X.args.length cx) (.int .i64 X.at_)
   obtain ⟨U, hU⟩ : ∃ U, (((((((W4.setCell ⟨wr.heap.size, 0, none⟩ (.int .i64 X.kind)).setCell ⟨wr.heap.size, 1, none⟩ (.string X.name)).setCell ⟨wr.heap.size, 2, none⟩ (.int .u32 X.num)).setCell ⟨wr.heap.size, 3, none⟩ (.int .i64 X.int_)).setCell ⟨wr.heap.size, 4, none⟩ (.string X.key)).setCell ⟨wr.heap.size, 5, none⟩ (.slice px X.args.length cx)).setCell ⟨wr.heap.size, 6, none⟩ (.int .i64 X.at_)) = U := ⟨_, rfl⟩
   rw [hU] at hXU hBU ⊢
   have HBU : Hid (Below wr.heap.size wr U) := hBU
   have HOW : Hid (wr.heap.size ≤ U.heap.size) := hBU.size
   obtain ⟨O, hO⟩ : ∃ O, wr.heap.size = O := ⟨_, rfl⟩
   have HO : Hid (wr.heap.size = O) := hO
   rw [hO] at hXU ⊢
   have hrU := (hBU.block _ (hlt HR0.out)).trans HR0.out
   obtain ⟨ky, hky⟩ : ∃ ky, X.key = ky := ⟨_, rfl⟩
   have HXU := hidM hXU
   obtain ⟨⟨g0, g1⟩, -⟩ := twoC hrU
   obtain ⟨⟨-, -, -, -, g4, -, -⟩, -⟩ := sevenA hXU
   rw [hky] at g4
   have g5 := ((bel HB.out hBU).cell (mcell_lt H5.out)).trans H5.out
   have hsl := nodes_to (some ⟨b', 0, none⟩) n d j (by have := HND.out; have := HN.out.1; omega)
   have HMN : Hid (∀ x, Below U.heap.size U x → Calls Tryz.prog 86 #[.agg #[.slice q Ln c, .func f x1 x2], .string ky, .slice (some ⟨b', 0, none⟩) j d] x fun e w' => e = .returned (.tuple #[.string NM, .int .i64 ER]) ∧ Below x.heap.size x w') := fun x k => by
    have := rmeant_any L X.key AH q (some ⟨b', 0, none⟩) c d f x1 x2 x (by rw [HN.out.2]; exact hl) (by rw [HTL.out]; omega) (HA.out.kp (Kp.of (bel HB.out (bel HBU.out k)))) (HAH.out.below (bel HBU.out k))
    rw [HML.out, HN.out.2, HTL.out, hky] at this
    exact this
   clear hU hXU hBU hrU hO hky hW4 y0 y1 y2 y3 y4 y5 y6 q0 q1 q2 q3 q4 q5 q6 r0 r1 r2 r3 r4 r5 r6
   refine wp_region_held_drew (S := (fun x => x.cell? ⟨w.heap.size, 0, none⟩ = some (.slice q Ln c) ∧ x.cell? ⟨w.heap.size, 1, none⟩ = some (.func f x1 x2) ∧ x.cell? ⟨O, 4, none⟩ = some (.string ky) ∧ x.cell? ⟨b, o + 5, none⟩ = some (.slice (some ⟨b', 0, none⟩) n d))) (by kernel_rfl) ?_ (fun hHeld => ?_)
   ·((try dsimp only); first | exact ⟨g0, g1, g4, g5⟩ | exact ⟨k0, k1, k4, k5⟩)
   refine wpAnyH_take (i := 0) (v := ?_) (by simp only [List.getElem?_toArray, List.getElem?_cons_succ, List.getElem?_cons_zero]; rfl) (by kernel_rfl) (by kernel_rfl) (by kernel_rfl) (by exact fun _ _ _ h => h) (Or.inl ⟨by rfl, ?_⟩) (by assumption) ?_
   rotate_left 1
   ·(intro wS hSw; (try dsimp only at hSw); go_simp; try (with_reducible rfl))
   try simp only [Act.put, List.setIfInBounds_toArray, List.set_cons_zero, List.set_cons_succ]
   refine wpAnyH_take (i := 1) (v := ?_) (by simp only [List.getElem?_toArray, List.getElem?_cons_succ, List.getElem?_cons_zero]; rfl) (by kernel_rfl) (by kernel_rfl) (by kernel_rfl) (by exact fun _ _ _ h => h) (Or.inl ⟨by rfl, ?_⟩) (by assumption) ?_
   rotate_left 1
   ·(intro wS hSw; (try dsimp only at hSw); go_simp; try (with_reducible rfl))
   try simp only [Act.put, List.setIfInBounds_toArray, List.set_cons_zero, List.set_cons_succ]
   refine wpAnyH_take (i := 2) (v := ?_) (by simp only [List.getElem?_toArray, List.getElem?_cons_succ, List.getElem?_cons_zero]; rfl) (by kernel_rfl) (by kernel_rfl) (by kernel_rfl) (by exact fun _ _ _ h => h) (Or.inl ⟨by rfl, ?_⟩) (by assumption) ?_
   rotate_left 1
   ·(intro wS hSw; (try dsimp only at hSw); go_simp; try (with_reducible rfl))
   try simp only [Act.put, List.setIfInBounds_toArray, List.set_cons_zero, List.set_cons_succ]
   refine wpAnyH_take (i := 3) (v := ?_) (by simp only [List.getElem?_toArray, List.getElem?_cons_succ, List.getElem?_cons_zero]; rfl) (by kernel_rfl) (by kernel_rfl) (by kernel_rfl) (by exact fun _ _ _ h => h) (Or.inl ⟨by rfl, ?_⟩) (by assumption) ?_
   rotate_left 1
   ·(intro wS hSw; (try dsimp only at hSw); go_simp; try (with_reducible rfl))
   try simp only [Act.put, List.setIfInBounds_toArray, List.set_cons_zero, List.set_cons_succ]
   refine wpAnyH_take (i := 4) (v := ?_) (by simp only [List.getElem?_toArray, List.getElem?_cons_succ, List.getElem?_cons_zero]; rfl) (by kernel_rfl) (by kernel_rfl) (by kernel_rfl) (by exact fun _ _ _ h => h) (Or.inl ⟨by rfl, ?_⟩) (by assumption) ?_
   rotate_left 1
   ·(intro wS hSw; (try dsimp only at hSw); go_simp; try (with_reducible rfl))
   try simp only [Act.put, List.setIfInBounds_toArray, List.set_cons_zero, List.set_cons_succ]
   refine wpAnyH_take (i := 5) (v := ?_) (by simp only [List.getElem?_toArray, List.getElem?_cons_succ, List.getElem?_cons_zero]; rfl) (by kernel_rfl) (by kernel_rfl) (by kernel_rfl) (by exact fun _ _ _ h => h) (Or.inl ⟨by rfl, ?_⟩) (by assumption) ?_
   rotate_left 1
   ·(intro wS hSw; (try dsimp only at hSw); go_simp; try (with_reducible rfl))
   try simp only [Act.put, List.setIfInBounds_toArray, List.set_cons_zero, List.set_cons_succ]
   refine wpAnyH_take (i := 6) (v := ?_) (by simp only [List.getElem?_toArray, List.getElem?_cons_succ, List.getElem?_cons_zero]; rfl) (by kernel_rfl) (by kernel_rfl) (by kernel_rfl) (by exact fun _ _ _ h => h) (Or.inl ⟨by rfl, ?_⟩) (by assumption) ?_
   rotate_left 1
   ·(intro wS hSw; (try dsimp only at hSw); go_simp; try (with_reducible rfl))
   try simp only [Act.put, List.setIfInBounds_toArray, List.set_cons_zero, List.set_cons_succ]
   refine wpAnyH_take (i := 7) (v := ?_) (by simp only [List.getElem?_toArray, List.getElem?_cons_succ, List.getElem?_cons_zero]; rfl) (by kernel_rfl) (by kernel_rfl) (by kernel_rfl) (by exact fun _ _ _ h => h) (Or.inl ⟨by rfl, ?_⟩) (by assumption) ?_
   rotate_left 1
   ·(intro wS hSw; (try dsimp only at hSw); go_simp; try (with_reducible rfl))
   try simp only [Act.put, List.setIfInBounds_toArray, List.set_cons_zero, List.set_cons_succ]
   refine wpAnyH_take (i := 8) (v := ?_) (by simp only [List.getElem?_toArray, List.getElem?_cons_succ, List.getElem?_cons_zero]; rfl) (by kernel_rfl) (by kernel_rfl) (by kernel_rfl) (by exact fun _ _ _ h => h) (Or.inl ⟨by rfl, ?_⟩) (by assumption) ?_
   rotate_left 1
   ·(intro wS hSw; (try dsimp only at hSw); go_simp; try (with_reducible rfl))
   try simp only [Act.put, List.setIfInBounds_toArray, List.set_cons_zero, List.set_cons_succ]
   clear hHeld
   refine wpAnyH_ready (rs := [9]) (by kernel_rfl) (by simp) ?_
   refine AllReadyH.cons (i := 9) (by simp only [List.getElem?_toArray, List.getElem?_cons_succ, List.getElem?_cons_zero]; rfl) (fun K hK => ?_) AllReadyH.nil
   go_simp
   (go_at_call 86; (with_reducible refine (HMN.out _ (bel_d _)).mono ?_); rintro e v9 ⟨rfl, hb9⟩; have hb9' := bel (bel_d U) hb9; have HB9 : Hid (Below U.heap.size U v9) := hb9'; have k0 := (hb9'.cell (mcell_lt g0)).trans g0; have k1 := (hb9'.cell (mcell_lt g1)).trans g1; have k4 := (hb9'.cell (mcell_lt g4)).trans g4; have k5 := (hb9'.cell (mcell_lt g5)).trans g5; clear hb9 hb9')
   try (go_wp2_with fail)
   refine hK.out _ _ ?_ (fun hHeld => ?_)
   ·((try dsimp only); first | exact ⟨g0, g1, g4, g5⟩ | exact ⟨k0, k1, k4, k5⟩)
   clear hK K
   try simp only [Act.put, List.setIfInBounds_toArray, List.set_cons_zero, List.set_cons_succ]
   refine wpAnyH_take (i := 10) (v := ?_) (by simp only [List.getElem?_toArray, List.getElem?_cons_succ, List.getElem?_cons_zero]; rfl) (by kernel_rfl) (by kernel_rfl) (by kernel_rfl) (by exact fun _ _ _ h => h) (Or.inl ⟨by rfl, ?_⟩) (by assumption) ?_
   rotate_left 1
   ·(intro wS hSw; (try dsimp only at hSw); go_simp; try (with_reducible rfl))
   try simp only [Act.put, List.setIfInBounds_toArray, List.set_cons_zero, List.set_cons_succ]
   refine wpAnyH_take (i := 11) (v := ?_) (by simp only [List.getElem?_toArray, List.getElem?_cons_succ, List.getElem?_cons_zero]; rfl) (by kernel_rfl) (by kernel_rfl) (by kernel_rfl) (by exact fun _ _ _ h => h) (Or.inl ⟨by rfl, ?_⟩) (by assumption) ?_
   rotate_left 1
   ·(intro wS hSw; (try dsimp only at hSw); go_simp; try (with_reducible rfl))
   try simp only [Act.put, List.setIfInBounds_toArray, List.set_cons_zero, List.set_cons_succ]
   refine wpAnyH_take (i := 12) (v := ?_) (by simp only [List.getElem?_toArray, List.getElem?_cons_succ, List.getElem?_cons_zero]; rfl) (by kernel_rfl) (by kernel_rfl) (by kernel_rfl) (by exact fun _ _ _ h => h) (Or.inl ⟨by rfl, ?_⟩) (by assumption) ?_
   rotate_left 1
   ·(intro wS hSw; (try dsimp only at hSw); go_simp; try (with_reducible rfl))
   try simp only [Act.put, List.setIfInBounds_toArray, List.set_cons_zero, List.set_cons_succ]
   refine wpAnyH_take (i := 13) (v := ?_) (by simp only [List.getElem?_toArray, List.getElem?_cons_succ, List.getElem?_cons_zero]; rfl) (by kernel_rfl) (by kernel_rfl) (by kernel_rfl) (by exact fun _ _ _ h => h) (Or.inl ⟨by rfl, ?_⟩) (by assumption) ?_
   rotate_left 1
   ·(intro wS hSw; (try dsimp only at hSw); go_simp; try (with_reducible rfl))
   try simp only [Act.put, List.setIfInBounds_toArray, List.set_cons_zero, List.set_cons_succ]
   refine wpAnyH_take (i := 14) (v := ?_) (by simp only [List.getElem?_toArray, List.getElem?_cons_succ, List.getElem?_cons_zero]; rfl) (by kernel_rfl) (by kernel_rfl) (by kernel_rfl) (by exact fun _ _ _ h => h) (Or.inl ⟨by rfl, ?_⟩) (by assumption) ?_
   rotate_left 1
   ·(intro wS hSw; (try dsimp only at hSw); go_simp; try (with_reducible rfl))
   try simp only [Act.put, List.setIfInBounds_toArray, List.set_cons_zero, List.set_cons_succ]
   refine wpAnyH_done (by kernel_rfl) ?_ _
   skip
   have hb9 := HB9.out
   have hpm9 := HPM.out.below (bel HBU.out hb9)
   have hX9 := (hb9.block _ (hlt HXU.out)).trans HXU.out
   have HX9 := hidM hX9
   obtain ⟨W6, hW6, hX6, hB6, -⟩ := new_box v9
   obtain ⟨⟨q0, q1, q2, q3, q4, q5, q6⟩, r0, r1, r2, r3, r4, r5, r6⟩ := sevenA hX6
   have HX6 := hidM hX6
   have HB6 := hidM hB6
   have HWB : Hid (Below wr.heap.size wr v9) := bel HBU.out hb9
   clear k0 k1 k4 k5 g0 g1 g4 g5 hsl HMN HXU
   rcases hpm9.look2 HNM.out with ⟨y, py, cy, hy, hrun⟩ | ⟨hy, hrun⟩
   ·unfold nv at hrun
    have HGO : Hid (GP = .error (132, X.at_)) := by
     show _ = _
     rw [← HGP.out]
     unfold giveP
     rw [HGN.out, hy]
     rfl
    clear hpm9 hX9 hX6 hB6 hb9 hy HGP HGN HA
    go_upto_region 10 with fail
    have hBE := below_seven HB6.out (.int .i64 y.kind) (.string y.name) (.int .u32 y.num) (.int .i64 y.int_) (.string y.key) (.slice py y.args.length cy) (.int .i64 y.at_)
    obtain ⟨U2, hU2⟩ : ∃ U, (((((((W6.setCell ⟨v9.heap.size, 0, none⟩ (.int .i64 y.kind)).setCell ⟨v9.heap.size, 1, none⟩ (.string y.name)).setCell ⟨v9.heap.size, 2, none⟩ (.int .u32 y.num)).setCell ⟨v9.heap.size, 3, none⟩ (.int .i64 y.int_)).setCell ⟨v9.heap.size, 4, none⟩ (.string y.key)).setCell ⟨v9.heap.size, 5, none⟩ (.slice py y.args.length cy)).setCell ⟨v9.heap.size, 6, none⟩ (.int .i64 y.at_)) = U := ⟨_, rfl⟩
    rw [hU2] at hBE ⊢
    have HBE := hidM (bel HB.out (bel HWB.out hBE))
    obtain ⟨⟨-, -, -, -, -, -, s6⟩, -⟩ := sevenA ((hBE.block _ (hlt HX9.out)).trans HX9.out)
    clear hU2 hBE q0 q1 q2 q3 q4 q5 q6 r0 r1 r2 r3 r4 r5 r6 hrun hW6
    go_wp2
    go_quiet (fail)
    go_wp2
    refine bodyPost_ret (by simp [results, Tryz.results47, go_sem]; try rfl) rfl ?_
    exact ⟨bel HBE.out (bel_dn _ _), .inl ⟨_, _, HGO.out, rfl⟩⟩
   ·by_cases her : ER = 0
    ·subst her
     have HGO : Hid (giveL L t.args [] (fun _ => none) = giveL L (t.args.drop (j + 1)) (t.args.take (j + 1)) (updN g NM (keyN X ⟨#[]⟩))) := by
      show _ = _
      rw [HGN.out, hy]
      rfl
     clear hpm9 hX9 hX6 hB6 hb9 hy HGP HGN
     go_upto_region 11 with fail
     have hBE := below_seven HB6.out (.int .i64 0) (.string ⟨#[]⟩) (.int .u32 0) (.int .i64 0) (.string ⟨#[]⟩) (.slice none 0 0) (.int .i64 0)
     obtain ⟨U2, hU2⟩ : ∃ U, (((((((W6.setCell ⟨v9.heap.size, 0, none⟩ (.int .i64 0)).setCell ⟨v9.heap.size, 1, none⟩ (.string ⟨#[]⟩)).setCell ⟨v9.heap.size, 2, none⟩ (.int .u32 0)).setCell ⟨v9.heap.size, 3, none⟩ (.int .i64 0)).setCell ⟨v9.heap.size, 4, none⟩ (.string ⟨#[]⟩)).setCell ⟨v9.heap.size, 5, none⟩ (.slice none 0 0)).setCell ⟨v9.heap.size, 6, none⟩ (.int .i64 0)) = U := ⟨_, rfl⟩
     rw [hU2] at hBE ⊢
     have HBE := hidM (bel HWB.out hBE)
     have hX2 := (hBE.block _ (hlt HX9.out)).trans HX9.out
     have HX2 := hidM hX2
     obtain ⟨⟨s0, s1, s2, s3, s4, s5, s6⟩, f0, f1, f2, f3, f4, f5, f6⟩ := sevenA hX2
     clear hU2 hBE hX2 q0 q1 q2 q3 q4 q5 q6 r0 r1 r2 r3 r4 r5 r6 hrun hW6
     go_upto_region 12 with fail
     have hX3 := put_oneA HX2.out 4 (.string ⟨#[]⟩)
     simp only [List.setIfInBounds_toArray, List.set_cons_zero, List.set_cons_succ] at hX3
     have hB3 := below_at HBE.out (Nat.le_of_eq HO.out) 4 (.string ⟨#[]⟩)
     obtain ⟨U3, hU3⟩ : ∃ U, U2.setCell ⟨O, 4, none⟩ (.string ⟨#[]⟩) = U := ⟨_, rfl⟩
     rw [hU3] at hX3 hB3 ⊢
     have HB3 : Hid (Below wr.heap.size wr U3) := hB3
     clear s0 s1 s2 s3 s4 s5 s6 f0 f1 f2 f3 f4 f5 f6
     obtain ⟨⟨s0, s1, s2, s3, s4, s5, s6⟩, -⟩ := sevenA hX3
     obtain ⟨w7, hrun7, hpm7, hg7⟩ := (HPM.out.below hB3).put (by have := HMJ.out; unfold maxLen; omega) (fun i hi => ⟨by have := HSW.out.1 i hi; omega, by have := HSW.out.1 i hi; have := HB.out.size; have := hB3.size; omega⟩) HNM.out (x := keyN X ⟨#[]⟩) (p := px) (c := cx) (HKX.out.below hB3)
     unfold nv at hrun7
     simp only [keyN] at hrun7
     have HF : Hid (∃ m g, Below w.heap.size w w7 ∧ w7.heap[w.heap.size]? = some (.cells #[.slice q Ln c, .func f x1 x2] 47) ∧ PM w7 (w.heap.size + 1) m g S ∧ m ≤ j + 1 ∧ giveL L t.args [] (fun _ => none) = giveL L (t.args.drop (j + 1)) (t.args.take (j + 1)) g) := by
      refine ⟨m + 1, _, Below.map (bel HB.out hB3) hg7 (by have := HB.out.size; have := hB3.size; omega) (by omega), ?_, hpm7, by have := HMJ.out; omega, HGO.out⟩
      have h0 := (hB3.block _ (hlt HR0.out)).trans HR0.out
      exact (hg7.block _ (hlt h0) (fun e => by have : w.heap.size = w.heap.size + 1 := Option.some.inj e; omega)).trans h0
     clear hU3 hX3 hB3 hpm7 hg7
     go_wp2
     go_roundw
     case rel => exact ⟨j + 1, by omega, by go_num, HF.out⟩
     case measure => simp [intOf]; omega
    ·have e1 : (ER == 0) = false := by simpa using her
     have HGO : Hid (GP = .error (ER, X.at_)) := by
      show _ = _
      rw [← HGP.out]
      unfold giveP
      rw [HGN.out, hy]
      simp [her]
     clear hpm9 hX9 hX6 hB6 hb9 hy HGP HGN HA
     go_upto_region 10 with fail
     have hBE := below_seven HB6.out (.int .i64 0) (.string ⟨#[]⟩) (.int .u32 0) (.int .i64 0) (.string ⟨#[]⟩) (.slice none 0 0) (.int .i64 0)
     obtain ⟨U2, hU2⟩ : ∃ U, (((((((W6.setCell ⟨v9.heap.size, 0, none⟩ (.int .i64 0)).setCell ⟨v9.heap.size, 1, none⟩ (.string ⟨#[]⟩)).setCell ⟨v9.heap.size, 2, none⟩ (.int .u32 0)).setCell ⟨v9.heap.size, 3, none⟩ (.int .i64 0)).setCell ⟨v9.heap.size, 4, none⟩ (.string ⟨#[]⟩)).setCell ⟨v9.heap.size, 5, none⟩ (.slice none 0 0)).setCell ⟨v9.heap.size, 6, none⟩ (.int .i64 0)) = U := ⟨_, rfl⟩
     rw [hU2] at hBE ⊢
     have HBE := hidM (bel HB.out (bel HWB.out hBE))
     obtain ⟨⟨-, -, -, -, -, -, s6⟩, -⟩ := sevenA ((hBE.block _ (hlt HX9.out)).trans HX9.out)
     clear hU2 hBE q0 q1 q2 q3 q4 q5 q6 r0 r1 r2 r3 r4 r5 r6 hrun hW6
     go_wp2
     go_quiet (fail)
     go_wp2
     refine bodyPost_ret (by simp [results, Tryz.results47, go_sem]; try rfl) rfl ?_
     exact ⟨bel HBE.out (bel_dn _ _), .inl ⟨_, _, HGO.out, rfl⟩⟩
  ·have : j = n := by omega
   subst this
   have i2 : ¬ ((j : Int) < (j : Int)) := by omega
   have hgl2 : giveL L t.args [] (fun _ => none) = .ok g := by rw [hgl, List.drop_of_length_le (by rw [HN.out.1]; exact Nat.le_refl _)]; rfl
   have hgp : GP = if (g ⟨#[114, 97, 116, 101]⟩).isSome then .ok g else .error (131, t.at_) := by
    rw [← HGP.out]
    unfold giveP
    rw [hgl2]
   obtain ⟨W3, hW3, hX3, hB3, -⟩ := new_box wr
   obtain ⟨⟨q0, q1, q2, q3, q4, q5, q6⟩, r0, r1, r2, r3, r4, r5, r6⟩ := sevenA hX3
   have HX3 := hidM hX3
   have HB3 := hidM hB3
   rcases hpm.look2 (k := ⟨#[114, 97, 116, 101]⟩) (by unfold maxLen; decide) with ⟨y, py, cy, hy, hrun⟩ | ⟨hy, hrun⟩
   ·unfold nv at hrun
    have HGO : Hid (GP = .ok g) := by show _ = _; rw [hgp, hy]; rfl
    clear hgp hgl hgl2 hpm hr0 hb hmj hX3 hB3 HGP HKA HA HGL
    go_upto_region 15 with fail
    have hBE := below_seven HB3.out (.int .i64 y.kind) (.string y.name) (.int .u32 y.num) (.int .i64 y.int_) (.string y.key) (.slice py y.args.length cy) (.int .i64 y.at_)
    obtain ⟨U, hU⟩ : ∃ U, (((((((W3.setCell ⟨wr.heap.size, 0, none⟩ (.int .i64 y.kind)).setCell ⟨wr.heap.size, 1, none⟩ (.string y.name)).setCell ⟨wr.heap.size, 2, none⟩ (.int .u32 y.num)).setCell ⟨wr.heap.size, 3, none⟩ (.int .i64 y.int_)).setCell ⟨wr.heap.size, 4, none⟩ (.string y.key)).setCell ⟨wr.heap.size, 5, none⟩ (.slice py y.args.length cy)).setCell ⟨wr.heap.size, 6, none⟩ (.int .i64 y.at_)) = U := ⟨_, rfl⟩
    rw [hU] at hBE ⊢
    have HBE := hidM hBE
    clear hU hBE q0 q1 q2 q3 q4 q5 q6 r0 r1 r2 r3 r4 r5 r6 hrun hW3
    go_wp2
    refine bodyPost_ret (by simp [results, Tryz.results47, go_sem]; try rfl) rfl ?_
    refine ⟨bel HB.out HBE.out, .inr ⟨g, HGO.out, _, rfl, ?_⟩⟩
    exact ⟨m, HPM.out.below HBE.out, by rw [HN.out.1]; exact HMJ.out, by omega⟩
   ·have HGO : Hid (GP = .error (131, t.at_)) := by show _ = _; rw [hgp, hy]; rfl
    clear hgp hgl hgl2 hpm hr0 hb hmj hX3 hB3 HGP HKA HA HGL
    go_upto_region 15 with fail
    have hBE := below_seven HB3.out (.int .i64 0) (.string ⟨#[]⟩) (.int .u32 0) (.int .i64 0) (.string ⟨#[]⟩) (.slice none 0 0) (.int .i64 0)
    obtain ⟨U, hU⟩ : ∃ U, (((((((W3.setCell ⟨wr.heap.size, 0, none⟩ (.int .i64 0)).setCell ⟨wr.heap.size, 1, none⟩ (.string ⟨#[]⟩)).setCell ⟨wr.heap.size, 2, none⟩ (.int .u32 0)).setCell ⟨wr.heap.size, 3, none⟩ (.int .i64 0)).setCell ⟨wr.heap.size, 4, none⟩ (.string ⟨#[]⟩)).setCell ⟨wr.heap.size, 5, none⟩ (.slice none 0 0)).setCell ⟨wr.heap.size, 6, none⟩ (.int .i64 0)) = U := ⟨_, rfl⟩
    rw [hU] at hBE ⊢
    have HBE := hidM (bel HB.out hBE)
    have y6 := (HBE.out.cell (mcell_lt H6.out)).trans H6.out
    clear hU hBE q0 q1 q2 q3 q4 q5 q6 r0 r1 r2 r3 r4 r5 r6 hrun hW3
    go_wp2
    go_quiet (fail)
    go_wp2
    refine bodyPost_ret (by simp [results, Tryz.results47, go_sem]; try rfl) rfl ?_
    exact ⟨bel HBE.out (bel_dn _ _), .inl ⟨_, _, HGO.out, rfl⟩⟩
end Go.Proofs.YtmiidhgbdecdkaaGreat
