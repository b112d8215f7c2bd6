import Derived.Test.YtmiidhgbdecdkaaGreatPart2
namespace Go.Proofs.YtmiidhgbdecdkaaGreat
open Go.RowKit
set_option linter.unusedVariables false
set_option linter.unusedSimpArgs false
def StrsAt (B : Nat) (w : World) (u : Value) (l : List ByteArray) : Prop := ∃ b, B ≤ b ∧ u = .slice (some ⟨b, 0, none⟩) l.length l.length ∧ ∀ i (h : i < l.length), w.cell? ⟨b, i, none⟩ = some (.string l[i])
def NodsAt (B : Nat) (w : World) (u : Value) (l : List Nd) : Prop := ∃ b, B ≤ b ∧ u = .slice (some ⟨b, 0, none⟩) l.length l.length ∧ KA w anyH b 0 l
def RowV (B : Nat) (w : World) (u : Value) (r : Rw) : Prop := ∃ s n, u = .agg #[.string r.name, s, n] ∧ StrsAt B w s r.args ∧ NodsAt B w n r.vals
def RowA (B : Nat) (w : World) (b o : Nat) (r : Rw) : Prop := ∃ s n, w.cell? ⟨b, o, none⟩ = some (.string r.name) ∧ w.cell? ⟨b, o + 1, none⟩ = some s ∧ w.cell? ⟨b, o + 2, none⟩ = some n ∧ StrsAt B w s r.args ∧ NodsAt B w n r.vals
def RowsAt (B : Nat) (w : World) (u : Value) (l : List Rw) : Prop := ∃ b, B ≤ b ∧ u = .slice (some ⟨b, 0, none⟩) l.length l.length ∧ ∀ i (h : i < l.length), RowA B w b (i * 3) l[i]
theorem StrsAt.below {B : Nat} {w w' : World} {u : Value} {l : List ByteArray} (h : StrsAt B w u l) (k : Below w.heap.size w w') : StrsAt B w' u l := by
 obtain ⟨b, hB, rfl, h⟩ := h
 exact ⟨b, hB, rfl, fun i hi => (k.cell (mcell_lt (h i hi))).trans (h i hi)⟩
theorem NodsAt.below {B : Nat} {w w' : World} {u : Value} {l : List Nd} (h : NodsAt B w u l) (k : Below w.heap.size w w') : NodsAt B w' u l := by
 obtain ⟨b, hB, rfl, h⟩ := h
 exact ⟨b, hB, rfl, h.below k⟩
theorem RowV.below {B : Nat} {w w' : World} {u : Value} {r : Rw} (h : RowV B w u r) (k : Below w.heap.size w w') : RowV B w' u r := by
 obtain ⟨s, n, rfl, h1, h2⟩ := h
 exact ⟨s, n, rfl, h1.below k, h2.below k⟩
theorem RowA.below {B : Nat} {w w' : World} {b o : Nat} {r : Rw} (h : RowA B w b o r) (k : Below w.heap.size w w') : RowA B w' b o r := by
 obtain ⟨s, n, h0, h1, h2, h3, h4⟩ := h
 exact ⟨s, n, (k.cell (mcell_lt h0)).trans h0, (k.cell (mcell_lt h1)).trans h1, (k.cell (mcell_lt h2)).trans h2, h3.below k, h4.below k⟩
theorem RowsAt.below {B : Nat} {w w' : World} {u : Value} {l : List Rw} (h : RowsAt B w u l) (k : Below w.heap.size w w') : RowsAt B w' u l := by
 obtain ⟨b, hB, rfl, h⟩ := h
 exact ⟨b, hB, rfl, fun i hi => (h i hi).below k⟩
theorem strs_new {B : Nat} (w : World) (hB : B ≤ w.heap.size) (l : List ByteArray) (t : TypeId) : StrsAt B (w.alloc (.cells (l.map Value.string).toArray t)) (.slice (some ⟨w.heap.size, 0, none⟩) l.length l.length) l := by
 refine ⟨_, hB, rfl, fun i hi => ?_⟩
 have h := box_heapA w (.cells (l.map Value.string).toArray t)
 exact (at_cellA h i (by simp [hi])).1
def leafCells (t : Nd) : List Value := [.int .i64 t.kind, .string t.name, .int .u32 t.num, .int .i64 t.int_, .string t.key, .slice none 0 0, .int .i64 t.at_]
theorem leaf_at : ∀ (l : List Nd) (i k : Nat) (hi : i < l.length), k < 7 → (l.flatMap leafCells)[i * 7 + k]? = (leafCells l[i])[k]?
 | [], i, k, hi, _ => absurd hi (Nat.not_lt_zero _)
 | t :: l, 0, k, hi, hk => by
  rw [List.flatMap_cons, Nat.zero_mul, Nat.zero_add, List.getElem?_append_left (by simp [leafCells]; exact hk)]
  rfl
 | t :: l, i + 1, k, hi, hk => by
  rw [List.flatMap_cons, List.getElem?_append_right (by simp [leafCells]; omega), show (i + 1) * 7 + k - (leafCells t).length = i * 7 + k by simp [leafCells]; omega]
  exact leaf_at l i k (by simpa using hi) hk
theorem nods_new {B : Nat} (w : World) (hB : B ≤ w.heap.size) (l : List Nd) (hl : ∀ t ∈ l, t.args = []) (ty : TypeId) : NodsAt B (w.alloc (.cells (l.flatMap leafCells).toArray ty)) (.slice (some ⟨w.heap.size, 0, none⟩) l.length l.length) l := by
 refine ⟨_, hB, rfl, KA_of fun i hi => ?_⟩
 have h := box_heapA w (.cells (l.flatMap leafCells).toArray ty)
 have key : ∀ k u, k < 7 → (leafCells l[i])[k]? = some u → (w.alloc (.cells (l.flatMap leafCells).toArray ty)).cell? ⟨w.heap.size, 0 + i * 7 + k, none⟩ = some u := fun k u hk hu => by
  rw [Nat.zero_add]
  exact (at_cellA h (i * 7 + k) (by rw [List.getElem?_toArray, leaf_at l i k hi hk]; exact hu)).1
 have ha := hl l[i] (List.getElem_mem hi)
 refine ⟨key 0 _ (by decide) rfl, key 1 _ (by decide) rfl, key 2 _ (by decide) rfl, key 3 _ (by decide) rfl, key 4 _ (by decide) rfl, key 6 _ (by decide) rfl, _, key 5 _ (by decide) rfl, ?_⟩
 rw [ha]
 exact ⟨none, 0, rfl, trivial, .inl rfl⟩
theorem rowc_at : ∀ (R : List (Rw × Value × Value)) (i k : Nat) (hi : i < R.length), k < 3 → (R.flatMap fun x => [Value.string x.1.name, x.2.1, x.2.2])[i * 3 + k]? = [Value.string R[i].1.name, R[i].2.1, R[i].2.2][k]?
 | [], i, k, hi, _ => absurd hi (Nat.not_lt_zero _)
 | t :: l, 0, k, hi, hk => by
  rw [List.flatMap_cons, Nat.zero_mul, Nat.zero_add, List.getElem?_append_left (by simp; exact hk)]
  rfl
 | t :: l, i + 1, k, hi, hk => by
  rw [List.flatMap_cons, List.getElem?_append_right (by simp; omega), show (i + 1) * 3 + k - ([Value.string t.1.name, t.2.1, t.2.2] : List Value).length = i * 3 + k by simp; omega]
  exact rowc_at l i k (by simpa using hi) hk
theorem rows_new {B : Nat} (w : World) (hB : B ≤ w.heap.size) (R : List (Rw × Value × Value)) (hR : ∀ x ∈ R, StrsAt B w x.2.1 x.1.args ∧ NodsAt B w x.2.2 x.1.vals) (ty : TypeId) : RowsAt B (w.alloc (.cells (R.flatMap fun x => [Value.string x.1.name, x.2.1, x.2.2]).toArray ty)) (.slice (some ⟨w.heap.size, 0, none⟩) R.length R.length) (R.map (fun x => x.1)) := by
 refine ⟨w.heap.size, hB, by rw [List.length_map], fun i hi => ?_⟩
 have hi' : i < R.length := by simpa using hi
 have h := box_heapA w (.cells (R.flatMap fun x => [Value.string x.1.name, x.2.1, x.2.2]).toArray ty)
 have kb := (Below.refl w.heap.size w).alloc (Nat.le_refl _) (.cells (R.flatMap fun x => [Value.string x.1.name, x.2.1, x.2.2]).toArray ty)
 have key : ∀ k u, k < 3 → [Value.string R[i].1.name, R[i].2.1, R[i].2.2][k]? = some u → (w.alloc (.cells (R.flatMap fun x => [Value.string x.1.name, x.2.1, x.2.2]).toArray ty)).cell? ⟨w.heap.size, i * 3 + k, none⟩ = some u := fun k u hk hu => (at_cellA h (i * 3 + k) (by rw [List.getElem?_toArray, rowc_at R i k hi' hk]; exact hu)).1
 have hx := hR R[i] (List.getElem_mem hi')
 rw [List.getElem_map]
 exact ⟨_, _, key 0 _ (by decide) rfl, key 1 _ (by decide) rfl, key 2 _ (by decide) rfl, hx.1.below kb, hx.2.below kb⟩
inductive Sp where
 | val (t : Nd) | strs (l : List ByteArray) | nods (l : List Nd) | row (r : Rw) | rows
def Sp.holds (B : Nat) : Sp → Value → World → Prop
 | .val t => fun u _ => u = nv t (.slice none 0 0)
 | .strs l => fun u w => StrsAt B w u l
 | .nods l => fun u w => NodsAt B w u l
 | .row r => fun u w => RowV B w u r
 | .rows => fun u w => RowsAt B w u rowsA
theorem Sp.stable {B : Nat} (s : Sp) {u : Value} {w w' : World} (k : Below w.heap.size w w') (h : s.holds B u w) : s.holds B u w' := by
 cases s with
 | val t => exact h
 | strs l => exact StrsAt.below h k
 | nods l => exact NodsAt.below h k
 | row r => exact RowV.below h k
 | rows => exact RowsAt.below h k
def specsR : List Sp := [
 .strs [⟨#[114, 97, 116, 101]⟩, ⟨#[98, 49]⟩, ⟨#[98, 50]⟩, ⟨#[101, 112, 115]⟩, ⟨#[101, 112, 115, 95, 114, 111, 111, 116]⟩],
 .val (noneN),
 .val (numN 1063675494),
 .val (numN 1065336439),
 .val (numN 619091349),
 .val (numN 619091349),
 .nods [noneN, numN 1063675494, numN 1065336439, numN 619091349, numN 619091349],
 .row row0,
 .strs [⟨#[114, 97, 116, 101]⟩, ⟨#[114, 104, 111]⟩, ⟨#[101, 112, 115]⟩],
 .val (noneN),
 .val (numN 1063675494),
 .val (numN 897988541),
 .nods [noneN, numN 1063675494, numN 897988541],
 .row row1,
 .strs [⟨#[114, 97, 116, 101]⟩, ⟨#[105, 110, 105, 116, 105, 97, 108]⟩, ⟨#[101, 112, 115]⟩],
 .val (noneN),
 .val (numN 1036831949),
 .val (numN 869711765),
 .nods [noneN, numN 1036831949, numN 869711765],
 .row row2,
 .strs [⟨#[114, 97, 116, 101]⟩, ⟨#[98, 49]⟩, ⟨#[98, 50]⟩, ⟨#[101, 112, 115]⟩, ⟨#[101, 112, 115, 95, 114, 111, 111, 116]⟩],
 .val (noneN),
 .val (numN 1063675494),
 .val (numN 1065336439),
 .val (numN 841731191),
 .val (numN 0),
 .nods [noneN, numN 1063675494, numN 1065336439, numN 841731191, numN 0],
 .row row3,
 .strs [⟨#[114, 97, 116, 101]⟩, ⟨#[98, 49]⟩, ⟨#[98, 50]⟩, ⟨#[101, 112, 115]⟩],
 .val (noneN),
 .val (numN 1063675494),
 .val (numN 1065336439),
 .val (numN 841731191),
 .nods [noneN, numN 1063675494, numN 1065336439, numN 841731191],
 .row row4,
 .strs [⟨#[114, 97, 116, 101]⟩, ⟨#[98, 49]⟩, ⟨#[98, 50]⟩, ⟨#[101, 112, 115]⟩, ⟨#[101, 112, 115, 95, 114, 111, 111, 116]⟩, ⟨#[119, 101, 105, 103, 104, 116, 95, 100, 101, 99, 97, 121]⟩, ⟨#[109, 97, 115, 107]⟩],
 .val (noneN),
 .val (numN 1063675494),
 .val (numN 1065336439),
 .val (numN 841731191),
 .val (numN 0),
 .val (numN 953267991),
 .val (callA ⟨#[97, 108, 108]⟩ []),
 .nods [noneN, numN 1063675494, numN 1065336439, numN 841731191, numN 0, numN 953267991, callA ⟨#[97, 108, 108]⟩ []],
 .row row5,
 .strs [⟨#[114, 97, 116, 101]⟩, ⟨#[99, 108, 105, 112, 112, 105, 110, 103]⟩, ⟨#[101, 112, 115]⟩, ⟨#[109, 111, 109, 101, 110, 116, 117, 109]⟩, ⟨#[110, 101, 115, 116, 101, 114, 111, 118]⟩],
 .val (noneN),
 .val (numN 1036831949),
 .val (numN 981668463),
 .val (numN 0),
 .val (flagN ⟨#[102, 97, 108, 115, 101]⟩),
 .nods [noneN, numN 1036831949, numN 981668463, numN 0, flagN ⟨#[102, 97, 108, 115, 101]⟩],
 .row row6,
 .strs [⟨#[114, 97, 116, 101]⟩, ⟨#[98, 49]⟩, ⟨#[98, 50]⟩, ⟨#[101, 112, 115]⟩, ⟨#[101, 112, 115, 95, 114, 111, 111, 116]⟩],
 .val (noneN),
 .val (numN 1063675494),
 .val (numN 1065336439),
 .val (numN 841731191),
 .val (numN 0),
 .nods [noneN, numN 1063675494, numN 1065336439, numN 841731191, numN 0],
 .row row7,
 .strs [⟨#[114, 97, 116, 101]⟩, ⟨#[98, 49]⟩, ⟨#[98, 50]⟩, ⟨#[101, 112, 115]⟩, ⟨#[101, 112, 115, 95, 114, 111, 111, 116]⟩, ⟨#[119, 101, 105, 103, 104, 116, 95, 100, 101, 99, 97, 121]⟩, ⟨#[109, 97, 115, 107]⟩],
 .val (noneN),
 .val (numN 1063675494),
 .val (numN 1065336439),
 .val (numN 897988541),
 .val (numN 0),
 .val (numN 0),
 .val (callA ⟨#[97, 108, 108]⟩ []),
 .nods [noneN, numN 1063675494, numN 1065336439, numN 897988541, numN 0, numN 0, callA ⟨#[97, 108, 108]⟩ []],
 .row row8,
 .strs [⟨#[114, 97, 116, 101]⟩, ⟨#[119, 101, 105, 103, 104, 116, 95, 100, 101, 99, 97, 121]⟩, ⟨#[116, 114, 117, 115, 116, 95, 99, 111, 101, 102, 102, 105, 99, 105, 101, 110, 116]⟩, ⟨#[101, 112, 115]⟩, ⟨#[109, 111, 109, 101, 110, 116, 117, 109]⟩, ⟨#[110, 101, 115, 116, 101, 114, 111, 118]⟩],
 .val (noneN),
 .val (numN 0),
 .val (numN 981668463),
 .val (numN 0),
 .val (numN 1063675494),
 .val (flagN ⟨#[102, 97, 108, 115, 101]⟩),
 .nods [noneN, numN 0, numN 981668463, numN 0, numN 1063675494, flagN ⟨#[102, 97, 108, 115, 101]⟩],
 .row row9,
 .strs [⟨#[114, 97, 116, 101]⟩, ⟨#[98, 49]⟩, ⟨#[98, 50]⟩, ⟨#[119, 101, 105, 103, 104, 116, 95, 100, 101, 99, 97, 121]⟩, ⟨#[109, 97, 115, 107]⟩],
 .val (noneN),
 .val (numN 1063675494),
 .val (numN 1065185444),
 .val (numN 981668463),
 .val (callA ⟨#[97, 108, 108]⟩ []),
 .nods [noneN, numN 1063675494, numN 1065185444, numN 981668463, callA ⟨#[97, 108, 108]⟩ []],
 .row row10,
 .strs [⟨#[114, 97, 116, 101]⟩, ⟨#[98, 49]⟩, ⟨#[98, 50]⟩, ⟨#[101, 112, 115]⟩, ⟨#[101, 112, 115, 95, 114, 111, 111, 116]⟩, ⟨#[119, 101, 105, 103, 104, 116, 95, 100, 101, 99, 97, 121]⟩],
 .val (noneN),
 .val (numN 1063675494),
 .val (numN 1048576000),
 .val (numN 897988541),
 .val (numN 0),
 .val (numN 0),
 .nods [noneN, numN 1063675494, numN 1048576000, numN 897988541, numN 0, numN 0],
 .row row11,
 .strs [⟨#[114, 97, 116, 101]⟩, ⟨#[97, 108, 112, 104, 97]⟩, ⟨#[98, 101, 116, 97]⟩],
 .val (noneN),
 .val (numN 1065353216),
 .val (numN 1065353216),
 .nods [noneN, numN 1065353216, numN 1065353216],
 .row row12,
 .strs [⟨#[114, 97, 116, 101]⟩, ⟨#[100, 101, 99, 97, 121]⟩, ⟨#[101, 112, 115]⟩, ⟨#[105, 110, 105, 116, 105, 97, 108]⟩, ⟨#[109, 111, 109, 101, 110, 116, 117, 109]⟩],
 .val (noneN),
 .val (numN 1063675494),
 .val (numN 841731191),
 .val (numN 0),
 .val (numN 0),
 .nods [noneN, numN 1063675494, numN 841731191, numN 0, numN 0],
 .row row13,
 .strs [⟨#[114, 97, 116, 101]⟩],
 .val (noneN),
 .nods [noneN],
 .row row14,
 .strs [⟨#[114, 97, 116, 101]⟩, ⟨#[109, 111, 109, 101, 110, 116, 117, 109]⟩, ⟨#[110, 101, 115, 116, 101, 114, 111, 118]⟩],
 .val (noneN),
 .val (numN 0),
 .val (flagN ⟨#[102, 97, 108, 115, 101]⟩),
 .nods [noneN, numN 0, flagN ⟨#[102, 97, 108, 115, 101]⟩],
 .row row15,
 .strs [⟨#[114, 97, 116, 101]⟩, ⟨#[98, 49]⟩, ⟨#[98, 50]⟩, ⟨#[101, 112, 115]⟩, ⟨#[105, 110, 105, 116, 105, 97, 108]⟩],
 .val (noneN),
 .val (numN 1063675494),
 .val (numN 1065336439),
 .val (numN 981668463),
 .val (numN 897988541),
 .nods [noneN, numN 1063675494, numN 1065336439, numN 981668463, numN 897988541],
 .row row16,
 .rows,
 .rows]
def PostR (B : Nat) (i : Nat) (v : Value) (w : World) : Prop := match specsR[i]? with | some s => s.holds B v w | none => True
theorem PostR.stable (B : Nat) (i : Nat) (v : Value) (w w' : World) (k : Below w.heap.size w w') (h : PostR B i v w) : PostR B i v w' := by
 unfold PostR at h ⊢
 split
 ·rename_i s hs
  rw [hs] at h
  exact s.stable k h
 ·trivial
def findA3 (n : Nat) : Code → Option Code
 | .region k ops d => if k = n then some (.region k ops d) else none
 | .seq a b => match findA3 n a with | some c => some c | none => findA3 n b
 | .cond _ a b => match findA3 n a with | some c => some c | none => findA3 n b
 | .block _ a => findA3 n a
 | .loop a => findA3 n a
 | _ => none
def opsOf : Code → Array Oper
 | .region _ ops _ => ops
 | _ => #[]
noncomputable def opsR : Array Oper := opsOf (((Tryz.f16.body).bind (findA3 3)).getD .skip)
theorem opsR_size : opsR.size = 131 := by kernel_rfl
theorem opsR_early : earlyB opsR = true := by kernel_rfl
theorem opsR_each : eachOk opsR 135 [1, 2] = true := by kernel_rfl
theorem finds_dep {ops : Array Oper} {Post : Nat → Value → World → Prop} {base : List (Nat × Value)} {o : Oper} {a : Act} {w : World} (d t : Nat) (hF : Finds ops Post base o a w) (h1 : (o.after.any fun e => e.on == d && Region.binds .any e) = true) (h2 : (ops[d]?).map (·.dst) = some (some t)) : ∃ v, a.tmps[t]? = some v ∧ Post d v w := by
 rw [Array.any_eq_true] at h1
 obtain ⟨k, hk, h1⟩ := h1
 rw [Bool.and_eq_true] at h1
 have hd : o.after[k].on = d := by simpa using h1.1
 cases ho : ops[d]? with
 | none => rw [ho] at h2; simp at h2
 | some od =>
  rw [ho] at h2
  have := hF.2 o.after[k] (Array.getElem_mem hk) h1.2 od t (by rw [hd]; exact ho) (by simpa using h2)
  rw [hd] at this
  exact this
def baseR (bN bA : Nat) : List (Nat × Value) := [(1, .pointer (some ⟨bN, 0, none⟩)), (2, .slice (some ⟨bA, 0, none⟩) 5 5)]
def StR (i : Nat) : Prop := ∀ (bN bA B : Nat) (Q : Exit → Act → World → Prop) (o : Oper) (ho : opsR[i]? = some o) (a : Act) (w : World) (hBw : B ≤ w.heap.size) (hN : w.heap[bN]? = some (.cells #[.int .i64 0, .string ⟨#[]⟩, .int .u32 0, .int .i64 0, .string ⟨#[]⟩, .slice none 0 0, .int .i64 0] 29)) (hA : StrsAt B w (.slice (some ⟨bA, 0, none⟩) 5 5) [⟨#[114, 97, 116, 101]⟩, ⟨#[98, 49]⟩, ⟨#[98, 50]⟩, ⟨#[101, 112, 115]⟩, ⟨#[101, 112, 115, 95, 114, 111, 111, 116]⟩]) (hF : Finds opsR (PostR B) (baseR bN bA) o a w) (K : Act → World → Prop) (hK : ∀ v w', Below w.heap.size w w' → PostR B i v w' → K (a.put o.dst v) w'), o.wp Tryz.prog a w K Q
set_option maxRecDepth 100000 in
theorem st0 : StR 0 := by
 intro bN bA B Q o ho a w hBw hN hA hF K hK
 rw [← Array.getElem?_toList] at ho
 conv at ho => lhs; whnf
 obtain rfl := (Option.some.inj ho).symm
 clear ho
 have x2 := hF.1 (2, .slice (some ⟨bA, 0, none⟩) 5 5) (by simp [baseR])
 unfold Oper.wp
 simp [execOp, go_sem, x2]
 exact hK _ _ (Below.refl _ _) hA
set_option maxRecDepth 100000 in
theorem st1 : StR 1 := by
 intro bN bA B Q o ho a w hBw hN hA hF K hK
 rw [← Array.getElem?_toList] at ho
 conv at ho => lhs; whnf
 obtain rfl := (Option.some.inj ho).symm
 clear ho
 have x1 := hF.1 (1, .pointer (some ⟨bN, 0, none⟩)) (by simp [baseR])
 obtain ⟨⟨g0, g1, g2, g3, g4, g5, g6⟩, -⟩ := sevenA hN
 unfold Oper.wp
 simp [execOp, go_sem, x1, g0, g1, g2, g3, g4, g5, g6]
 exact hK _ _ (Below.refl _ _) rfl
set_option maxRecDepth 100000 in
theorem st2 : StR 2 := by
 intro bN bA B Q o ho a w hBw hN hA hF K hK
 rw [← Array.getElem?_toList] at ho
 conv at ho => lhs; whnf
 obtain rfl := (Option.some.inj ho).symm
 clear ho
 unfold Oper.wp
 simp [execOp, go_sem]
 refine (num_any _ _).mono ?_
 rintro e w1 ⟨rfl, hb⟩
 exact hK _ _ hb rfl
set_option maxRecDepth 100000 in
theorem st3 : StR 3 := by
 intro bN bA B Q o ho a w hBw hN hA hF K hK
 rw [← Array.getElem?_toList] at ho
 conv at ho => lhs; whnf
 obtain rfl := (Option.some.inj ho).symm
 clear ho
 unfold Oper.wp
 simp [execOp, go_sem]
 refine (num_any _ _).mono ?_
 rintro e w1 ⟨rfl, hb⟩
 exact hK _ _ hb rfl
set_option maxRecDepth 100000 in
theorem st4 : StR 4 := by
 intro bN bA B Q o ho a w hBw hN hA hF K hK
 rw [← Array.getElem?_toList] at ho
 conv at ho => lhs; whnf
 obtain rfl := (Option.some.inj ho).symm
 clear ho
 unfold Oper.wp
 simp [execOp, go_sem]
 refine (num_any _ _).mono ?_
 rintro e w1 ⟨rfl, hb⟩
 exact hK _ _ hb rfl
set_option maxRecDepth 100000 in
theorem st5 : StR 5 := by
 intro bN bA B Q o ho a w hBw hN hA hF K hK
 rw [← Array.getElem?_toList] at ho
 conv at ho => lhs; whnf
 obtain rfl := (Option.some.inj ho).symm
 clear ho
 unfold Oper.wp
 simp [execOp, go_sem]
 refine (num_any _ _).mono ?_
 rintro e w1 ⟨rfl, hb⟩
 exact hK _ _ hb rfl
set_option maxRecDepth 100000 in
theorem st6 : StR 6 := by
 intro bN bA B Q o ho a w hBw hN hA hF K hK
 rw [← Array.getElem?_toList] at ho
 conv at ho => lhs; whnf
 obtain rfl := (Option.some.inj ho).symm
 clear ho
 obtain ⟨u6, x6, p6⟩ := finds_dep 1 6 hF (by kernel_rfl) (by kernel_rfl)
 obtain rfl : u6 = nv (noneN) (.slice none 0 0) := p6
 obtain ⟨u7, x7, p7⟩ := finds_dep 2 7 hF (by kernel_rfl) (by kernel_rfl)
 obtain rfl : u7 = nv (numN 1063675494) (.slice none 0 0) := p7
 obtain ⟨u8, x8, p8⟩ := finds_dep 3 8 hF (by kernel_rfl) (by kernel_rfl)
 obtain rfl : u8 = nv (numN 1065336439) (.slice none 0 0) := p8
 obtain ⟨u9, x9, p9⟩ := finds_dep 4 9 hF (by kernel_rfl) (by kernel_rfl)
 obtain rfl : u9 = nv (numN 619091349) (.slice none 0 0) := p9
 obtain ⟨u10, x10, p10⟩ := finds_dep 5 10 hF (by kernel_rfl) (by kernel_rfl)
 obtain rfl : u10 = nv (numN 619091349) (.slice none 0 0) := p10
 simp only [nv, noneN, numN, flagN, callA] at x6 x7 x8 x9 x10
 unfold Oper.wp
 simp [execOp, go_sem, x6, x7, x8, x9, x10]
 exact hK _ _ ((Below.refl _ _).alloc (Nat.le_refl _) _) (nods_new w hBw [noneN, numN 1063675494, numN 1065336439, numN 619091349, numN 619091349] (by intro t ht; simp at ht; rcases ht with rfl | rfl | rfl | rfl | rfl <;> rfl) _)
set_option maxRecDepth 100000 in
theorem st7 : StR 7 := by
 intro bN bA B Q o ho a w hBw hN hA hF K hK
 rw [← Array.getElem?_toList] at ho
 conv at ho => lhs; whnf
 obtain rfl := (Option.some.inj ho).symm
 clear ho
 obtain ⟨u5, x5, p5⟩ := finds_dep 0 5 hF (by kernel_rfl) (by kernel_rfl)
 obtain ⟨b5, l5, rfl, q5⟩ : StrsAt B w u5 [⟨#[114, 97, 116, 101]⟩, ⟨#[98, 49]⟩, ⟨#[98, 50]⟩, ⟨#[101, 112, 115]⟩, ⟨#[101, 112, 115, 95, 114, 111, 111, 116]⟩] := p5
 obtain ⟨u11, x11, p11⟩ := finds_dep 6 11 hF (by kernel_rfl) (by kernel_rfl)
 obtain ⟨b11, l11, rfl, q11⟩ : NodsAt B w u11 [noneN, numN 1063675494, numN 1065336439, numN 619091349, numN 619091349] := p11
 simp only [nv, noneN, numN, flagN, callA, List.length_cons, List.length_nil, Nat.reduceAdd] at x5 x11
 unfold Oper.wp
 simp [execOp, go_sem, x5, x11]
 exact hK _ _ (Below.refl _ _) ⟨_, _, rfl, ⟨_, l5, rfl, q5⟩, ⟨_, l11, rfl, q11⟩⟩
set_option maxRecDepth 100000 in
theorem st8 : StR 8 := by
 intro bN bA B Q o ho a w hBw hN hA hF K hK
 rw [← Array.getElem?_toList] at ho
 conv at ho => lhs; whnf
 obtain rfl := (Option.some.inj ho).symm
 clear ho
 unfold Oper.wp
 simp [execOp, go_sem]
 exact hK _ _ ((Below.refl _ _).alloc (Nat.le_refl _) _) (strs_new w hBw [⟨#[114, 97, 116, 101]⟩, ⟨#[114, 104, 111]⟩, ⟨#[101, 112, 115]⟩] _)
set_option maxRecDepth 100000 in
theorem st9 : StR 9 := by
 intro bN bA B Q o ho a w hBw hN hA hF K hK
 rw [← Array.getElem?_toList] at ho
 conv at ho => lhs; whnf
 obtain rfl := (Option.some.inj ho).symm
 clear ho
 have x1 := hF.1 (1, .pointer (some ⟨bN, 0, none⟩)) (by simp [baseR])
 obtain ⟨⟨g0, g1, g2, g3, g4, g5, g6⟩, -⟩ := sevenA hN
 unfold Oper.wp
 simp [execOp, go_sem, x1, g0, g1, g2, g3, g4, g5, g6]
 exact hK _ _ (Below.refl _ _) rfl
set_option maxRecDepth 100000 in
theorem st10 : StR 10 := by
 intro bN bA B Q o ho a w hBw hN hA hF K hK
 rw [← Array.getElem?_toList] at ho
 conv at ho => lhs; whnf
 obtain rfl := (Option.some.inj ho).symm
 clear ho
 unfold Oper.wp
 simp [execOp, go_sem]
 refine (num_any _ _).mono ?_
 rintro e w1 ⟨rfl, hb⟩
 exact hK _ _ hb rfl
set_option maxRecDepth 100000 in
theorem st11 : StR 11 := by
 intro bN bA B Q o ho a w hBw hN hA hF K hK
 rw [← Array.getElem?_toList] at ho
 conv at ho => lhs; whnf
 obtain rfl := (Option.some.inj ho).symm
 clear ho
 unfold Oper.wp
 simp [execOp, go_sem]
 refine (num_any _ _).mono ?_
 rintro e w1 ⟨rfl, hb⟩
 exact hK _ _ hb rfl
set_option maxRecDepth 100000 in
theorem st12 : StR 12 := by
 intro bN bA B Q o ho a w hBw hN hA hF K hK
 rw [← Array.getElem?_toList] at ho
 conv at ho => lhs; whnf
 obtain rfl := (Option.some.inj ho).symm
 clear ho
 obtain ⟨u14, x14, p14⟩ := finds_dep 9 14 hF (by kernel_rfl) (by kernel_rfl)
 obtain rfl : u14 = nv (noneN) (.slice none 0 0) := p14
 obtain ⟨u15, x15, p15⟩ := finds_dep 10 15 hF (by kernel_rfl) (by kernel_rfl)
 obtain rfl : u15 = nv (numN 1063675494) (.slice none 0 0) := p15
 obtain ⟨u16, x16, p16⟩ := finds_dep 11 16 hF (by kernel_rfl) (by kernel_rfl)
 obtain rfl : u16 = nv (numN 897988541) (.slice none 0 0) := p16
 simp only [nv, noneN, numN, flagN, callA] at x14 x15 x16
 unfold Oper.wp
 simp [execOp, go_sem, x14, x15, x16]
 exact hK _ _ ((Below.refl _ _).alloc (Nat.le_refl _) _) (nods_new w hBw [noneN, numN 1063675494, numN 897988541] (by intro t ht; simp at ht; rcases ht with rfl | rfl | rfl <;> rfl) _)
set_option maxRecDepth 100000 in
theorem st13 : StR 13 := by
 intro bN bA B Q o ho a w hBw hN hA hF K hK
 rw [← Array.getElem?_toList] at ho
 conv at ho => lhs; whnf
 obtain rfl := (Option.some.inj ho).symm
 clear ho
 obtain ⟨u13, x13, p13⟩ := finds_dep 8 13 hF (by kernel_rfl) (by kernel_rfl)
 obtain ⟨b13, l13, rfl, q13⟩ : StrsAt B w u13 [⟨#[114, 97, 116, 101]⟩, ⟨#[114, 104, 111]⟩, ⟨#[101, 112, 115]⟩] := p13
 obtain ⟨u17, x17, p17⟩ := finds_dep 12 17 hF (by kernel_rfl) (by kernel_rfl)
 obtain ⟨b17, l17, rfl, q17⟩ : NodsAt B w u17 [noneN, numN 1063675494, numN 897988541] := p17
 simp only [nv, noneN, numN, flagN, callA, List.length_cons, List.length_nil, Nat.reduceAdd] at x13 x17
 unfold Oper.wp
 simp [execOp, go_sem, x13, x17]
 exact hK _ _ (Below.refl _ _) ⟨_, _, rfl, ⟨_, l13, rfl, q13⟩, ⟨_, l17, rfl, q17⟩⟩
set_option maxRecDepth 100000 in
theorem st14 : StR 14 := by
 intro bN bA B Q o ho a w hBw hN hA hF K hK
 rw [← Array.getElem?_toList] at ho
 conv at ho => lhs; whnf
 obtain rfl := (Option.some.inj ho).symm
 clear ho
 unfold Oper.wp
 simp [execOp, go_sem]
 exact hK _ _ ((Below.refl _ _).alloc (Nat.le_refl _) _) (strs_new w hBw [⟨#[114, 97, 116, 101]⟩, ⟨#[105, 110, 105, 116, 105, 97, 108]⟩, ⟨#[101, 112, 115]⟩] _)
set_option maxRecDepth 100000 in
theorem st15 : StR 15 := by
 intro bN bA B Q o ho a w hBw hN hA hF K hK
 rw [← Array.getElem?_toList] at ho
 conv at ho => lhs; whnf
 obtain rfl := (Option.some.inj ho).symm
 clear ho
 have x1 := hF.1 (1, .pointer (some ⟨bN, 0, none⟩)) (by simp [baseR])
 obtain ⟨⟨g0, g1, g2, g3, g4, g5, g6⟩, -⟩ := sevenA hN
 unfold Oper.wp
 simp [execOp, go_sem, x1, g0, g1, g2, g3, g4, g5, g6]
 exact hK _ _ (Below.refl _ _) rfl
set_option maxRecDepth 100000 in
theorem st16 : StR 16 := by
 intro bN bA B Q o ho a w hBw hN hA hF K hK
 rw [← Array.getElem?_toList] at ho
 conv at ho => lhs; whnf
 obtain rfl := (Option.some.inj ho).symm
 clear ho
 unfold Oper.wp
 simp [execOp, go_sem]
 refine (num_any _ _).mono ?_
 rintro e w1 ⟨rfl, hb⟩
 exact hK _ _ hb rfl
set_option maxRecDepth 100000 in
theorem st17 : StR 17 := by
 intro bN bA B Q o ho a w hBw hN hA hF K hK
 rw [← Array.getElem?_toList] at ho
 conv at ho => lhs; whnf
 obtain rfl := (Option.some.inj ho).symm
 clear ho
 unfold Oper.wp
 simp [execOp, go_sem]
 refine (num_any _ _).mono ?_
 rintro e w1 ⟨rfl, hb⟩
 exact hK _ _ hb rfl
set_option maxRecDepth 100000 in
theorem st18 : StR 18 := by
 intro bN bA B Q o ho a w hBw hN hA hF K hK
 rw [← Array.getElem?_toList] at ho
 conv at ho => lhs; whnf
 obtain rfl := (Option.some.inj ho).symm
 clear ho
 obtain ⟨u20, x20, p20⟩ := finds_dep 15 20 hF (by kernel_rfl) (by kernel_rfl)
 obtain rfl : u20 = nv (noneN) (.slice none 0 0) := p20
 obtain ⟨u21, x21, p21⟩ := finds_dep 16 21 hF (by kernel_rfl) (by kernel_rfl)
 obtain rfl : u21 = nv (numN 1036831949) (.slice none 0 0) := p21
 obtain ⟨u22, x22, p22⟩ := finds_dep 17 22 hF (by kernel_rfl) (by kernel_rfl)
 obtain rfl : u22 = nv (numN 869711765) (.slice none 0 0) := p22
 simp only [nv, noneN, numN, flagN, callA] at x20 x21 x22
 unfold Oper.wp
 simp [execOp, go_sem, x20, x21, x22]
 exact hK _ _ ((Below.refl _ _).alloc (Nat.le_refl _) _) (nods_new w hBw [noneN, numN 1036831949, numN 869711765] (by intro t ht; simp at ht; rcases ht with rfl | rfl | rfl <;> rfl) _)
set_option maxRecDepth 100000 in
theorem st19 : StR 19 := by
 intro bN bA B Q o ho a w hBw hN hA hF K hK
 rw [← Array.getElem?_toList] at ho
 conv at ho => lhs; whnf
 obtain rfl := (Option.some.inj ho).symm
 clear ho
 obtain ⟨u19, x19, p19⟩ := finds_dep 14 19 hF (by kernel_rfl) (by kernel_rfl)
 obtain ⟨b19, l19, rfl, q19⟩ : StrsAt B w u19 [⟨#[114, 97, 116, 101]⟩, ⟨#[105, 110, 105, 116, 105, 97, 108]⟩, ⟨#[101, 112, 115]⟩] := p19
 obtain ⟨u23, x23, p23⟩ := finds_dep 18 23 hF (by kernel_rfl) (by kernel_rfl)
 obtain ⟨b23, l23, rfl, q23⟩ : NodsAt B w u23 [noneN, numN 1036831949, numN 869711765] := p23
 simp only [nv, noneN, numN, flagN, callA, List.length_cons, List.length_nil, Nat.reduceAdd] at x19 x23
 unfold Oper.wp
 simp [execOp, go_sem, x19, x23]
 exact hK _ _ (Below.refl _ _) ⟨_, _, rfl, ⟨_, l19, rfl, q19⟩, ⟨_, l23, rfl, q23⟩⟩
set_option maxRecDepth 100000 in
theorem st20 : StR 20 := by
 intro bN bA B Q o ho a w hBw hN hA hF K hK
 rw [← Array.getElem?_toList] at ho
 conv at ho => lhs; whnf
 obtain rfl := (Option.some.inj ho).symm
 clear ho
 have x2 := hF.1 (2, .slice (some ⟨bA, 0, none⟩) 5 5) (by simp [baseR])
 unfold Oper.wp
 simp [execOp, go_sem, x2]
 exact hK _ _ (Below.refl _ _) hA
set_option maxRecDepth 100000 in
theorem st21 : StR 21 := by
 intro bN bA B Q o ho a w hBw hN hA hF K hK
 rw [← Array.getElem?_toList] at ho
 conv at ho => lhs; whnf
 obtain rfl := (Option.some.inj ho).symm
 clear ho
 have x1 := hF.1 (1, .pointer (some ⟨bN, 0, none⟩)) (by simp [baseR])
 obtain ⟨⟨g0, g1, g2, g3, g4, g5, g6⟩, -⟩ := sevenA hN
 unfold Oper.wp
 simp [execOp, go_sem, x1, g0, g1, g2, g3, g4, g5, g6]
 exact hK _ _ (Below.refl _ _) rfl
set_option maxRecDepth 100000 in
theorem st22 : StR 22 := by
 intro bN bA B Q o ho a w hBw hN hA hF K hK
 rw [← Array.getElem?_toList] at ho
 conv at ho => lhs; whnf
 obtain rfl := (Option.some.inj ho).symm
 clear ho
 unfold Oper.wp
 simp [execOp, go_sem]
 refine (num_any _ _).mono ?_
 rintro e w1 ⟨rfl, hb⟩
 exact hK _ _ hb rfl
set_option maxRecDepth 100000 in
theorem st23 : StR 23 := by
 intro bN bA B Q o ho a w hBw hN hA hF K hK
 rw [← Array.getElem?_toList] at ho
 conv at ho => lhs; whnf
 obtain rfl := (Option.some.inj ho).symm
 clear ho
 unfold Oper.wp
 simp [execOp, go_sem]
 refine (num_any _ _).mono ?_
 rintro e w1 ⟨rfl, hb⟩
 exact hK _ _ hb rfl
set_option maxRecDepth 100000 in
theorem st24 : StR 24 := by
 intro bN bA B Q o ho a w hBw hN hA hF K hK
 rw [← Array.getElem?_toList] at ho
 conv at ho => lhs; whnf
 obtain rfl := (Option.some.inj ho).symm
 clear ho
 unfold Oper.wp
 simp [execOp, go_sem]
 refine (num_any _ _).mono ?_
 rintro e w1 ⟨rfl, hb⟩
 exact hK _ _ hb rfl
set_option maxRecDepth 100000 in
theorem st25 : StR 25 := by
 intro bN bA B Q o ho a w hBw hN hA hF K hK
 rw [← Array.getElem?_toList] at ho
 conv at ho => lhs; whnf
 obtain rfl := (Option.some.inj ho).symm
 clear ho
 unfold Oper.wp
 simp [execOp, go_sem]
 refine (num_any _ _).mono ?_
 rintro e w1 ⟨rfl, hb⟩
 exact hK _ _ hb rfl
set_option maxRecDepth 100000 in
theorem st26 : StR 26 := by
 intro bN bA B Q o ho a w hBw hN hA hF K hK
 rw [← Array.getElem?_toList] at ho
 conv at ho => lhs; whnf
 obtain rfl := (Option.some.inj ho).symm
 clear ho
 obtain ⟨u26, x26, p26⟩ := finds_dep 21 26 hF (by kernel_rfl) (by kernel_rfl)
 obtain rfl : u26 = nv (noneN) (.slice none 0 0) := p26
 obtain ⟨u27, x27, p27⟩ := finds_dep 22 27 hF (by kernel_rfl) (by kernel_rfl)
 obtain rfl : u27 = nv (numN 1063675494) (.slice none 0 0) := p27
 obtain ⟨u28, x28, p28⟩ := finds_dep 23 28 hF (by kernel_rfl) (by kernel_rfl)
 obtain rfl : u28 = nv (numN 1065336439) (.slice none 0 0) := p28
 obtain ⟨u29, x29, p29⟩ := finds_dep 24 29 hF (by kernel_rfl) (by kernel_rfl)
 obtain rfl : u29 = nv (numN 841731191) (.slice none 0 0) := p29
 obtain ⟨u30, x30, p30⟩ := finds_dep 25 30 hF (by kernel_rfl) (by kernel_rfl)
 obtain rfl : u30 = nv (numN 0) (.slice none 0 0) := p30
 simp only [nv, noneN, numN, flagN, callA] at x26 x27 x28 x29 x30
 unfold Oper.wp
 simp [execOp, go_sem, x26, x27, x28, x29, x30]
 exact hK _ _ ((Below.refl _ _).alloc (Nat.le_refl _) _) (nods_new w hBw [noneN, numN 1063675494, numN 1065336439, numN 841731191, numN 0] (by intro t ht; simp at ht; rcases ht with rfl | rfl | rfl | rfl | rfl <;> rfl) _)
set_option maxRecDepth 100000 in
theorem st27 : StR 27 := by
 intro bN bA B Q o ho a w hBw hN hA hF K hK
 rw [← Array.getElem?_toList] at ho
 conv at ho => lhs; whnf
 obtain rfl := (Option.some.inj ho).symm
 clear ho
 obtain ⟨u25, x25, p25⟩ := finds_dep 20 25 hF (by kernel_rfl) (by kernel_rfl)
 obtain ⟨b25, l25, rfl, q25⟩ : StrsAt B w u25 [⟨#[114, 97, 116, 101]⟩, ⟨#[98, 49]⟩, ⟨#[98, 50]⟩, ⟨#[101, 112, 115]⟩, ⟨#[101, 112, 115, 95, 114, 111, 111, 116]⟩] := p25
 obtain ⟨u31, x31, p31⟩ := finds_dep 26 31 hF (by kernel_rfl) (by kernel_rfl)
 obtain ⟨b31, l31, rfl, q31⟩ : NodsAt B w u31 [noneN, numN 1063675494, numN 1065336439, numN 841731191, numN 0] := p31
 simp only [nv, noneN, numN, flagN, callA, List.length_cons, List.length_nil, Nat.reduceAdd] at x25 x31
 unfold Oper.wp
 simp [execOp, go_sem, x25, x31]
 exact hK _ _ (Below.refl _ _) ⟨_, _, rfl, ⟨_, l25, rfl, q25⟩, ⟨_, l31, rfl, q31⟩⟩
set_option maxRecDepth 100000 in
theorem st28 : StR 28 := by
 intro bN bA B Q o ho a w hBw hN hA hF K hK
 rw [← Array.getElem?_toList] at ho
 conv at ho => lhs; whnf
 obtain rfl := (Option.some.inj ho).symm
 clear ho
 unfold Oper.wp
 simp [execOp, go_sem]
 exact hK _ _ ((Below.refl _ _).alloc (Nat.le_refl _) _) (strs_new w hBw [⟨#[114, 97, 116, 101]⟩, ⟨#[98, 49]⟩, ⟨#[98, 50]⟩, ⟨#[101, 112, 115]⟩] _)
set_option maxRecDepth 100000 in
theorem st29 : StR 29 := by
 intro bN bA B Q o ho a w hBw hN hA hF K hK
 rw [← Array.getElem?_toList] at ho
 conv at ho => lhs; whnf
 obtain rfl := (Option.some.inj ho).symm
 clear ho
 have x1 := hF.1 (1, .pointer (some ⟨bN, 0, none⟩)) (by simp [baseR])
 obtain ⟨⟨g0, g1, g2, g3, g4, g5, g6⟩, -⟩ := sevenA hN
 unfold Oper.wp
 simp [execOp, go_sem, x1, g0, g1, g2, g3, g4, g5, g6]
 exact hK _ _ (Below.refl _ _) rfl
set_option maxRecDepth 100000 in
theorem st30 : StR 30 := by
 intro bN bA B Q o ho a w hBw hN hA hF K hK
 rw [← Array.getElem?_toList] at ho
 conv at ho => lhs; whnf
 obtain rfl := (Option.some.inj ho).symm
 clear ho
 unfold Oper.wp
 simp [execOp, go_sem]
 refine (num_any _ _).mono ?_
 rintro e w1 ⟨rfl, hb⟩
 exact hK _ _ hb rfl
set_option maxRecDepth 100000 in
theorem st31 : StR 31 := by
 intro bN bA B Q o ho a w hBw hN hA hF K hK
 rw [← Array.getElem?_toList] at ho
 conv at ho => lhs; whnf
 obtain rfl := (Option.some.inj ho).symm
 clear ho
 unfold Oper.wp
 simp [execOp, go_sem]
 refine (num_any _ _).mono ?_
 rintro e w1 ⟨rfl, hb⟩
 exact hK _ _ hb rfl
set_option maxRecDepth 100000 in
theorem st32 : StR 32 := by
 intro bN bA B Q o ho a w hBw hN hA hF K hK
 rw [← Array.getElem?_toList] at ho
 conv at ho => lhs; whnf
 obtain rfl := (Option.some.inj ho).symm
 clear ho
 unfold Oper.wp
 simp [execOp, go_sem]
 refine (num_any _ _).mono ?_
 rintro e w1 ⟨rfl, hb⟩
 exact hK _ _ hb rfl
set_option maxRecDepth 100000 in
theorem st33 : StR 33 := by
 intro bN bA B Q o ho a w hBw hN hA hF K hK
 rw [← Array.getElem?_toList] at ho
 conv at ho => lhs; whnf
 obtain rfl := (Option.some.inj ho).symm
 clear ho
 obtain ⟨u34, x34, p34⟩ := finds_dep 29 34 hF (by kernel_rfl) (by kernel_rfl)
 obtain rfl : u34 = nv (noneN) (.slice none 0 0) := p34
 obtain ⟨u35, x35, p35⟩ := finds_dep 30 35 hF (by kernel_rfl) (by kernel_rfl)
 obtain rfl : u35 = nv (numN 1063675494) (.slice none 0 0) := p35
 obtain ⟨u36, x36, p36⟩ := finds_dep 31 36 hF (by kernel_rfl) (by kernel_rfl)
 obtain rfl : u36 = nv (numN 1065336439) (.slice none 0 0) := p36
 obtain ⟨u37, x37, p37⟩ := finds_dep 32 37 hF (by kernel_rfl) (by kernel_rfl)
 obtain rfl : u37 = nv (numN 841731191) (.slice none 0 0) := p37
 simp only [nv, noneN, numN, flagN, callA] at x34 x35 x36 x37
 unfold Oper.wp
 simp [execOp, go_sem, x34, x35, x36, x37]
 exact hK _ _ ((Below.refl _ _).alloc (Nat.le_refl _) _) (nods_new w hBw [noneN, numN 1063675494, numN 1065336439, numN 841731191] (by intro t ht; simp at ht; rcases ht with rfl | rfl | rfl | rfl <;> rfl) _)
set_option maxRecDepth 100000 in
theorem st34 : StR 34 := by
 intro bN bA B Q o ho a w hBw hN hA hF K hK
 rw [← Array.getElem?_toList] at ho
 conv at ho => lhs; whnf
 obtain rfl := (Option.some.inj ho).symm
 clear ho
 obtain ⟨u33, x33, p33⟩ := finds_dep 28 33 hF (by kernel_rfl) (by kernel_rfl)
 obtain ⟨b33, l33, rfl, q33⟩ : StrsAt B w u33 [⟨#[114, 97, 116, 101]⟩, ⟨#[98, 49]⟩, ⟨#[98, 50]⟩, ⟨#[101, 112, 115]⟩] := p33
 obtain ⟨u38, x38, p38⟩ := finds_dep 33 38 hF (by kernel_rfl) (by kernel_rfl)
 obtain ⟨b38, l38, rfl, q38⟩ : NodsAt B w u38 [noneN, numN 1063675494, numN 1065336439, numN 841731191] := p38
 simp only [nv, noneN, numN, flagN, callA, List.length_cons, List.length_nil, Nat.reduceAdd] at x33 x38
 unfold Oper.wp
 simp [execOp, go_sem, x33, x38]
 exact hK _ _ (Below.refl _ _) ⟨_, _, rfl, ⟨_, l33, rfl, q33⟩, ⟨_, l38, rfl, q38⟩⟩
set_option maxRecDepth 100000 in
theorem st35 : StR 35 := by
 intro bN bA B Q o ho a w hBw hN hA hF K hK
 rw [← Array.getElem?_toList] at ho
 conv at ho => lhs; whnf
 obtain rfl := (Option.some.inj ho).symm
 clear ho
 unfold Oper.wp
 simp [execOp, go_sem]
 exact hK _ _ ((Below.refl _ _).alloc (Nat.le_refl _) _) (strs_new w hBw [⟨#[114, 97, 116, 101]⟩, ⟨#[98, 49]⟩, ⟨#[98, 50]⟩, ⟨#[101, 112, 115]⟩, ⟨#[101, 112, 115, 95, 114, 111, 111, 116]⟩, ⟨#[119, 101, 105, 103, 104, 116, 95, 100, 101, 99, 97, 121]⟩, ⟨#[109, 97, 115, 107]⟩] _)
set_option maxRecDepth 100000 in
theorem st36 : StR 36 := by
 intro bN bA B Q o ho a w hBw hN hA hF K hK
 rw [← Array.getElem?_toList] at ho
 conv at ho => lhs; whnf
 obtain rfl := (Option.some.inj ho).symm
 clear ho
 have x1 := hF.1 (1, .pointer (some ⟨bN, 0, none⟩)) (by simp [baseR])
 obtain ⟨⟨g0, g1, g2, g3, g4, g5, g6⟩, -⟩ := sevenA hN
 unfold Oper.wp
 simp [execOp, go_sem, x1, g0, g1, g2, g3, g4, g5, g6]
 exact hK _ _ (Below.refl _ _) rfl
set_option maxRecDepth 100000 in
theorem st37 : StR 37 := by
 intro bN bA B Q o ho a w hBw hN hA hF K hK
 rw [← Array.getElem?_toList] at ho
 conv at ho => lhs; whnf
 obtain rfl := (Option.some.inj ho).symm
 clear ho
 unfold Oper.wp
 simp [execOp, go_sem]
 refine (num_any _ _).mono ?_
 rintro e w1 ⟨rfl, hb⟩
 exact hK _ _ hb rfl
set_option maxRecDepth 100000 in
theorem st38 : StR 38 := by
 intro bN bA B Q o ho a w hBw hN hA hF K hK
 rw [← Array.getElem?_toList] at ho
 conv at ho => lhs; whnf
 obtain rfl := (Option.some.inj ho).symm
 clear ho
 unfold Oper.wp
 simp [execOp, go_sem]
 refine (num_any _ _).mono ?_
 rintro e w1 ⟨rfl, hb⟩
 exact hK _ _ hb rfl
set_option maxRecDepth 100000 in
theorem st39 : StR 39 := by
 intro bN bA B Q o ho a w hBw hN hA hF K hK
 rw [← Array.getElem?_toList] at ho
 conv at ho => lhs; whnf
 obtain rfl := (Option.some.inj ho).symm
 clear ho
 unfold Oper.wp
 simp [execOp, go_sem]
 refine (num_any _ _).mono ?_
 rintro e w1 ⟨rfl, hb⟩
 exact hK _ _ hb rfl
set_option maxRecDepth 100000 in
theorem st40 : StR 40 := by
 intro bN bA B Q o ho a w hBw hN hA hF K hK
 rw [← Array.getElem?_toList] at ho
 conv at ho => lhs; whnf
 obtain rfl := (Option.some.inj ho).symm
 clear ho
 unfold Oper.wp
 simp [execOp, go_sem]
 refine (num_any _ _).mono ?_
 rintro e w1 ⟨rfl, hb⟩
 exact hK _ _ hb rfl
set_option maxRecDepth 100000 in
theorem st41 : StR 41 := by
 intro bN bA B Q o ho a w hBw hN hA hF K hK
 rw [← Array.getElem?_toList] at ho
 conv at ho => lhs; whnf
 obtain rfl := (Option.some.inj ho).symm
 clear ho
 unfold Oper.wp
 simp [execOp, go_sem]
 refine (num_any _ _).mono ?_
 rintro e w1 ⟨rfl, hb⟩
 exact hK _ _ hb rfl
set_option maxRecDepth 100000 in
theorem st42 : StR 42 := by
 intro bN bA B Q o ho a w hBw hN hA hF K hK
 rw [← Array.getElem?_toList] at ho
 conv at ho => lhs; whnf
 obtain rfl := (Option.some.inj ho).symm
 clear ho
 unfold Oper.wp
 simp [execOp, go_sem]
 refine (call0_any _ _).mono ?_
 rintro e w1 ⟨rfl, hb⟩
 exact hK _ _ hb rfl
set_option maxRecDepth 100000 in
theorem st43 : StR 43 := by
 intro bN bA B Q o ho a w hBw hN hA hF K hK
 rw [← Array.getElem?_toList] at ho
 conv at ho => lhs; whnf
 obtain rfl := (Option.some.inj ho).symm
 clear ho
 obtain ⟨u41, x41, p41⟩ := finds_dep 36 41 hF (by kernel_rfl) (by kernel_rfl)
 obtain rfl : u41 = nv (noneN) (.slice none 0 0) := p41
 obtain ⟨u42, x42, p42⟩ := finds_dep 37 42 hF (by kernel_rfl) (by kernel_rfl)
 obtain rfl : u42 = nv (numN 1063675494) (.slice none 0 0) := p42
 obtain ⟨u43, x43, p43⟩ := finds_dep 38 43 hF (by kernel_rfl) (by kernel_rfl)
 obtain rfl : u43 = nv (numN 1065336439) (.slice none 0 0) := p43
 obtain ⟨u44, x44, p44⟩ := finds_dep 39 44 hF (by kernel_rfl) (by kernel_rfl)
 obtain rfl : u44 = nv (numN 841731191) (.slice none 0 0) := p44
 obtain ⟨u45, x45, p45⟩ := finds_dep 40 45 hF (by kernel_rfl) (by kernel_rfl)
 obtain rfl : u45 = nv (numN 0) (.slice none 0 0) := p45
 obtain ⟨u46, x46, p46⟩ := finds_dep 41 46 hF (by kernel_rfl) (by kernel_rfl)
 obtain rfl : u46 = nv (numN 953267991) (.slice none 0 0) := p46
 obtain ⟨u47, x47, p47⟩ := finds_dep 42 47 hF (by kernel_rfl) (by kernel_rfl)
 obtain rfl : u47 = nv (callA ⟨#[97, 108, 108]⟩ []) (.slice none 0 0) := p47
 simp only [nv, noneN, numN, flagN, callA] at x41 x42 x43 x44 x45 x46 x47
 unfold Oper.wp
 simp [execOp, go_sem, x41, x42, x43, x44, x45, x46, x47]
 exact hK _ _ ((Below.refl _ _).alloc (Nat.le_refl _) _) (nods_new w hBw [noneN, numN 1063675494, numN 1065336439, numN 841731191, numN 0, numN 953267991, callA ⟨#[97, 108, 108]⟩ []] (by intro t ht; simp at ht; rcases ht with rfl | rfl | rfl | rfl | rfl | rfl | rfl <;> rfl) _)
set_option maxRecDepth 100000 in
theorem st44 : StR 44 := by
 intro bN bA B Q o ho a w hBw hN hA hF K hK
 rw [← Array.getElem?_toList] at ho
 conv at ho => lhs; whnf
 obtain rfl := (Option.some.inj ho).symm
 clear ho
 obtain ⟨u40, x40, p40⟩ := finds_dep 35 40 hF (by kernel_rfl) (by kernel_rfl)
 obtain ⟨b40, l40, rfl, q40⟩ : StrsAt B w u40 [⟨#[114, 97, 116, 101]⟩, ⟨#[98, 49]⟩, ⟨#[98, 50]⟩, ⟨#[101, 112, 115]⟩, ⟨#[101, 112, 115, 95, 114, 111, 111, 116]⟩, ⟨#[119, 101, 105, 103, 104, 116, 95, 100, 101, 99, 97, 121]⟩, ⟨#[109, 97, 115, 107]⟩] := p40
 obtain ⟨u48, x48, p48⟩ := finds_dep 43 48 hF (by kernel_rfl) (by kernel_rfl)
 obtain ⟨b48, l48, rfl, q48⟩ : NodsAt B w u48 [noneN, numN 1063675494, numN 1065336439, numN 841731191, numN 0, numN 953267991, callA ⟨#[97, 108, 108]⟩ []] := p48
 simp only [nv, noneN, numN, flagN, callA, List.length_cons, List.length_nil, Nat.reduceAdd] at x40 x48
 unfold Oper.wp
 simp [execOp, go_sem, x40, x48]
 exact hK _ _ (Below.refl _ _) ⟨_, _, rfl, ⟨_, l40, rfl, q40⟩, ⟨_, l48, rfl, q48⟩⟩
set_option maxRecDepth 100000 in
theorem st45 : StR 45 := by
 intro bN bA B Q o ho a w hBw hN hA hF K hK
 rw [← Array.getElem?_toList] at ho
 conv at ho => lhs; whnf
 obtain rfl := (Option.some.inj ho).symm
 clear ho
 unfold Oper.wp
 simp [execOp, go_sem]
 exact hK _ _ ((Below.refl _ _).alloc (Nat.le_refl _) _) (strs_new w hBw [⟨#[114, 97, 116, 101]⟩, ⟨#[99, 108, 105, 112, 112, 105, 110, 103]⟩, ⟨#[101, 112, 115]⟩, ⟨#[109, 111, 109, 101, 110, 116, 117, 109]⟩, ⟨#[110, 101, 115, 116, 101, 114, 111, 118]⟩] _)
set_option maxRecDepth 100000 in
theorem st46 : StR 46 := by
 intro bN bA B Q o ho a w hBw hN hA hF K hK
 rw [← Array.getElem?_toList] at ho
 conv at ho => lhs; whnf
 obtain rfl := (Option.some.inj ho).symm
 clear ho
 have x1 := hF.1 (1, .pointer (some ⟨bN, 0, none⟩)) (by simp [baseR])
 obtain ⟨⟨g0, g1, g2, g3, g4, g5, g6⟩, -⟩ := sevenA hN
 unfold Oper.wp
 simp [execOp, go_sem, x1, g0, g1, g2, g3, g4, g5, g6]
 exact hK _ _ (Below.refl _ _) rfl
set_option maxRecDepth 100000 in
theorem st47 : StR 47 := by
 intro bN bA B Q o ho a w hBw hN hA hF K hK
 rw [← Array.getElem?_toList] at ho
 conv at ho => lhs; whnf
 obtain rfl := (Option.some.inj ho).symm
 clear ho
 unfold Oper.wp
 simp [execOp, go_sem]
 refine (num_any _ _).mono ?_
 rintro e w1 ⟨rfl, hb⟩
 exact hK _ _ hb rfl
set_option maxRecDepth 100000 in
theorem st48 : StR 48 := by
 intro bN bA B Q o ho a w hBw hN hA hF K hK
 rw [← Array.getElem?_toList] at ho
 conv at ho => lhs; whnf
 obtain rfl := (Option.some.inj ho).symm
 clear ho
 unfold Oper.wp
 simp [execOp, go_sem]
 refine (num_any _ _).mono ?_
 rintro e w1 ⟨rfl, hb⟩
 exact hK _ _ hb rfl
set_option maxRecDepth 100000 in
theorem st49 : StR 49 := by
 intro bN bA B Q o ho a w hBw hN hA hF K hK
 rw [← Array.getElem?_toList] at ho
 conv at ho => lhs; whnf
 obtain rfl := (Option.some.inj ho).symm
 clear ho
 unfold Oper.wp
 simp [execOp, go_sem]
 refine (num_any _ _).mono ?_
 rintro e w1 ⟨rfl, hb⟩
 exact hK _ _ hb rfl
set_option maxRecDepth 100000 in
theorem st50 : StR 50 := by
 intro bN bA B Q o ho a w hBw hN hA hF K hK
 rw [← Array.getElem?_toList] at ho
 conv at ho => lhs; whnf
 obtain rfl := (Option.some.inj ho).symm
 clear ho
 unfold Oper.wp
 simp [execOp, go_sem]
 refine (flag_any _ _).mono ?_
 rintro e w1 ⟨rfl, hb⟩
 exact hK _ _ hb rfl
set_option maxRecDepth 100000 in
theorem st51 : StR 51 := by
 intro bN bA B Q o ho a w hBw hN hA hF K hK
 rw [← Array.getElem?_toList] at ho
 conv at ho => lhs; whnf
 obtain rfl := (Option.some.inj ho).symm
 clear ho
 obtain ⟨u51, x51, p51⟩ := finds_dep 46 51 hF (by kernel_rfl) (by kernel_rfl)
 obtain rfl : u51 = nv (noneN) (.slice none 0 0) := p51
 obtain ⟨u52, x52, p52⟩ := finds_dep 47 52 hF (by kernel_rfl) (by kernel_rfl)
 obtain rfl : u52 = nv (numN 1036831949) (.slice none 0 0) := p52
 obtain ⟨u53, x53, p53⟩ := finds_dep 48 53 hF (by kernel_rfl) (by kernel_rfl)
 obtain rfl : u53 = nv (numN 981668463) (.slice none 0 0) := p53
 obtain ⟨u54, x54, p54⟩ := finds_dep 49 54 hF (by kernel_rfl) (by kernel_rfl)
 obtain rfl : u54 = nv (numN 0) (.slice none 0 0) := p54
 obtain ⟨u55, x55, p55⟩ := finds_dep 50 55 hF (by kernel_rfl) (by kernel_rfl)
 obtain rfl : u55 = nv (flagN ⟨#[102, 97, 108, 115, 101]⟩) (.slice none 0 0) := p55
 simp only [nv, noneN, numN, flagN, callA] at x51 x52 x53 x54 x55
 unfold Oper.wp
 simp [execOp, go_sem, x51, x52, x53, x54, x55]
 exact hK _ _ ((Below.refl _ _).alloc (Nat.le_refl _) _) (nods_new w hBw [noneN, numN 1036831949, numN 981668463, numN 0, flagN ⟨#[102, 97, 108, 115, 101]⟩] (by intro t ht; simp at ht; rcases ht with rfl | rfl | rfl | rfl | rfl <;> rfl) _)
set_option maxRecDepth 100000 in
theorem st52 : StR 52 := by
 intro bN bA B Q o ho a w hBw hN hA hF K hK
 rw [← Array.getElem?_toList] at ho
 conv at ho => lhs; whnf
 obtain rfl := (Option.some.inj ho).symm
 clear ho
 obtain ⟨u50, x50, p50⟩ := finds_dep 45 50 hF (by kernel_rfl) (by kernel_rfl)
 obtain ⟨b50, l50, rfl, q50⟩ : StrsAt B w u50 [⟨#[114, 97, 116, 101]⟩, ⟨#[99, 108, 105, 112, 112, 105, 110, 103]⟩, ⟨#[101, 112, 115]⟩, ⟨#[109, 111, 109, 101, 110, 116, 117, 109]⟩, ⟨#[110, 101, 115, 116, 101, 114, 111, 118]⟩] := p50
 obtain ⟨u56, x56, p56⟩ := finds_dep 51 56 hF (by kernel_rfl) (by kernel_rfl)
 obtain ⟨b56, l56, rfl, q56⟩ : NodsAt B w u56 [noneN, numN 1036831949, numN 981668463, numN 0, flagN ⟨#[102, 97, 108, 115, 101]⟩] := p56
 simp only [nv, noneN, numN, flagN, callA, List.length_cons, List.length_nil, Nat.reduceAdd] at x50 x56
 unfold Oper.wp
 simp [execOp, go_sem, x50, x56]
 exact hK _ _ (Below.refl _ _) ⟨_, _, rfl, ⟨_, l50, rfl, q50⟩, ⟨_, l56, rfl, q56⟩⟩
set_option maxRecDepth 100000 in
theorem st53 : StR 53 := by
 intro bN bA B Q o ho a w hBw hN hA hF K hK
 rw [← Array.getElem?_toList] at ho
 conv at ho => lhs; whnf
 obtain rfl := (Option.some.inj ho).symm
 clear ho
 have x2 := hF.1 (2, .slice (some ⟨bA, 0, none⟩) 5 5) (by simp [baseR])
 unfold Oper.wp
 simp [execOp, go_sem, x2]
 exact hK _ _ (Below.refl _ _) hA
set_option maxRecDepth 100000 in
theorem st54 : StR 54 := by
 intro bN bA B Q o ho a w hBw hN hA hF K hK
 rw [← Array.getElem?_toList] at ho
 conv at ho => lhs; whnf
 obtain rfl := (Option.some.inj ho).symm
 clear ho
 have x1 := hF.1 (1, .pointer (some ⟨bN, 0, none⟩)) (by simp [baseR])
 obtain ⟨⟨g0, g1, g2, g3, g4, g5, g6⟩, -⟩ := sevenA hN
 unfold Oper.wp
 simp [execOp, go_sem, x1, g0, g1, g2, g3, g4, g5, g6]
 exact hK _ _ (Below.refl _ _) rfl
set_option maxRecDepth 100000 in
theorem st55 : StR 55 := by
 intro bN bA B Q o ho a w hBw hN hA hF K hK
 rw [← Array.getElem?_toList] at ho
 conv at ho => lhs; whnf
 obtain rfl := (Option.some.inj ho).symm
 clear ho
 unfold Oper.wp
 simp [execOp, go_sem]
 refine (num_any _ _).mono ?_
 rintro e w1 ⟨rfl, hb⟩
 exact hK _ _ hb rfl
set_option maxRecDepth 100000 in
theorem st56 : StR 56 := by
 intro bN bA B Q o ho a w hBw hN hA hF K hK
 rw [← Array.getElem?_toList] at ho
 conv at ho => lhs; whnf
 obtain rfl := (Option.some.inj ho).symm
 clear ho
 unfold Oper.wp
 simp [execOp, go_sem]
 refine (num_any _ _).mono ?_
 rintro e w1 ⟨rfl, hb⟩
 exact hK _ _ hb rfl
set_option maxRecDepth 100000 in
theorem st57 : StR 57 := by
 intro bN bA B Q o ho a w hBw hN hA hF K hK
 rw [← Array.getElem?_toList] at ho
 conv at ho => lhs; whnf
 obtain rfl := (Option.some.inj ho).symm
 clear ho
 unfold Oper.wp
 simp [execOp, go_sem]
 refine (num_any _ _).mono ?_
 rintro e w1 ⟨rfl, hb⟩
 exact hK _ _ hb rfl
set_option maxRecDepth 100000 in
theorem st58 : StR 58 := by
 intro bN bA B Q o ho a w hBw hN hA hF K hK
 rw [← Array.getElem?_toList] at ho
 conv at ho => lhs; whnf
 obtain rfl := (Option.some.inj ho).symm
 clear ho
 unfold Oper.wp
 simp [execOp, go_sem]
 refine (num_any _ _).mono ?_
 rintro e w1 ⟨rfl, hb⟩
 exact hK _ _ hb rfl
set_option maxRecDepth 100000 in
theorem st59 : StR 59 := by
 intro bN bA B Q o ho a w hBw hN hA hF K hK
 rw [← Array.getElem?_toList] at ho
 conv at ho => lhs; whnf
 obtain rfl := (Option.some.inj ho).symm
 clear ho
 obtain ⟨u59, x59, p59⟩ := finds_dep 54 59 hF (by kernel_rfl) (by kernel_rfl)
 obtain rfl : u59 = nv (noneN) (.slice none 0 0) := p59
 obtain ⟨u60, x60, p60⟩ := finds_dep 55 60 hF (by kernel_rfl) (by kernel_rfl)
 obtain rfl : u60 = nv (numN 1063675494) (.slice none 0 0) := p60
 obtain ⟨u61, x61, p61⟩ := finds_dep 56 61 hF (by kernel_rfl) (by kernel_rfl)
 obtain rfl : u61 = nv (numN 1065336439) (.slice none 0 0) := p61
 obtain ⟨u62, x62, p62⟩ := finds_dep 57 62 hF (by kernel_rfl) (by kernel_rfl)
 obtain rfl : u62 = nv (numN 841731191) (.slice none 0 0) := p62
 obtain ⟨u63, x63, p63⟩ := finds_dep 58 63 hF (by kernel_rfl) (by kernel_rfl)
 obtain rfl : u63 = nv (numN 0) (.slice none 0 0) := p63
 simp only [nv, noneN, numN, flagN, callA] at x59 x60 x61 x62 x63
 unfold Oper.wp
 simp [execOp, go_sem, x59, x60, x61, x62, x63]
 exact hK _ _ ((Below.refl _ _).alloc (Nat.le_refl _) _) (nods_new w hBw [noneN, numN 1063675494, numN 1065336439, numN 841731191, numN 0] (by intro t ht; simp at ht; rcases ht with rfl | rfl | rfl | rfl | rfl <;> rfl) _)
set_option maxRecDepth 100000 in
theorem st60 : StR 60 := by
 intro bN bA B Q o ho a w hBw hN hA hF K hK
 rw [← Array.getElem?_toList] at ho
 conv at ho => lhs; whnf
 obtain rfl := (Option.some.inj ho).symm
 clear ho
 obtain ⟨u58, x58, p58⟩ := finds_dep 53 58 hF (by kernel_rfl) (by kernel_rfl)
 obtain ⟨b58, l58, rfl, q58⟩ : StrsAt B w u58 [⟨#[114, 97, 116, 101]⟩, ⟨#[98, 49]⟩, ⟨#[98, 50]⟩, ⟨#[101, 112, 115]⟩, ⟨#[101, 112, 115, 95, 114, 111, 111, 116]⟩] := p58
 obtain ⟨u64, x64, p64⟩ := finds_dep 59 64 hF (by kernel_rfl) (by kernel_rfl)
 obtain ⟨b64, l64, rfl, q64⟩ : NodsAt B w u64 [noneN, numN 1063675494, numN 1065336439, numN 841731191, numN 0] := p64
 simp only [nv, noneN, numN, flagN, callA, List.length_cons, List.length_nil, Nat.reduceAdd] at x58 x64
 unfold Oper.wp
 simp [execOp, go_sem, x58, x64]
 exact hK _ _ (Below.refl _ _) ⟨_, _, rfl, ⟨_, l58, rfl, q58⟩, ⟨_, l64, rfl, q64⟩⟩
set_option maxRecDepth 100000 in
theorem st61 : StR 61 := by
 intro bN bA B Q o ho a w hBw hN hA hF K hK
 rw [← Array.getElem?_toList] at ho
 conv at ho => lhs; whnf
 obtain rfl := (Option.some.inj ho).symm
 clear ho
 unfold Oper.wp
 simp [execOp, go_sem]
 exact hK _ _ ((Below.refl _ _).alloc (Nat.le_refl _) _) (strs_new w hBw [⟨#[114, 97, 116, 101]⟩, ⟨#[98, 49]⟩, ⟨#[98, 50]⟩, ⟨#[101, 112, 115]⟩, ⟨#[101, 112, 115, 95, 114, 111, 111, 116]⟩, ⟨#[119, 101, 105, 103, 104, 116, 95, 100, 101, 99, 97, 121]⟩, ⟨#[109, 97, 115, 107]⟩] _)
set_option maxRecDepth 100000 in
theorem st62 : StR 62 := by
 intro bN bA B Q o ho a w hBw hN hA hF K hK
 rw [← Array.getElem?_toList] at ho
 conv at ho => lhs; whnf
 obtain rfl := (Option.some.inj ho).symm
 clear ho
 have x1 := hF.1 (1, .pointer (some ⟨bN, 0, none⟩)) (by simp [baseR])
 obtain ⟨⟨g0, g1, g2, g3, g4, g5, g6⟩, -⟩ := sevenA hN
 unfold Oper.wp
 simp [execOp, go_sem, x1, g0, g1, g2, g3, g4, g5, g6]
 exact hK _ _ (Below.refl _ _) rfl
set_option maxRecDepth 100000 in
theorem st63 : StR 63 := by
 intro bN bA B Q o ho a w hBw hN hA hF K hK
 rw [← Array.getElem?_toList] at ho
 conv at ho => lhs; whnf
 obtain rfl := (Option.some.inj ho).symm
 clear ho
 unfold Oper.wp
 simp [execOp, go_sem]
 refine (num_any _ _).mono ?_
 rintro e w1 ⟨rfl, hb⟩
 exact hK _ _ hb rfl
set_option maxRecDepth 100000 in
theorem st64 : StR 64 := by
 intro bN bA B Q o ho a w hBw hN hA hF K hK
 rw [← Array.getElem?_toList] at ho
 conv at ho => lhs; whnf
 obtain rfl := (Option.some.inj ho).symm
 clear ho
 unfold Oper.wp
 simp [execOp, go_sem]
 refine (num_any _ _).mono ?_
 rintro e w1 ⟨rfl, hb⟩
 exact hK _ _ hb rfl
set_option maxRecDepth 100000 in
theorem st65 : StR 65 := by
 intro bN bA B Q o ho a w hBw hN hA hF K hK
 rw [← Array.getElem?_toList] at ho
 conv at ho => lhs; whnf
 obtain rfl := (Option.some.inj ho).symm
 clear ho
 unfold Oper.wp
 simp [execOp, go_sem]
 refine (num_any _ _).mono ?_
 rintro e w1 ⟨rfl, hb⟩
 exact hK _ _ hb rfl
set_option maxRecDepth 100000 in
theorem st66 : StR 66 := by
 intro bN bA B Q o ho a w hBw hN hA hF K hK
 rw [← Array.getElem?_toList] at ho
 conv at ho => lhs; whnf
 obtain rfl := (Option.some.inj ho).symm
 clear ho
 unfold Oper.wp
 simp [execOp, go_sem]
 refine (num_any _ _).mono ?_
 rintro e w1 ⟨rfl, hb⟩
 exact hK _ _ hb rfl
set_option maxRecDepth 100000 in
theorem st67 : StR 67 := by
 intro bN bA B Q o ho a w hBw hN hA hF K hK
 rw [← Array.getElem?_toList] at ho
 conv at ho => lhs; whnf
 obtain rfl := (Option.some.inj ho).symm
 clear ho
 unfold Oper.wp
 simp [execOp, go_sem]
 refine (num_any _ _).mono ?_
 rintro e w1 ⟨rfl, hb⟩
 exact hK _ _ hb rfl
set_option maxRecDepth 100000 in
theorem st68 : StR 68 := by
 intro bN bA B Q o ho a w hBw hN hA hF K hK
 rw [← Array.getElem?_toList] at ho
 conv at ho => lhs; whnf
 obtain rfl := (Option.some.inj ho).symm
 clear ho
 unfold Oper.wp
 simp [execOp, go_sem]
 refine (call0_any _ _).mono ?_
 rintro e w1 ⟨rfl, hb⟩
 exact hK _ _ hb rfl
set_option maxRecDepth 100000 in
theorem st69 : StR 69 := by
 intro bN bA B Q o ho a w hBw hN hA hF K hK
 rw [← Array.getElem?_toList] at ho
 conv at ho => lhs; whnf
 obtain rfl := (Option.some.inj ho).symm
 clear ho
 obtain ⟨u67, x67, p67⟩ := finds_dep 62 67 hF (by kernel_rfl) (by kernel_rfl)
 obtain rfl : u67 = nv (noneN) (.slice none 0 0) := p67
 obtain ⟨u68, x68, p68⟩ := finds_dep 63 68 hF (by kernel_rfl) (by kernel_rfl)
 obtain rfl : u68 = nv (numN 1063675494) (.slice none 0 0) := p68
 obtain ⟨u69, x69, p69⟩ := finds_dep 64 69 hF (by kernel_rfl) (by kernel_rfl)
 obtain rfl : u69 = nv (numN 1065336439) (.slice none 0 0) := p69
 obtain ⟨u70, x70, p70⟩ := finds_dep 65 70 hF (by kernel_rfl) (by kernel_rfl)
 obtain rfl : u70 = nv (numN 897988541) (.slice none 0 0) := p70
 obtain ⟨u71, x71, p71⟩ := finds_dep 66 71 hF (by kernel_rfl) (by kernel_rfl)
 obtain rfl : u71 = nv (numN 0) (.slice none 0 0) := p71
 obtain ⟨u72, x72, p72⟩ := finds_dep 67 72 hF (by kernel_rfl) (by kernel_rfl)
 obtain rfl : u72 = nv (numN 0) (.slice none 0 0) := p72
 obtain ⟨u73, x73, p73⟩ := finds_dep 68 73 hF (by kernel_rfl) (by kernel_rfl)
 obtain rfl : u73 = nv (callA ⟨#[97, 108, 108]⟩ []) (.slice none 0 0) := p73
 simp only [nv, noneN, numN, flagN, callA] at x67 x68 x69 x70 x71 x72 x73
 unfold Oper.wp
 simp [execOp, go_sem, x67, x68, x69, x70, x71, x72, x73]
 exact hK _ _ ((Below.refl _ _).alloc (Nat.le_refl _) _) (nods_new w hBw [noneN, numN 1063675494, numN 1065336439, numN 897988541, numN 0, numN 0, callA ⟨#[97, 108, 108]⟩ []] (by intro t ht; simp at ht; rcases ht with rfl | rfl | rfl | rfl | rfl | rfl | rfl <;> rfl) _)
set_option maxRecDepth 100000 in
theorem st70 : StR 70 := by
 intro bN bA B Q o ho a w hBw hN hA hF K hK
 rw [← Array.getElem?_toList] at ho
 conv at ho => lhs; whnf
 obtain rfl := (Option.some.inj ho).symm
 clear ho
 obtain ⟨u66, x66, p66⟩ := finds_dep 61 66 hF (by kernel_rfl) (by kernel_rfl)
 obtain ⟨b66, l66, rfl, q66⟩ : StrsAt B w u66 [⟨#[114, 97, 116, 101]⟩, ⟨#[98, 49]⟩, ⟨#[98, 50]⟩, ⟨#[101, 112, 115]⟩, ⟨#[101, 112, 115, 95, 114, 111, 111, 116]⟩, ⟨#[119, 101, 105, 103, 104, 116, 95, 100, 101, 99, 97, 121]⟩, ⟨#[109, 97, 115, 107]⟩] := p66
 obtain ⟨u74, x74, p74⟩ := finds_dep 69 74 hF (by kernel_rfl) (by kernel_rfl)
 obtain ⟨b74, l74, rfl, q74⟩ : NodsAt B w u74 [noneN, numN 1063675494, numN 1065336439, numN 897988541, numN 0, numN 0, callA ⟨#[97, 108, 108]⟩ []] := p74
 simp only [nv, noneN, numN, flagN, callA, List.length_cons, List.length_nil, Nat.reduceAdd] at x66 x74
 unfold Oper.wp
 simp [execOp, go_sem, x66, x74]
 exact hK _ _ (Below.refl _ _) ⟨_, _, rfl, ⟨_, l66, rfl, q66⟩, ⟨_, l74, rfl, q74⟩⟩
set_option maxRecDepth 100000 in
theorem st71 : StR 71 := by
 intro bN bA B Q o ho a w hBw hN hA hF K hK
 rw [← Array.getElem?_toList] at ho
 conv at ho => lhs; whnf
 obtain rfl := (Option.some.inj ho).symm
 clear ho
 unfold Oper.wp
 simp [execOp, go_sem]
 exact hK _ _ ((Below.refl _ _).alloc (Nat.le_refl _) _) (strs_new w hBw [⟨#[114, 97, 116, 101]⟩, ⟨#[119, 101, 105, 103, 104, 116, 95, 100, 101, 99, 97, 121]⟩, ⟨#[116, 114, 117, 115, 116, 95, 99, 111, 101, 102, 102, 105, 99, 105, 101, 110, 116]⟩, ⟨#[101, 112, 115]⟩, ⟨#[109, 111, 109, 101, 110, 116, 117, 109]⟩, ⟨#[110, 101, 115, 116, 101, 114, 111, 118]⟩] _)
set_option maxRecDepth 100000 in
theorem st72 : StR 72 := by
 intro bN bA B Q o ho a w hBw hN hA hF K hK
 rw [← Array.getElem?_toList] at ho
 conv at ho => lhs; whnf
 obtain rfl := (Option.some.inj ho).symm
 clear ho
 have x1 := hF.1 (1, .pointer (some ⟨bN, 0, none⟩)) (by simp [baseR])
 obtain ⟨⟨g0, g1, g2, g3, g4, g5, g6⟩, -⟩ := sevenA hN
 unfold Oper.wp
 simp [execOp, go_sem, x1, g0, g1, g2, g3, g4, g5, g6]
 exact hK _ _ (Below.refl _ _) rfl
set_option maxRecDepth 100000 in
theorem st73 : StR 73 := by
 intro bN bA B Q o ho a w hBw hN hA hF K hK
 rw [← Array.getElem?_toList] at ho
 conv at ho => lhs; whnf
 obtain rfl := (Option.some.inj ho).symm
 clear ho
 unfold Oper.wp
 simp [execOp, go_sem]
 refine (num_any _ _).mono ?_
 rintro e w1 ⟨rfl, hb⟩
 exact hK _ _ hb rfl
set_option maxRecDepth 100000 in
theorem st74 : StR 74 := by
 intro bN bA B Q o ho a w hBw hN hA hF K hK
 rw [← Array.getElem?_toList] at ho
 conv at ho => lhs; whnf
 obtain rfl := (Option.some.inj ho).symm
 clear ho
 unfold Oper.wp
 simp [execOp, go_sem]
 refine (num_any _ _).mono ?_
 rintro e w1 ⟨rfl, hb⟩
 exact hK _ _ hb rfl
set_option maxRecDepth 100000 in
theorem st75 : StR 75 := by
 intro bN bA B Q o ho a w hBw hN hA hF K hK
 rw [← Array.getElem?_toList] at ho
 conv at ho => lhs; whnf
 obtain rfl := (Option.some.inj ho).symm
 clear ho
 unfold Oper.wp
 simp [execOp, go_sem]
 refine (num_any _ _).mono ?_
 rintro e w1 ⟨rfl, hb⟩
 exact hK _ _ hb rfl
set_option maxRecDepth 100000 in
theorem st76 : StR 76 := by
 intro bN bA B Q o ho a w hBw hN hA hF K hK
 rw [← Array.getElem?_toList] at ho
 conv at ho => lhs; whnf
 obtain rfl := (Option.some.inj ho).symm
 clear ho
 unfold Oper.wp
 simp [execOp, go_sem]
 refine (num_any _ _).mono ?_
 rintro e w1 ⟨rfl, hb⟩
 exact hK _ _ hb rfl
set_option maxRecDepth 100000 in
theorem st77 : StR 77 := by
 intro bN bA B Q o ho a w hBw hN hA hF K hK
 rw [← Array.getElem?_toList] at ho
 conv at ho => lhs; whnf
 obtain rfl := (Option.some.inj ho).symm
 clear ho
 unfold Oper.wp
 simp [execOp, go_sem]
 refine (flag_any _ _).mono ?_
 rintro e w1 ⟨rfl, hb⟩
 exact hK _ _ hb rfl
set_option maxRecDepth 100000 in
theorem st78 : StR 78 := by
 intro bN bA B Q o ho a w hBw hN hA hF K hK
 rw [← Array.getElem?_toList] at ho
 conv at ho => lhs; whnf
 obtain rfl := (Option.some.inj ho).symm
 clear ho
 obtain ⟨u77, x77, p77⟩ := finds_dep 72 77 hF (by kernel_rfl) (by kernel_rfl)
 obtain rfl : u77 = nv (noneN) (.slice none 0 0) := p77
 obtain ⟨u78, x78, p78⟩ := finds_dep 73 78 hF (by kernel_rfl) (by kernel_rfl)
 obtain rfl : u78 = nv (numN 0) (.slice none 0 0) := p78
 obtain ⟨u79, x79, p79⟩ := finds_dep 74 79 hF (by kernel_rfl) (by kernel_rfl)
 obtain rfl : u79 = nv (numN 981668463) (.slice none 0 0) := p79
 obtain ⟨u80, x80, p80⟩ := finds_dep 75 80 hF (by kernel_rfl) (by kernel_rfl)
 obtain rfl : u80 = nv (numN 0) (.slice none 0 0) := p80
 obtain ⟨u81, x81, p81⟩ := finds_dep 76 81 hF (by kernel_rfl) (by kernel_rfl)
 obtain rfl : u81 = nv (numN 1063675494) (.slice none 0 0) := p81
 obtain ⟨u82, x82, p82⟩ := finds_dep 77 82 hF (by kernel_rfl) (by kernel_rfl)
 obtain rfl : u82 = nv (flagN ⟨#[102, 97, 108, 115, 101]⟩) (.slice none 0 0) := p82
 simp only [nv, noneN, numN, flagN, callA] at x77 x78 x79 x80 x81 x82
 unfold Oper.wp
 simp [execOp, go_sem, x77, x78, x79, x80, x81, x82]
 exact hK _ _ ((Below.refl _ _).alloc (Nat.le_refl _) _) (nods_new w hBw [noneN, numN 0, numN 981668463, numN 0, numN 1063675494, flagN ⟨#[102, 97, 108, 115, 101]⟩] (by intro t ht; simp at ht; rcases ht with rfl | rfl | rfl | rfl | rfl | rfl <;> rfl) _)
set_option maxRecDepth 100000 in
theorem st79 : StR 79 := by
 intro bN bA B Q o ho a w hBw hN hA hF K hK
 rw [← Array.getElem?_toList] at ho
 conv at ho => lhs; whnf
 obtain rfl := (Option.some.inj ho).symm
 clear ho
 obtain ⟨u76, x76, p76⟩ := finds_dep 71 76 hF (by kernel_rfl) (by kernel_rfl)
 obtain ⟨b76, l76, rfl, q76⟩ : StrsAt B w u76 [⟨#[114, 97, 116, 101]⟩, ⟨#[119, 101, 105, 103, 104, 116, 95, 100, 101, 99, 97, 121]⟩, ⟨#[116, 114, 117, 115, 116, 95, 99, 111, 101, 102, 102, 105, 99, 105, 101, 110, 116]⟩, ⟨#[101, 112, 115]⟩, ⟨#[109, 111, 109, 101, 110, 116, 117, 109]⟩, ⟨#[110, 101, 115, 116, 101, 114, 111, 118]⟩] := p76
 obtain ⟨u83, x83, p83⟩ := finds_dep 78 83 hF (by kernel_rfl) (by kernel_rfl)
 obtain ⟨b83, l83, rfl, q83⟩ : NodsAt B w u83 [noneN, numN 0, numN 981668463, numN 0, numN 1063675494, flagN ⟨#[102, 97, 108, 115, 101]⟩] := p83
 simp only [nv, noneN, numN, flagN, callA, List.length_cons, List.length_nil, Nat.reduceAdd] at x76 x83
 unfold Oper.wp
 simp [execOp, go_sem, x76, x83]
 exact hK _ _ (Below.refl _ _) ⟨_, _, rfl, ⟨_, l76, rfl, q76⟩, ⟨_, l83, rfl, q83⟩⟩
set_option maxRecDepth 100000 in
theorem st80 : StR 80 := by
 intro bN bA B Q o ho a w hBw hN hA hF K hK
 rw [← Array.getElem?_toList] at ho
 conv at ho => lhs; whnf
 obtain rfl := (Option.some.inj ho).symm
 clear ho
 unfold Oper.wp
 simp [execOp, go_sem]
 exact hK _ _ ((Below.refl _ _).alloc (Nat.le_refl _) _) (strs_new w hBw [⟨#[114, 97, 116, 101]⟩, ⟨#[98, 49]⟩, ⟨#[98, 50]⟩, ⟨#[119, 101, 105, 103, 104, 116, 95, 100, 101, 99, 97, 121]⟩, ⟨#[109, 97, 115, 107]⟩] _)
set_option maxRecDepth 100000 in
theorem st81 : StR 81 := by
 intro bN bA B Q o ho a w hBw hN hA hF K hK
 rw [← Array.getElem?_toList] at ho
 conv at ho => lhs; whnf
 obtain rfl := (Option.some.inj ho).symm
 clear ho
 have x1 := hF.1 (1, .pointer (some ⟨bN, 0, none⟩)) (by simp [baseR])
 obtain ⟨⟨g0, g1, g2, g3, g4, g5, g6⟩, -⟩ := sevenA hN
 unfold Oper.wp
 simp [execOp, go_sem, x1, g0, g1, g2, g3, g4, g5, g6]
 exact hK _ _ (Below.refl _ _) rfl
set_option maxRecDepth 100000 in
theorem st82 : StR 82 := by
 intro bN bA B Q o ho a w hBw hN hA hF K hK
 rw [← Array.getElem?_toList] at ho
 conv at ho => lhs; whnf
 obtain rfl := (Option.some.inj ho).symm
 clear ho
 unfold Oper.wp
 simp [execOp, go_sem]
 refine (num_any _ _).mono ?_
 rintro e w1 ⟨rfl, hb⟩
 exact hK _ _ hb rfl
set_option maxRecDepth 100000 in
theorem st83 : StR 83 := by
 intro bN bA B Q o ho a w hBw hN hA hF K hK
 rw [← Array.getElem?_toList] at ho
 conv at ho => lhs; whnf
 obtain rfl := (Option.some.inj ho).symm
 clear ho
 unfold Oper.wp
 simp [execOp, go_sem]
 refine (num_any _ _).mono ?_
 rintro e w1 ⟨rfl, hb⟩
 exact hK _ _ hb rfl
set_option maxRecDepth 100000 in
theorem st84 : StR 84 := by
 intro bN bA B Q o ho a w hBw hN hA hF K hK
 rw [← Array.getElem?_toList] at ho
 conv at ho => lhs; whnf
 obtain rfl := (Option.some.inj ho).symm
 clear ho
 unfold Oper.wp
 simp [execOp, go_sem]
 refine (num_any _ _).mono ?_
 rintro e w1 ⟨rfl, hb⟩
 exact hK _ _ hb rfl
set_option maxRecDepth 100000 in
theorem st85 : StR 85 := by
 intro bN bA B Q o ho a w hBw hN hA hF K hK
 rw [← Array.getElem?_toList] at ho
 conv at ho => lhs; whnf
 obtain rfl := (Option.some.inj ho).symm
 clear ho
 unfold Oper.wp
 simp [execOp, go_sem]
 refine (call0_any _ _).mono ?_
 rintro e w1 ⟨rfl, hb⟩
 exact hK _ _ hb rfl
set_option maxRecDepth 100000 in
theorem st86 : StR 86 := by
 intro bN bA B Q o ho a w hBw hN hA hF K hK
 rw [← Array.getElem?_toList] at ho
 conv at ho => lhs; whnf
 obtain rfl := (Option.some.inj ho).symm
 clear ho
 obtain ⟨u86, x86, p86⟩ := finds_dep 81 86 hF (by kernel_rfl) (by kernel_rfl)
 obtain rfl : u86 = nv (noneN) (.slice none 0 0) := p86
 obtain ⟨u87, x87, p87⟩ := finds_dep 82 87 hF (by kernel_rfl) (by kernel_rfl)
 obtain rfl : u87 = nv (numN 1063675494) (.slice none 0 0) := p87
 obtain ⟨u88, x88, p88⟩ := finds_dep 83 88 hF (by kernel_rfl) (by kernel_rfl)
 obtain rfl : u88 = nv (numN 1065185444) (.slice none 0 0) := p88
 obtain ⟨u89, x89, p89⟩ := finds_dep 84 89 hF (by kernel_rfl) (by kernel_rfl)
 obtain rfl : u89 = nv (numN 981668463) (.slice none 0 0) := p89
 obtain ⟨u90, x90, p90⟩ := finds_dep 85 90 hF (by kernel_rfl) (by kernel_rfl)
 obtain rfl : u90 = nv (callA ⟨#[97, 108, 108]⟩ []) (.slice none 0 0) := p90
 simp only [nv, noneN, numN, flagN, callA] at x86 x87 x88 x89 x90
 unfold Oper.wp
 simp [execOp, go_sem, x86, x87, x88, x89, x90]
 exact hK _ _ ((Below.refl _ _).alloc (Nat.le_refl _) _) (nods_new w hBw [noneN, numN 1063675494, numN 1065185444, numN 981668463, callA ⟨#[97, 108, 108]⟩ []] (by intro t ht; simp at ht; rcases ht with rfl | rfl | rfl | rfl | rfl <;> rfl) _)
set_option maxRecDepth 100000 in
theorem st87 : StR 87 := by
 intro bN bA B Q o ho a w hBw hN hA hF K hK
 rw [← Array.getElem?_toList] at ho
 conv at ho => lhs; whnf
 obtain rfl := (Option.some.inj ho).symm
 clear ho
 obtain ⟨u85, x85, p85⟩ := finds_dep 80 85 hF (by kernel_rfl) (by kernel_rfl)
 obtain ⟨b85, l85, rfl, q85⟩ : StrsAt B w u85 [⟨#[114, 97, 116, 101]⟩, ⟨#[98, 49]⟩, ⟨#[98, 50]⟩, ⟨#[119, 101, 105, 103, 104, 116, 95, 100, 101, 99, 97, 121]⟩, ⟨#[109, 97, 115, 107]⟩] := p85
 obtain ⟨u91, x91, p91⟩ := finds_dep 86 91 hF (by kernel_rfl) (by kernel_rfl)
 obtain ⟨b91, l91, rfl, q91⟩ : NodsAt B w u91 [noneN, numN 1063675494, numN 1065185444, numN 981668463, callA ⟨#[97, 108, 108]⟩ []] := p91
 simp only [nv, noneN, numN, flagN, callA, List.length_cons, List.length_nil, Nat.reduceAdd] at x85 x91
 unfold Oper.wp
 simp [execOp, go_sem, x85, x91]
 exact hK _ _ (Below.refl _ _) ⟨_, _, rfl, ⟨_, l85, rfl, q85⟩, ⟨_, l91, rfl, q91⟩⟩
set_option maxRecDepth 100000 in
theorem st88 : StR 88 := by
 intro bN bA B Q o ho a w hBw hN hA hF K hK
 rw [← Array.getElem?_toList] at ho
 conv at ho => lhs; whnf
 obtain rfl := (Option.some.inj ho).symm
 clear ho
 unfold Oper.wp
 simp [execOp, go_sem]
 exact hK _ _ ((Below.refl _ _).alloc (Nat.le_refl _) _) (strs_new w hBw [⟨#[114, 97, 116, 101]⟩, ⟨#[98, 49]⟩, ⟨#[98, 50]⟩, ⟨#[101, 112, 115]⟩, ⟨#[101, 112, 115, 95, 114, 111, 111, 116]⟩, ⟨#[119, 101, 105, 103, 104, 116, 95, 100, 101, 99, 97, 121]⟩] _)
set_option maxRecDepth 100000 in
theorem st89 : StR 89 := by
 intro bN bA B Q o ho a w hBw hN hA hF K hK
 rw [← Array.getElem?_toList] at ho
 conv at ho => lhs; whnf
 obtain rfl := (Option.some.inj ho).symm
 clear ho
 have x1 := hF.1 (1, .pointer (some ⟨bN, 0, none⟩)) (by simp [baseR])
 obtain ⟨⟨g0, g1, g2, g3, g4, g5, g6⟩, -⟩ := sevenA hN
 unfold Oper.wp
 simp [execOp, go_sem, x1, g0, g1, g2, g3, g4, g5, g6]
 exact hK _ _ (Below.refl _ _) rfl
set_option maxRecDepth 100000 in
theorem st90 : StR 90 := by
 intro bN bA B Q o ho a w hBw hN hA hF K hK
 rw [← Array.getElem?_toList] at ho
 conv at ho => lhs; whnf
 obtain rfl := (Option.some.inj ho).symm
 clear ho
 unfold Oper.wp
 simp [execOp, go_sem]
 refine (num_any _ _).mono ?_
 rintro e w1 ⟨rfl, hb⟩
 exact hK _ _ hb rfl
set_option maxRecDepth 100000 in
theorem st91 : StR 91 := by
 intro bN bA B Q o ho a w hBw hN hA hF K hK
 rw [← Array.getElem?_toList] at ho
 conv at ho => lhs; whnf
 obtain rfl := (Option.some.inj ho).symm
 clear ho
 unfold Oper.wp
 simp [execOp, go_sem]
 refine (num_any _ _).mono ?_
 rintro e w1 ⟨rfl, hb⟩
 exact hK _ _ hb rfl
set_option maxRecDepth 100000 in
theorem st92 : StR 92 := by
 intro bN bA B Q o ho a w hBw hN hA hF K hK
 rw [← Array.getElem?_toList] at ho
 conv at ho => lhs; whnf
 obtain rfl := (Option.some.inj ho).symm
 clear ho
 unfold Oper.wp
 simp [execOp, go_sem]
 refine (num_any _ _).mono ?_
 rintro e w1 ⟨rfl, hb⟩
 exact hK _ _ hb rfl
set_option maxRecDepth 100000 in
theorem st93 : StR 93 := by
 intro bN bA B Q o ho a w hBw hN hA hF K hK
 rw [← Array.getElem?_toList] at ho
 conv at ho => lhs; whnf
 obtain rfl := (Option.some.inj ho).symm
 clear ho
 unfold Oper.wp
 simp [execOp, go_sem]
 refine (num_any _ _).mono ?_
 rintro e w1 ⟨rfl, hb⟩
 exact hK _ _ hb rfl
set_option maxRecDepth 100000 in
theorem st94 : StR 94 := by
 intro bN bA B Q o ho a w hBw hN hA hF K hK
 rw [← Array.getElem?_toList] at ho
 conv at ho => lhs; whnf
 obtain rfl := (Option.some.inj ho).symm
 clear ho
 unfold Oper.wp
 simp [execOp, go_sem]
 refine (num_any _ _).mono ?_
 rintro e w1 ⟨rfl, hb⟩
 exact hK _ _ hb rfl
set_option maxRecDepth 100000 in
theorem st95 : StR 95 := by
 intro bN bA B Q o ho a w hBw hN hA hF K hK
 rw [← Array.getElem?_toList] at ho
 conv at ho => lhs; whnf
 obtain rfl := (Option.some.inj ho).symm
 clear ho
 obtain ⟨u94, x94, p94⟩ := finds_dep 89 94 hF (by kernel_rfl) (by kernel_rfl)
 obtain rfl : u94 = nv (noneN) (.slice none 0 0) := p94
 obtain ⟨u95, x95, p95⟩ := finds_dep 90 95 hF (by kernel_rfl) (by kernel_rfl)
 obtain rfl : u95 = nv (numN 1063675494) (.slice none 0 0) := p95
 obtain ⟨u96, x96, p96⟩ := finds_dep 91 96 hF (by kernel_rfl) (by kernel_rfl)
 obtain rfl : u96 = nv (numN 1048576000) (.slice none 0 0) := p96
 obtain ⟨u97, x97, p97⟩ := finds_dep 92 97 hF (by kernel_rfl) (by kernel_rfl)
 obtain rfl : u97 = nv (numN 897988541) (.slice none 0 0) := p97
 obtain ⟨u98, x98, p98⟩ := finds_dep 93 98 hF (by kernel_rfl) (by kernel_rfl)
 obtain rfl : u98 = nv (numN 0) (.slice none 0 0) := p98
 obtain ⟨u99, x99, p99⟩ := finds_dep 94 99 hF (by kernel_rfl) (by kernel_rfl)
 obtain rfl : u99 = nv (numN 0) (.slice none 0 0) := p99
 simp only [nv, noneN, numN, flagN, callA] at x94 x95 x96 x97 x98 x99
 unfold Oper.wp
 simp [execOp, go_sem, x94, x95, x96, x97, x98, x99]
 exact hK _ _ ((Below.refl _ _).alloc (Nat.le_refl _) _) (nods_new w hBw [noneN, numN 1063675494, numN 1048576000, numN 897988541, numN 0, numN 0] (by intro t ht; simp at ht; rcases ht with rfl | rfl | rfl | rfl | rfl | rfl <;> rfl) _)
set_option maxRecDepth 100000 in
theorem st96 : StR 96 := by
 intro bN bA B Q o ho a w hBw hN hA hF K hK
 rw [← Array.getElem?_toList] at ho
 conv at ho => lhs; whnf
 obtain rfl := (Option.some.inj ho).symm
 clear ho
 obtain ⟨u93, x93, p93⟩ := finds_dep 88 93 hF (by kernel_rfl) (by kernel_rfl)
 obtain ⟨b93, l93, rfl, q93⟩ : StrsAt B w u93 [⟨#[114, 97, 116, 101]⟩, ⟨#[98, 49]⟩, ⟨#[98, 50]⟩, ⟨#[101, 112, 115]⟩, ⟨#[101, 112, 115, 95, 114, 111, 111, 116]⟩, ⟨#[119, 101, 105, 103, 104, 116, 95, 100, 101, 99, 97, 121]⟩] := p93
 obtain ⟨u100, x100, p100⟩ := finds_dep 95 100 hF (by kernel_rfl) (by kernel_rfl)
 obtain ⟨b100, l100, rfl, q100⟩ : NodsAt B w u100 [noneN, numN 1063675494, numN 1048576000, numN 897988541, numN 0, numN 0] := p100
 simp only [nv, noneN, numN, flagN, callA, List.length_cons, List.length_nil, Nat.reduceAdd] at x93 x100
 unfold Oper.wp
 simp [execOp, go_sem, x93, x100]
 exact hK _ _ (Below.refl _ _) ⟨_, _, rfl, ⟨_, l93, rfl, q93⟩, ⟨_, l100, rfl, q100⟩⟩
set_option maxRecDepth 100000 in
theorem st97 : StR 97 := by
 intro bN bA B Q o ho a w hBw hN hA hF K hK
 rw [← Array.getElem?_toList] at ho
 conv at ho => lhs; whnf
 obtain rfl := (Option.some.inj ho).symm
 clear ho
 unfold Oper.wp
 simp [execOp, go_sem]
 exact hK _ _ ((Below.refl _ _).alloc (Nat.le_refl _) _) (strs_new w hBw [⟨#[114, 97, 116, 101]⟩, ⟨#[97, 108, 112, 104, 97]⟩, ⟨#[98, 101, 116, 97]⟩] _)
set_option maxRecDepth 100000 in
theorem st98 : StR 98 := by
 intro bN bA B Q o ho a w hBw hN hA hF K hK
 rw [← Array.getElem?_toList] at ho
 conv at ho => lhs; whnf
 obtain rfl := (Option.some.inj ho).symm
 clear ho
 have x1 := hF.1 (1, .pointer (some ⟨bN, 0, none⟩)) (by simp [baseR])
 obtain ⟨⟨g0, g1, g2, g3, g4, g5, g6⟩, -⟩ := sevenA hN
 unfold Oper.wp
 simp [execOp, go_sem, x1, g0, g1, g2, g3, g4, g5, g6]
 exact hK _ _ (Below.refl _ _) rfl
set_option maxRecDepth 100000 in
theorem st99 : StR 99 := by
 intro bN bA B Q o ho a w hBw hN hA hF K hK
 rw [← Array.getElem?_toList] at ho
 conv at ho => lhs; whnf
 obtain rfl := (Option.some.inj ho).symm
 clear ho
 unfold Oper.wp
 simp [execOp, go_sem]
 refine (num_any _ _).mono ?_
 rintro e w1 ⟨rfl, hb⟩
 exact hK _ _ hb rfl
set_option maxRecDepth 100000 in
theorem st100 : StR 100 := by
 intro bN bA B Q o ho a w hBw hN hA hF K hK
 rw [← Array.getElem?_toList] at ho
 conv at ho => lhs; whnf
 obtain rfl := (Option.some.inj ho).symm
 clear ho
 unfold Oper.wp
 simp [execOp, go_sem]
 refine (num_any _ _).mono ?_
 rintro e w1 ⟨rfl, hb⟩
 exact hK _ _ hb rfl
set_option maxRecDepth 100000 in
theorem st101 : StR 101 := by
 intro bN bA B Q o ho a w hBw hN hA hF K hK
 rw [← Array.getElem?_toList] at ho
 conv at ho => lhs; whnf
 obtain rfl := (Option.some.inj ho).symm
 clear ho
 obtain ⟨u103, x103, p103⟩ := finds_dep 98 103 hF (by kernel_rfl) (by kernel_rfl)
 obtain rfl : u103 = nv (noneN) (.slice none 0 0) := p103
 obtain ⟨u104, x104, p104⟩ := finds_dep 99 104 hF (by kernel_rfl) (by kernel_rfl)
 obtain rfl : u104 = nv (numN 1065353216) (.slice none 0 0) := p104
 obtain ⟨u105, x105, p105⟩ := finds_dep 100 105 hF (by kernel_rfl) (by kernel_rfl)
 obtain rfl : u105 = nv (numN 1065353216) (.slice none 0 0) := p105
 simp only [nv, noneN, numN, flagN, callA] at x103 x104 x105
 unfold Oper.wp
 simp [execOp, go_sem, x103, x104, x105]
 exact hK _ _ ((Below.refl _ _).alloc (Nat.le_refl _) _) (nods_new w hBw [noneN, numN 1065353216, numN 1065353216] (by intro t ht; simp at ht; rcases ht with rfl | rfl | rfl <;> rfl) _)
set_option maxRecDepth 100000 in
theorem st102 : StR 102 := by
 intro bN bA B Q o ho a w hBw hN hA hF K hK
 rw [← Array.getElem?_toList] at ho
 conv at ho => lhs; whnf
 obtain rfl := (Option.some.inj ho).symm
 clear ho
 obtain ⟨u102, x102, p102⟩ := finds_dep 97 102 hF (by kernel_rfl) (by kernel_rfl)
 obtain ⟨b102, l102, rfl, q102⟩ : StrsAt B w u102 [⟨#[114, 97, 116, 101]⟩, ⟨#[97, 108, 112, 104, 97]⟩, ⟨#[98, 101, 116, 97]⟩] := p102
 obtain ⟨u106, x106, p106⟩ := finds_dep 101 106 hF (by kernel_rfl) (by kernel_rfl)
 obtain ⟨b106, l106, rfl, q106⟩ : NodsAt B w u106 [noneN, numN 1065353216, numN 1065353216] := p106
 simp only [nv, noneN, numN, flagN, callA, List.length_cons, List.length_nil, Nat.reduceAdd] at x102 x106
 unfold Oper.wp
 simp [execOp, go_sem, x102, x106]
 exact hK _ _ (Below.refl _ _) ⟨_, _, rfl, ⟨_, l102, rfl, q102⟩, ⟨_, l106, rfl, q106⟩⟩
set_option maxRecDepth 100000 in
theorem st103 : StR 103 := by
 intro bN bA B Q o ho a w hBw hN hA hF K hK
 rw [← Array.getElem?_toList] at ho
 conv at ho => lhs; whnf
 obtain rfl := (Option.some.inj ho).symm
 clear ho
 unfold Oper.wp
 simp [execOp, go_sem]
 exact hK _ _ ((Below.refl _ _).alloc (Nat.le_refl _) _) (strs_new w hBw [⟨#[114, 97, 116, 101]⟩, ⟨#[100, 101, 99, 97, 121]⟩, ⟨#[101, 112, 115]⟩, ⟨#[105, 110, 105, 116, 105, 97, 108]⟩, ⟨#[109, 111, 109, 101, 110, 116, 117, 109]⟩] _)
set_option maxRecDepth 100000 in
theorem st104 : StR 104 := by
 intro bN bA B Q o ho a w hBw hN hA hF K hK
 rw [← Array.getElem?_toList] at ho
 conv at ho => lhs; whnf
 obtain rfl := (Option.some.inj ho).symm
 clear ho
 have x1 := hF.1 (1, .pointer (some ⟨bN, 0, none⟩)) (by simp [baseR])
 obtain ⟨⟨g0, g1, g2, g3, g4, g5, g6⟩, -⟩ := sevenA hN
 unfold Oper.wp
 simp [execOp, go_sem, x1, g0, g1, g2, g3, g4, g5, g6]
 exact hK _ _ (Below.refl _ _) rfl
set_option maxRecDepth 100000 in
theorem st105 : StR 105 := by
 intro bN bA B Q o ho a w hBw hN hA hF K hK
 rw [← Array.getElem?_toList] at ho
 conv at ho => lhs; whnf
 obtain rfl := (Option.some.inj ho).symm
 clear ho
 unfold Oper.wp
 simp [execOp, go_sem]
 refine (num_any _ _).mono ?_
 rintro e w1 ⟨rfl, hb⟩
 exact hK _ _ hb rfl
set_option maxRecDepth 100000 in
theorem st106 : StR 106 := by
 intro bN bA B Q o ho a w hBw hN hA hF K hK
 rw [← Array.getElem?_toList] at ho
 conv at ho => lhs; whnf
 obtain rfl := (Option.some.inj ho).symm
 clear ho
 unfold Oper.wp
 simp [execOp, go_sem]
 refine (num_any _ _).mono ?_
 rintro e w1 ⟨rfl, hb⟩
 exact hK _ _ hb rfl
set_option maxRecDepth 100000 in
theorem st107 : StR 107 := by
 intro bN bA B Q o ho a w hBw hN hA hF K hK
 rw [← Array.getElem?_toList] at ho
 conv at ho => lhs; whnf
 obtain rfl := (Option.some.inj ho).symm
 clear ho
 unfold Oper.wp
 simp [execOp, go_sem]
 refine (num_any _ _).mono ?_
 rintro e w1 ⟨rfl, hb⟩
 exact hK _ _ hb rfl
set_option maxRecDepth 100000 in
theorem st108 : StR 108 := by
 intro bN bA B Q o ho a w hBw hN hA hF K hK
 rw [← Array.getElem?_toList] at ho
 conv at ho => lhs; whnf
 obtain rfl := (Option.some.inj ho).symm
 clear ho
 unfold Oper.wp
 simp [execOp, go_sem]
 refine (num_any _ _).mono ?_
 rintro e w1 ⟨rfl, hb⟩
 exact hK _ _ hb rfl
set_option maxRecDepth 100000 in
theorem st109 : StR 109 := by
 intro bN bA B Q o ho a w hBw hN hA hF K hK
 rw [← Array.getElem?_toList] at ho
 conv at ho => lhs; whnf
 obtain rfl := (Option.some.inj ho).symm
 clear ho
 obtain ⟨u109, x109, p109⟩ := finds_dep 104 109 hF (by kernel_rfl) (by kernel_rfl)
 obtain rfl : u109 = nv (noneN) (.slice none 0 0) := p109
 obtain ⟨u110, x110, p110⟩ := finds_dep 105 110 hF (by kernel_rfl) (by kernel_rfl)
 obtain rfl : u110 = nv (numN 1063675494) (.slice none 0 0) := p110
 obtain ⟨u111, x111, p111⟩ := finds_dep 106 111 hF (by kernel_rfl) (by kernel_rfl)
 obtain rfl : u111 = nv (numN 841731191) (.slice none 0 0) := p111
 obtain ⟨u112, x112, p112⟩ := finds_dep 107 112 hF (by kernel_rfl) (by kernel_rfl)
 obtain rfl : u112 = nv (numN 0) (.slice none 0 0) := p112
 obtain ⟨u113, x113, p113⟩ := finds_dep 108 113 hF (by kernel_rfl) (by kernel_rfl)
 obtain rfl : u113 = nv (numN 0) (.slice none 0 0) := p113
 simp only [nv, noneN, numN, flagN, callA] at x109 x110 x111 x112 x113
 unfold Oper.wp
 simp [execOp, go_sem, x109, x110, x111, x112, x113]
 exact hK _ _ ((Below.refl _ _).alloc (Nat.le_refl _) _) (nods_new w hBw [noneN, numN 1063675494, numN 841731191, numN 0, numN 0] (by intro t ht; simp at ht; rcases ht with rfl | rfl | rfl | rfl | rfl <;> rfl) _)
set_option maxRecDepth 100000 in
theorem st110 : StR 110 := by
 intro bN bA B Q o ho a w hBw hN hA hF K hK
 rw [← Array.getElem?_toList] at ho
 conv at ho => lhs; whnf
 obtain rfl := (Option.some.inj ho).symm
 clear ho
 obtain ⟨u108, x108, p108⟩ := finds_dep 103 108 hF (by kernel_rfl) (by kernel_rfl)
 obtain ⟨b108, l108, rfl, q108⟩ : StrsAt B w u108 [⟨#[114, 97, 116, 101]⟩, ⟨#[100, 101, 99, 97, 121]⟩, ⟨#[101, 112, 115]⟩, ⟨#[105, 110, 105, 116, 105, 97, 108]⟩, ⟨#[109, 111, 109, 101, 110, 116, 117, 109]⟩] := p108
 obtain ⟨u114, x114, p114⟩ := finds_dep 109 114 hF (by kernel_rfl) (by kernel_rfl)
 obtain ⟨b114, l114, rfl, q114⟩ : NodsAt B w u114 [noneN, numN 1063675494, numN 841731191, numN 0, numN 0] := p114
 simp only [nv, noneN, numN, flagN, callA, List.length_cons, List.length_nil, Nat.reduceAdd] at x108 x114
 unfold Oper.wp
 simp [execOp, go_sem, x108, x114]
 exact hK _ _ (Below.refl _ _) ⟨_, _, rfl, ⟨_, l108, rfl, q108⟩, ⟨_, l114, rfl, q114⟩⟩
set_option maxRecDepth 100000 in
theorem st111 : StR 111 := by
 intro bN bA B Q o ho a w hBw hN hA hF K hK
 rw [← Array.getElem?_toList] at ho
 conv at ho => lhs; whnf
 obtain rfl := (Option.some.inj ho).symm
 clear ho
 unfold Oper.wp
 simp [execOp, go_sem]
 exact hK _ _ ((Below.refl _ _).alloc (Nat.le_refl _) _) (strs_new w hBw [⟨#[114, 97, 116, 101]⟩] _)
set_option maxRecDepth 100000 in
theorem st112 : StR 112 := by
 intro bN bA B Q o ho a w hBw hN hA hF K hK
 rw [← Array.getElem?_toList] at ho
 conv at ho => lhs; whnf
 obtain rfl := (Option.some.inj ho).symm
 clear ho
 have x1 := hF.1 (1, .pointer (some ⟨bN, 0, none⟩)) (by simp [baseR])
 obtain ⟨⟨g0, g1, g2, g3, g4, g5, g6⟩, -⟩ := sevenA hN
 unfold Oper.wp
 simp [execOp, go_sem, x1, g0, g1, g2, g3, g4, g5, g6]
 exact hK _ _ (Below.refl _ _) rfl
set_option maxRecDepth 100000 in
theorem st113 : StR 113 := by
 intro bN bA B Q o ho a w hBw hN hA hF K hK
 rw [← Array.getElem?_toList] at ho
 conv at ho => lhs; whnf
 obtain rfl := (Option.some.inj ho).symm
 clear ho
 obtain ⟨u117, x117, p117⟩ := finds_dep 112 117 hF (by kernel_rfl) (by kernel_rfl)
 obtain rfl : u117 = nv (noneN) (.slice none 0 0) := p117
 simp only [nv, noneN, numN, flagN, callA] at x117
 unfold Oper.wp
 simp [execOp, go_sem, x117]
 exact hK _ _ ((Below.refl _ _).alloc (Nat.le_refl _) _) (nods_new w hBw [noneN] (by intro t ht; simp at ht; rcases ht with rfl <;> rfl) _)
set_option maxRecDepth 100000 in
theorem st114 : StR 114 := by
 intro bN bA B Q o ho a w hBw hN hA hF K hK
 rw [← Array.getElem?_toList] at ho
 conv at ho => lhs; whnf
 obtain rfl := (Option.some.inj ho).symm
 clear ho
 obtain ⟨u116, x116, p116⟩ := finds_dep 111 116 hF (by kernel_rfl) (by kernel_rfl)
 obtain ⟨b116, l116, rfl, q116⟩ : StrsAt B w u116 [⟨#[114, 97, 116, 101]⟩] := p116
 obtain ⟨u118, x118, p118⟩ := finds_dep 113 118 hF (by kernel_rfl) (by kernel_rfl)
 obtain ⟨b118, l118, rfl, q118⟩ : NodsAt B w u118 [noneN] := p118
 simp only [nv, noneN, numN, flagN, callA, List.length_cons, List.length_nil, Nat.reduceAdd] at x116 x118
 unfold Oper.wp
 simp [execOp, go_sem, x116, x118]
 exact hK _ _ (Below.refl _ _) ⟨_, _, rfl, ⟨_, l116, rfl, q116⟩, ⟨_, l118, rfl, q118⟩⟩
set_option maxRecDepth 100000 in
theorem st115 : StR 115 := by
 intro bN bA B Q o ho a w hBw hN hA hF K hK
 rw [← Array.getElem?_toList] at ho
 conv at ho => lhs; whnf
 obtain rfl := (Option.some.inj ho).symm
 clear ho
 unfold Oper.wp
 simp [execOp, go_sem]
 exact hK _ _ ((Below.refl _ _).alloc (Nat.le_refl _) _) (strs_new w hBw [⟨#[114, 97, 116, 101]⟩, ⟨#[109, 111, 109, 101, 110, 116, 117, 109]⟩, ⟨#[110, 101, 115, 116, 101, 114, 111, 118]⟩] _)
set_option maxRecDepth 100000 in
theorem st116 : StR 116 := by
 intro bN bA B Q o ho a w hBw hN hA hF K hK
 rw [← Array.getElem?_toList] at ho
 conv at ho => lhs; whnf
 obtain rfl := (Option.some.inj ho).symm
 clear ho
 have x1 := hF.1 (1, .pointer (some ⟨bN, 0, none⟩)) (by simp [baseR])
 obtain ⟨⟨g0, g1, g2, g3, g4, g5, g6⟩, -⟩ := sevenA hN
 unfold Oper.wp
 simp [execOp, go_sem, x1, g0, g1, g2, g3, g4, g5, g6]
 exact hK _ _ (Below.refl _ _) rfl
set_option maxRecDepth 100000 in
theorem st117 : StR 117 := by
 intro bN bA B Q o ho a w hBw hN hA hF K hK
 rw [← Array.getElem?_toList] at ho
 conv at ho => lhs; whnf
 obtain rfl := (Option.some.inj ho).symm
 clear ho
 unfold Oper.wp
 simp [execOp, go_sem]
 refine (num_any _ _).mono ?_
 rintro e w1 ⟨rfl, hb⟩
 exact hK _ _ hb rfl
set_option maxRecDepth 100000 in
theorem st118 : StR 118 := by
 intro bN bA B Q o ho a w hBw hN hA hF K hK
 rw [← Array.getElem?_toList] at ho
 conv at ho => lhs; whnf
 obtain rfl := (Option.some.inj ho).symm
 clear ho
 unfold Oper.wp
 simp [execOp, go_sem]
 refine (flag_any _ _).mono ?_
 rintro e w1 ⟨rfl, hb⟩
 exact hK _ _ hb rfl
set_option maxRecDepth 100000 in
theorem st119 : StR 119 := by
 intro bN bA B Q o ho a w hBw hN hA hF K hK
 rw [← Array.getElem?_toList] at ho
 conv at ho => lhs; whnf
 obtain rfl := (Option.some.inj ho).symm
 clear ho
 obtain ⟨u121, x121, p121⟩ := finds_dep 116 121 hF (by kernel_rfl) (by kernel_rfl)
 obtain rfl : u121 = nv (noneN) (.slice none 0 0) := p121
 obtain ⟨u122, x122, p122⟩ := finds_dep 117 122 hF (by kernel_rfl) (by kernel_rfl)
 obtain rfl : u122 = nv (numN 0) (.slice none 0 0) := p122
 obtain ⟨u123, x123, p123⟩ := finds_dep 118 123 hF (by kernel_rfl) (by kernel_rfl)
 obtain rfl : u123 = nv (flagN ⟨#[102, 97, 108, 115, 101]⟩) (.slice none 0 0) := p123
 simp only [nv, noneN, numN, flagN, callA] at x121 x122 x123
 unfold Oper.wp
 simp [execOp, go_sem, x121, x122, x123]
 exact hK _ _ ((Below.refl _ _).alloc (Nat.le_refl _) _) (nods_new w hBw [noneN, numN 0, flagN ⟨#[102, 97, 108, 115, 101]⟩] (by intro t ht; simp at ht; rcases ht with rfl | rfl | rfl <;> rfl) _)
set_option maxRecDepth 100000 in
theorem st120 : StR 120 := by
 intro bN bA B Q o ho a w hBw hN hA hF K hK
 rw [← Array.getElem?_toList] at ho
 conv at ho => lhs; whnf
 obtain rfl := (Option.some.inj ho).symm
 clear ho
 obtain ⟨u120, x120, p120⟩ := finds_dep 115 120 hF (by kernel_rfl) (by kernel_rfl)
 obtain ⟨b120, l120, rfl, q120⟩ : StrsAt B w u120 [⟨#[114, 97, 116, 101]⟩, ⟨#[109, 111, 109, 101, 110, 116, 117, 109]⟩, ⟨#[110, 101, 115, 116, 101, 114, 111, 118]⟩] := p120
 obtain ⟨u124, x124, p124⟩ := finds_dep 119 124 hF (by kernel_rfl) (by kernel_rfl)
 obtain ⟨b124, l124, rfl, q124⟩ : NodsAt B w u124 [noneN, numN 0, flagN ⟨#[102, 97, 108, 115, 101]⟩] := p124
 simp only [nv, noneN, numN, flagN, callA, List.length_cons, List.length_nil, Nat.reduceAdd] at x120 x124
 unfold Oper.wp
 simp [execOp, go_sem, x120, x124]
 exact hK _ _ (Below.refl _ _) ⟨_, _, rfl, ⟨_, l120, rfl, q120⟩, ⟨_, l124, rfl, q124⟩⟩
set_option maxRecDepth 100000 in
theorem st121 : StR 121 := by
 intro bN bA B Q o ho a w hBw hN hA hF K hK
 rw [← Array.getElem?_toList] at ho
 conv at ho => lhs; whnf
 obtain rfl := (Option.some.inj ho).symm
 clear ho
 unfold Oper.wp
 simp [execOp, go_sem]
 exact hK _ _ ((Below.refl _ _).alloc (Nat.le_refl _) _) (strs_new w hBw [⟨#[114, 97, 116, 101]⟩, ⟨#[98, 49]⟩, ⟨#[98, 50]⟩, ⟨#[101, 112, 115]⟩, ⟨#[105, 110, 105, 116, 105, 97, 108]⟩] _)
set_option maxRecDepth 100000 in
theorem st122 : StR 122 := by
 intro bN bA B Q o ho a w hBw hN hA hF K hK
 rw [← Array.getElem?_toList] at ho
 conv at ho => lhs; whnf
 obtain rfl := (Option.some.inj ho).symm
 clear ho
 have x1 := hF.1 (1, .pointer (some ⟨bN, 0, none⟩)) (by simp [baseR])
 obtain ⟨⟨g0, g1, g2, g3, g4, g5, g6⟩, -⟩ := sevenA hN
 unfold Oper.wp
 simp [execOp, go_sem, x1, g0, g1, g2, g3, g4, g5, g6]
 exact hK _ _ (Below.refl _ _) rfl
set_option maxRecDepth 100000 in
theorem st123 : StR 123 := by
 intro bN bA B Q o ho a w hBw hN hA hF K hK
 rw [← Array.getElem?_toList] at ho
 conv at ho => lhs; whnf
 obtain rfl := (Option.some.inj ho).symm
 clear ho
 unfold Oper.wp
 simp [execOp, go_sem]
 refine (num_any _ _).mono ?_
 rintro e w1 ⟨rfl, hb⟩
 exact hK _ _ hb rfl
set_option maxRecDepth 100000 in
theorem st124 : StR 124 := by
 intro bN bA B Q o ho a w hBw hN hA hF K hK
 rw [← Array.getElem?_toList] at ho
 conv at ho => lhs; whnf
 obtain rfl := (Option.some.inj ho).symm
 clear ho
 unfold Oper.wp
 simp [execOp, go_sem]
 refine (num_any _ _).mono ?_
 rintro e w1 ⟨rfl, hb⟩
 exact hK _ _ hb rfl
set_option maxRecDepth 100000 in
theorem st125 : StR 125 := by
 intro bN bA B Q o ho a w hBw hN hA hF K hK
 rw [← Array.getElem?_toList] at ho
 conv at ho => lhs; whnf
 obtain rfl := (Option.some.inj ho).symm
 clear ho
 unfold Oper.wp
 simp [execOp, go_sem]
 refine (num_any _ _).mono ?_
 rintro e w1 ⟨rfl, hb⟩
 exact hK _ _ hb rfl
set_option maxRecDepth 100000 in
theorem st126 : StR 126 := by
 intro bN bA B Q o ho a w hBw hN hA hF K hK
 rw [← Array.getElem?_toList] at ho
 conv at ho => lhs; whnf
 obtain rfl := (Option.some.inj ho).symm
 clear ho
 unfold Oper.wp
 simp [execOp, go_sem]
 refine (num_any _ _).mono ?_
 rintro e w1 ⟨rfl, hb⟩
 exact hK _ _ hb rfl
set_option maxRecDepth 100000 in
theorem st127 : StR 127 := by
 intro bN bA B Q o ho a w hBw hN hA hF K hK
 rw [← Array.getElem?_toList] at ho
 conv at ho => lhs; whnf
 obtain rfl := (Option.some.inj ho).symm
 clear ho
 obtain ⟨u127, x127, p127⟩ := finds_dep 122 127 hF (by kernel_rfl) (by kernel_rfl)
 obtain rfl : u127 = nv (noneN) (.slice none 0 0) := p127
 obtain ⟨u128, x128, p128⟩ := finds_dep 123 128 hF (by kernel_rfl) (by kernel_rfl)
 obtain rfl : u128 = nv (numN 1063675494) (.slice none 0 0) := p128
 obtain ⟨u129, x129, p129⟩ := finds_dep 124 129 hF (by kernel_rfl) (by kernel_rfl)
 obtain rfl : u129 = nv (numN 1065336439) (.slice none 0 0) := p129
 obtain ⟨u130, x130, p130⟩ := finds_dep 125 130 hF (by kernel_rfl) (by kernel_rfl)
 obtain rfl : u130 = nv (numN 981668463) (.slice none 0 0) := p130
 obtain ⟨u131, x131, p131⟩ := finds_dep 126 131 hF (by kernel_rfl) (by kernel_rfl)
 obtain rfl : u131 = nv (numN 897988541) (.slice none 0 0) := p131
 simp only [nv, noneN, numN, flagN, callA] at x127 x128 x129 x130 x131
 unfold Oper.wp
 simp [execOp, go_sem, x127, x128, x129, x130, x131]
 exact hK _ _ ((Below.refl _ _).alloc (Nat.le_refl _) _) (nods_new w hBw [noneN, numN 1063675494, numN 1065336439, numN 981668463, numN 897988541] (by intro t ht; simp at ht; rcases ht with rfl | rfl | rfl | rfl | rfl <;> rfl) _)
set_option maxRecDepth 100000 in
theorem st128 : StR 128 := by
 intro bN bA B Q o ho a w hBw hN hA hF K hK
 rw [← Array.getElem?_toList] at ho
 conv at ho => lhs; whnf
 obtain rfl := (Option.some.inj ho).symm
 clear ho
 obtain ⟨u126, x126, p126⟩ := finds_dep 121 126 hF (by kernel_rfl) (by kernel_rfl)
 obtain ⟨b126, l126, rfl, q126⟩ : StrsAt B w u126 [⟨#[114, 97, 116, 101]⟩, ⟨#[98, 49]⟩, ⟨#[98, 50]⟩, ⟨#[101, 112, 115]⟩, ⟨#[105, 110, 105, 116, 105, 97, 108]⟩] := p126
 obtain ⟨u132, x132, p132⟩ := finds_dep 127 132 hF (by kernel_rfl) (by kernel_rfl)
 obtain ⟨b132, l132, rfl, q132⟩ : NodsAt B w u132 [noneN, numN 1063675494, numN 1065336439, numN 981668463, numN 897988541] := p132
 simp only [nv, noneN, numN, flagN, callA, List.length_cons, List.length_nil, Nat.reduceAdd] at x126 x132
 unfold Oper.wp
 simp [execOp, go_sem, x126, x132]
 exact hK _ _ (Below.refl _ _) ⟨_, _, rfl, ⟨_, l126, rfl, q126⟩, ⟨_, l132, rfl, q132⟩⟩
set_option maxRecDepth 100000 in
theorem st129 : StR 129 := by
 intro bN bA B Q o ho a w hBw hN hA hF K hK
 rw [← Array.getElem?_toList] at ho
 conv at ho => lhs; whnf
 obtain rfl := (Option.some.inj ho).symm
 clear ho
 obtain ⟨u12, x12, p12⟩ := finds_dep 7 12 hF (by kernel_rfl) (by kernel_rfl)
 obtain ⟨s12, n12, rfl, ⟨b12, l12, rfl, q12⟩, ⟨c12, m12, rfl, r12⟩⟩ : RowV B w u12 row0 := p12
 obtain ⟨u18, x18, p18⟩ := finds_dep 13 18 hF (by kernel_rfl) (by kernel_rfl)
 obtain ⟨s18, n18, rfl, ⟨b18, l18, rfl, q18⟩, ⟨c18, m18, rfl, r18⟩⟩ : RowV B w u18 row1 := p18
 obtain ⟨u24, x24, p24⟩ := finds_dep 19 24 hF (by kernel_rfl) (by kernel_rfl)
 obtain ⟨s24, n24, rfl, ⟨b24, l24, rfl, q24⟩, ⟨c24, m24, rfl, r24⟩⟩ : RowV B w u24 row2 := p24
 obtain ⟨u32, x32, p32⟩ := finds_dep 27 32 hF (by kernel_rfl) (by kernel_rfl)
 obtain ⟨s32, n32, rfl, ⟨b32, l32, rfl, q32⟩, ⟨c32, m32, rfl, r32⟩⟩ : RowV B w u32 row3 := p32
 obtain ⟨u39, x39, p39⟩ := finds_dep 34 39 hF (by kernel_rfl) (by kernel_rfl)
 obtain ⟨s39, n39, rfl, ⟨b39, l39, rfl, q39⟩, ⟨c39, m39, rfl, r39⟩⟩ : RowV B w u39 row4 := p39
 obtain ⟨u49, x49, p49⟩ := finds_dep 44 49 hF (by kernel_rfl) (by kernel_rfl)
 obtain ⟨s49, n49, rfl, ⟨b49, l49, rfl, q49⟩, ⟨c49, m49, rfl, r49⟩⟩ : RowV B w u49 row5 := p49
 obtain ⟨u57, x57, p57⟩ := finds_dep 52 57 hF (by kernel_rfl) (by kernel_rfl)
 obtain ⟨s57, n57, rfl, ⟨b57, l57, rfl, q57⟩, ⟨c57, m57, rfl, r57⟩⟩ : RowV B w u57 row6 := p57
 obtain ⟨u65, x65, p65⟩ := finds_dep 60 65 hF (by kernel_rfl) (by kernel_rfl)
 obtain ⟨s65, n65, rfl, ⟨b65, l65, rfl, q65⟩, ⟨c65, m65, rfl, r65⟩⟩ : RowV B w u65 row7 := p65
 obtain ⟨u75, x75, p75⟩ := finds_dep 70 75 hF (by kernel_rfl) (by kernel_rfl)
 obtain ⟨s75, n75, rfl, ⟨b75, l75, rfl, q75⟩, ⟨c75, m75, rfl, r75⟩⟩ : RowV B w u75 row8 := p75
 obtain ⟨u84, x84, p84⟩ := finds_dep 79 84 hF (by kernel_rfl) (by kernel_rfl)
 obtain ⟨s84, n84, rfl, ⟨b84, l84, rfl, q84⟩, ⟨c84, m84, rfl, r84⟩⟩ : RowV B w u84 row9 := p84
 obtain ⟨u92, x92, p92⟩ := finds_dep 87 92 hF (by kernel_rfl) (by kernel_rfl)
 obtain ⟨s92, n92, rfl, ⟨b92, l92, rfl, q92⟩, ⟨c92, m92, rfl, r92⟩⟩ : RowV B w u92 row10 := p92
 obtain ⟨u101, x101, p101⟩ := finds_dep 96 101 hF (by kernel_rfl) (by kernel_rfl)
 obtain ⟨s101, n101, rfl, ⟨b101, l101, rfl, q101⟩, ⟨c101, m101, rfl, r101⟩⟩ : RowV B w u101 row11 := p101
 obtain ⟨u107, x107, p107⟩ := finds_dep 102 107 hF (by kernel_rfl) (by kernel_rfl)
 obtain ⟨s107, n107, rfl, ⟨b107, l107, rfl, q107⟩, ⟨c107, m107, rfl, r107⟩⟩ : RowV B w u107 row12 := p107
 obtain ⟨u115, x115, p115⟩ := finds_dep 110 115 hF (by kernel_rfl) (by kernel_rfl)
 obtain ⟨s115, n115, rfl, ⟨b115, l115, rfl, q115⟩, ⟨c115, m115, rfl, r115⟩⟩ : RowV B w u115 row13 := p115
 obtain ⟨u119, x119, p119⟩ := finds_dep 114 119 hF (by kernel_rfl) (by kernel_rfl)
 obtain ⟨s119, n119, rfl, ⟨b119, l119, rfl, q119⟩, ⟨c119, m119, rfl, r119⟩⟩ : RowV B w u119 row14 := p119
 obtain ⟨u125, x125, p125⟩ := finds_dep 120 125 hF (by kernel_rfl) (by kernel_rfl)
 obtain ⟨s125, n125, rfl, ⟨b125, l125, rfl, q125⟩, ⟨c125, m125, rfl, r125⟩⟩ : RowV B w u125 row15 := p125
 obtain ⟨u133, x133, p133⟩ := finds_dep 128 133 hF (by kernel_rfl) (by kernel_rfl)
 obtain ⟨s133, n133, rfl, ⟨b133, l133, rfl, q133⟩, ⟨c133, m133, rfl, r133⟩⟩ : RowV B w u133 row16 := p133
 simp only [nv, noneN, numN, flagN, callA, row0, row1, row2, row3, row4, row5, row6, row7, row8, row9, row10, row11, row12, row13, row14, row15, row16, List.length_cons, List.length_nil, Nat.reduceAdd] at x12 x18 x24 x32 x39 x49 x57 x65 x75 x84 x92 x101 x107 x115 x119 x125 x133
 unfold Oper.wp
 simp [execOp, go_sem, x12, x18, x24, x32, x39, x49, x57, x65, x75, x84, x92, x101, x107, x115, x119, x125, x133]
 exact hK _ _ ((Below.refl _ _).alloc (Nat.le_refl _) _) (rows_new w hBw [(row0, .slice (some ⟨b12, 0, none⟩) row0.args.length row0.args.length, .slice (some ⟨c12, 0, none⟩) row0.vals.length row0.vals.length), (row1, .slice (some ⟨b18, 0, none⟩) row1.args.length row1.args.length, .slice (some ⟨c18, 0, none⟩) row1.vals.length row1.vals.length), (row2, .slice (some ⟨b24, 0, none⟩) row2.args.length row2.args.length, .slice (some ⟨c24, 0, none⟩) row2.vals.length row2.vals.length), (row3, .slice (some ⟨b32, 0, none⟩) row3.args.length row3.args.length, .slice (some ⟨c32, 0, none⟩) row3.vals.length row3.vals.length), (row4, .slice (some ⟨b39, 0, none⟩) row4.args.length row4.args.length, .slice (some ⟨c39, 0, none⟩) row4.vals.length row4.vals.length), (row5, .slice (some ⟨b49, 0, none⟩) row5.args.length row5.args.length, .slice (some ⟨c49, 0, none⟩) row5.vals.length row5.vals.length), (row6, .slice (some ⟨b57, 0, none⟩) row6.args.length row6.args.length, .slice (some ⟨c57, 0, none⟩) row6.vals.length row6.vals.length), (row7, .slice (some ⟨b65, 0, none⟩) row7.args.length row7.args.length, .slice (some ⟨c65, 0, none⟩) row7.vals.length row7.vals.length), (row8, .slice (some ⟨b75, 0, none⟩) row8.args.length row8.args.length, .slice (some ⟨c75, 0, none⟩) row8.vals.length row8.vals.length), (row9, .slice (some ⟨b84, 0, none⟩) row9.args.length row9.args.length, .slice (some ⟨c84, 0, none⟩) row9.vals.length row9.vals.length), (row10, .slice (some ⟨b92, 0, none⟩) row10.args.length row10.args.length, .slice (some ⟨c92, 0, none⟩) row10.vals.length row10.vals.length), (row11, .slice (some ⟨b101, 0, none⟩) row11.args.length row11.args.length, .slice (some ⟨c101, 0, none⟩) row11.vals.length row11.vals.length), (row12, .slice (some ⟨b107, 0, none⟩) row12.args.length row12.args.length, .slice (some ⟨c107, 0, none⟩) row12.vals.length row12.vals.length), (row13, .slice (some ⟨b115, 0, none⟩) row13.args.length row13.args.length, .slice (some ⟨c115, 0, none⟩) row13.vals.length row13.vals.length), (row14, .slice (some ⟨b119, 0, none⟩) row14.args.length row14.args.length, .slice (some ⟨c119, 0, none⟩) row14.vals.length row14.vals.length), (row15, .slice (some ⟨b125, 0, none⟩) row15.args.length row15.args.length, .slice (some ⟨c125, 0, none⟩) row15.vals.length row15.vals.length), (row16, .slice (some ⟨b133, 0, none⟩) row16.args.length row16.args.length, .slice (some ⟨c133, 0, none⟩) row16.vals.length row16.vals.length)] (List.forall_mem_cons.2 ⟨⟨⟨_, l12, rfl, q12⟩, ⟨_, m12, rfl, r12⟩⟩, (List.forall_mem_cons.2 ⟨⟨⟨_, l18, rfl, q18⟩, ⟨_, m18, rfl, r18⟩⟩, (List.forall_mem_cons.2 ⟨⟨⟨_, l24, rfl, q24⟩, ⟨_, m24, rfl, r24⟩⟩, (List.forall_mem_cons.2 ⟨⟨⟨_, l32, rfl, q32⟩, ⟨_, m32, rfl, r32⟩⟩, (List.forall_mem_cons.2 ⟨⟨⟨_, l39, rfl, q39⟩, ⟨_, m39, rfl, r39⟩⟩, (List.forall_mem_cons.2 ⟨⟨⟨_, l49, rfl, q49⟩, ⟨_, m49, rfl, r49⟩⟩, (List.forall_mem_cons.2 ⟨⟨⟨_, l57, rfl, q57⟩, ⟨_, m57, rfl, r57⟩⟩, (List.forall_mem_cons.2 ⟨⟨⟨_, l65, rfl, q65⟩, ⟨_, m65, rfl, r65⟩⟩, (List.forall_mem_cons.2 ⟨⟨⟨_, l75, rfl, q75⟩, ⟨_, m75, rfl, r75⟩⟩, (List.forall_mem_cons.2 ⟨⟨⟨_, l84, rfl, q84⟩, ⟨_, m84, rfl, r84⟩⟩, (List.forall_mem_cons.2 ⟨⟨⟨_, l92, rfl, q92⟩, ⟨_, m92, rfl, r92⟩⟩, (List.forall_mem_cons.2 ⟨⟨⟨_, l101, rfl, q101⟩, ⟨_, m101, rfl, r101⟩⟩, (List.forall_mem_cons.2 ⟨⟨⟨_, l107, rfl, q107⟩, ⟨_, m107, rfl, r107⟩⟩, (List.forall_mem_cons.2 ⟨⟨⟨_, l115, rfl, q115⟩, ⟨_, m115, rfl, r115⟩⟩, (List.forall_mem_cons.2 ⟨⟨⟨_, l119, rfl, q119⟩, ⟨_, m119, rfl, r119⟩⟩, (List.forall_mem_cons.2 ⟨⟨⟨_, l125, rfl, q125⟩, ⟨_, m125, rfl, r125⟩⟩, (List.forall_mem_cons.2 ⟨⟨⟨_, l133, rfl, q133⟩, ⟨_, m133, rfl, r133⟩⟩, (fun _ h => by cases h)⟩)⟩)⟩)⟩)⟩)⟩)⟩)⟩)⟩)⟩)⟩)⟩)⟩)⟩)⟩)⟩)⟩) _)
set_option maxRecDepth 100000 in
theorem st130 : StR 130 := by
 intro bN bA B Q o ho a w hBw hN hA hF K hK
 rw [← Array.getElem?_toList] at ho
 conv at ho => lhs; whnf
 obtain rfl := (Option.some.inj ho).symm
 clear ho
 obtain ⟨u134, x134, p134⟩ := finds_dep 129 134 hF (by kernel_rfl) (by kernel_rfl)
 obtain ⟨b134, l134, rfl, q134⟩ : RowsAt B w u134 rowsA := p134
 unfold Oper.wp
 simp [execOp, go_sem, x134]
 exact hK _ _ (Below.refl _ _) ⟨_, l134, rfl, q134⟩
set_option maxRecDepth 100000 in
theorem step_all {bN bA B : Nat} {Q : Exit → Act → World → Prop} : ∀ (i : Nat) (o : Oper), opsR[i]? = some o → ∀ (a : Act) (w : World), B ≤ w.heap.size → w.heap[bN]? = some (.cells #[.int .i64 0, .string ⟨#[]⟩, .int .u32 0, .int .i64 0, .string ⟨#[]⟩, .slice none 0 0, .int .i64 0] 29) → StrsAt B w (.slice (some ⟨bA, 0, none⟩) 5 5) [⟨#[114, 97, 116, 101]⟩, ⟨#[98, 49]⟩, ⟨#[98, 50]⟩, ⟨#[101, 112, 115]⟩, ⟨#[101, 112, 115, 95, 114, 111, 111, 116]⟩] → Finds opsR (PostR B) (baseR bN bA) o a w → ∀ (K : Act → World → Prop), (∀ v w', Below w.heap.size w w' → PostR B i v w' → K (a.put o.dst v) w') → o.wp Tryz.prog a w K Q
 | 0, o, ho, a, w, hBw, hN, hA, hF, K, hK => st0 _ _ _ _ o ho a w hBw hN hA hF K hK
 | 1, o, ho, a, w, hBw, hN, hA, hF, K, hK => st1 _ _ _ _ o ho a w hBw hN hA hF K hK
 | 2, o, ho, a, w, hBw, hN, hA, hF, K, hK => st2 _ _ _ _ o ho a w hBw hN hA hF K hK
 | 3, o, ho, a, w, hBw, hN, hA, hF, K, hK => st3 _ _ _ _ o ho a w hBw hN hA hF K hK
 | 4, o, ho, a, w, hBw, hN, hA, hF, K, hK => st4 _ _ _ _ o ho a w hBw hN hA hF K hK
 | 5, o, ho, a, w, hBw, hN, hA, hF, K, hK => st5 _ _ _ _ o ho a w hBw hN hA hF K hK
 | 6, o, ho, a, w, hBw, hN, hA, hF, K, hK => st6 _ _ _ _ o ho a w hBw hN hA hF K hK
 | 7, o, ho, a, w, hBw, hN, hA, hF, K, hK => st7 _ _ _ _ o ho a w hBw hN hA hF K hK
 | 8, o, ho, a, w, hBw, hN, hA, hF, K, hK => st8 _ _ _ _ o ho a w hBw hN hA hF K hK
 | 9, o, ho, a, w, hBw, hN, hA, hF, K, hK => st9 _ _ _ _ o ho a w hBw hN hA hF K hK
 | 10, o, ho, a, w, hBw, hN, hA, hF, K, hK => st10 _ _ _ _ o ho a w hBw hN hA hF K hK
 | 11, o, ho, a, w, hBw, hN, hA, hF, K, hK => st11 _ _ _ _ o ho a w hBw hN hA hF K hK
 | 12, o, ho, a, w, hBw, hN, hA, hF, K, hK => st12 _ _ _ _ o ho a w hBw hN hA hF K hK
 | 13, o, ho, a, w, hBw, hN, hA, hF, K, hK => st13 _ _ _ _ o ho a w hBw hN hA hF K hK
 | 14, o, ho, a, w, hBw, hN, hA, hF, K, hK => st14 _ _ _ _ o ho a w hBw hN hA hF K hK
 | 15, o, ho, a, w, hBw, hN, hA, hF, K, hK => st15 _ _ _ _ o ho a w hBw hN hA hF K hK
 | 16, o, ho, a, w, hBw, hN, hA, hF, K, hK => st16 _ _ _ _ o ho a w hBw hN hA hF K hK
 | 17, o, ho, a, w, hBw, hN, hA, hF, K, hK => st17 _ _ _ _ o ho a w hBw hN hA hF K hK
 | 18, o, ho, a, w, hBw, hN, hA, hF, K, hK => st18 _ _ _ _ o ho a w hBw hN hA hF K hK
 | 19, o, ho, a, w, hBw, hN, hA, hF, K, hK => st19 _ _ _ _ o ho a w hBw hN hA hF K hK
 | 20, o, ho, a, w, hBw, hN, hA, hF, K, hK => st20 _ _ _ _ o ho a w hBw hN hA hF K hK
 | 21, o, ho, a, w, hBw, hN, hA, hF, K, hK => st21 _ _ _ _ o ho a w hBw hN hA hF K hK
 | 22, o, ho, a, w, hBw, hN, hA, hF, K, hK => st22 _ _ _ _ o ho a w hBw hN hA hF K hK
 | 23, o, ho, a, w, hBw, hN, hA, hF, K, hK => st23 _ _ _ _ o ho a w hBw hN hA hF K hK
 | 24, o, ho, a, w, hBw, hN, hA, hF, K, hK => st24 _ _ _ _ o ho a w hBw hN hA hF K hK
 | 25, o, ho, a, w, hBw, hN, hA, hF, K, hK => st25 _ _ _ _ o ho a w hBw hN hA hF K hK
 | 26, o, ho, a, w, hBw, hN, hA, hF, K, hK => st26 _ _ _ _ o ho a w hBw hN hA hF K hK
 | 27, o, ho, a, w, hBw, hN, hA, hF, K, hK => st27 _ _ _ _ o ho a w hBw hN hA hF K hK
 | 28, o, ho, a, w, hBw, hN, hA, hF, K, hK => st28 _ _ _ _ o ho a w hBw hN hA hF K hK
 | 29, o, ho, a, w, hBw, hN, hA, hF, K, hK => st29 _ _ _ _ o ho a w hBw hN hA hF K hK
 | 30, o, ho, a, w, hBw, hN, hA, hF, K, hK => st30 _ _ _ _ o ho a w hBw hN hA hF K hK
 | 31, o, ho, a, w, hBw, hN, hA, hF, K, hK => st31 _ _ _ _ o ho a w hBw hN hA hF K hK
 | 32, o, ho, a, w, hBw, hN, hA, hF, K, hK => st32 _ _ _ _ o ho a w hBw hN hA hF K hK
 | 33, o, ho, a, w, hBw, hN, hA, hF, K, hK => st33 _ _ _ _ o ho a w hBw hN hA hF K hK
 | 34, o, ho, a, w, hBw, hN, hA, hF, K, hK => st34 _ _ _ _ o ho a w hBw hN hA hF K hK
 | 35, o, ho, a, w, hBw, hN, hA, hF, K, hK => st35 _ _ _ _ o ho a w hBw hN hA hF K hK
 | 36, o, ho, a, w, hBw, hN, hA, hF, K, hK => st36 _ _ _ _ o ho a w hBw hN hA hF K hK
 | 37, o, ho, a, w, hBw, hN, hA, hF, K, hK => st37 _ _ _ _ o ho a w hBw hN hA hF K hK
 | 38, o, ho, a, w, hBw, hN, hA, hF, K, hK => st38 _ _ _ _ o ho a w hBw hN hA hF K hK
 | 39, o, ho, a, w, hBw, hN, hA, hF, K, hK => st39 _ _ _ _ o ho a w hBw hN hA hF K hK
 | 40, o, ho, a, w, hBw, hN, hA, hF, K, hK => st40 _ _ _ _ o ho a w hBw hN hA hF K hK
 | 41, o, ho, a, w, hBw, hN, hA, hF, K, hK => st41 _ _ _ _ o ho a w hBw hN hA hF K hK
 | 42, o, ho, a, w, hBw, hN, hA, hF, K, hK => st42 _ _ _ _ o ho a w hBw hN hA hF K hK
 | 43, o, ho, a, w, hBw, hN, hA, hF, K, hK => st43 _ _ _ _ o ho a w hBw hN hA hF K hK
 | 44, o, ho, a, w, hBw, hN, hA, hF, K, hK => st44 _ _ _ _ o ho a w hBw hN hA hF K hK
 | 45, o, ho, a, w, hBw, hN, hA, hF, K, hK => st45 _ _ _ _ o ho a w hBw hN hA hF K hK
 | 46, o, ho, a, w, hBw, hN, hA, hF, K, hK => st46 _ _ _ _ o ho a w hBw hN hA hF K hK
 | 47, o, ho, a, w, hBw, hN, hA, hF, K, hK => st47 _ _ _ _ o ho a w hBw hN hA hF K hK
 | 48, o, ho, a, w, hBw, hN, hA, hF, K, hK => st48 _ _ _ _ o ho a w hBw hN hA hF K hK
 | 49, o, ho, a, w, hBw, hN, hA, hF, K, hK => st49 _ _ _ _ o ho a w hBw hN hA hF K hK
 | 50, o, ho, a, w, hBw, hN, hA, hF, K, hK => st50 _ _ _ _ o ho a w hBw hN hA hF K hK
 | 51, o, ho, a, w, hBw, hN, hA, hF, K, hK => st51 _ _ _ _ o ho a w hBw hN hA hF K hK
 | 52, o, ho, a, w, hBw, hN, hA, hF, K, hK => st52 _ _ _ _ o ho a w hBw hN hA hF K hK
 | 53, o, ho, a, w, hBw, hN, hA, hF, K, hK => st53 _ _ _ _ o ho a w hBw hN hA hF K hK
 | 54, o, ho, a, w, hBw, hN, hA, hF, K, hK => st54 _ _ _ _ o ho a w hBw hN hA hF K hK
 | 55, o, ho, a, w, hBw, hN, hA, hF, K, hK => st55 _ _ _ _ o ho a w hBw hN hA hF K hK
 | 56, o, ho, a, w, hBw, hN, hA, hF, K, hK => st56 _ _ _ _ o ho a w hBw hN hA hF K hK
 | 57, o, ho, a, w, hBw, hN, hA, hF, K, hK => st57 _ _ _ _ o ho a w hBw hN hA hF K hK
 | 58, o, ho, a, w, hBw, hN, hA, hF, K, hK => st58 _ _ _ _ o ho a w hBw hN hA hF K hK
 | 59, o, ho, a, w, hBw, hN, hA, hF, K, hK => st59 _ _ _ _ o ho a w hBw hN hA hF K hK
 | 60, o, ho, a, w, hBw, hN, hA, hF, K, hK => st60 _ _ _ _ o ho a w hBw hN hA hF K hK
 | 61, o, ho, a, w, hBw, hN, hA, hF, K, hK => st61 _ _ _ _ o ho a w hBw hN hA hF K hK
 | 62, o, ho, a, w, hBw, hN, hA, hF, K, hK => st62 _ _ _ _ o ho a w hBw hN hA hF K hK
 | 63, o, ho, a, w, hBw, hN, hA, hF, K, hK => st63 _ _ _ _ o ho a w hBw hN hA hF K hK
 | 64, o, ho, a, w, hBw, hN, hA, hF, K, hK => st64 _ _ _ _ o ho a w hBw hN hA hF K hK
 | 65, o, ho, a, w, hBw, hN, hA, hF, K, hK => st65 _ _ _ _ o ho a w hBw hN hA hF K hK
 | 66, o, ho, a, w, hBw, hN, hA, hF, K, hK => st66 _ _ _ _ o ho a w hBw hN hA hF K hK
 | 67, o, ho, a, w, hBw, hN, hA, hF, K, hK => st67 _ _ _ _ o ho a w hBw hN hA hF K hK
 | 68, o, ho, a, w, hBw, hN, hA, hF, K, hK => st68 _ _ _ _ o ho a w hBw hN hA hF K hK
 | 69, o, ho, a, w, hBw, hN, hA, hF, K, hK => st69 _ _ _ _ o ho a w hBw hN hA hF K hK
 | 70, o, ho, a, w, hBw, hN, hA, hF, K, hK => st70 _ _ _ _ o ho a w hBw hN hA hF K hK
 | 71, o, ho, a, w, hBw, hN, hA, hF, K, hK => st71 _ _ _ _ o ho a w hBw hN hA hF K hK
 | 72, o, ho, a, w, hBw, hN, hA, hF, K, hK => st72 _ _ _ _ o ho a w hBw hN hA hF K hK
 | 73, o, ho, a, w, hBw, hN, hA, hF, K, hK => st73 _ _ _ _ o ho a w hBw hN hA hF K hK
 | 74, o, ho, a, w, hBw, hN, hA, hF, K, hK => st74 _ _ _ _ o ho a w hBw hN hA hF K hK
 | 75, o, ho, a, w, hBw, hN, hA, hF, K, hK => st75 _ _ _ _ o ho a w hBw hN hA hF K hK
 | 76, o, ho, a, w, hBw, hN, hA, hF, K, hK => st76 _ _ _ _ o ho a w hBw hN hA hF K hK
 | 77, o, ho, a, w, hBw, hN, hA, hF, K, hK => st77 _ _ _ _ o ho a w hBw hN hA hF K hK
 | 78, o, ho, a, w, hBw, hN, hA, hF, K, hK => st78 _ _ _ _ o ho a w hBw hN hA hF K hK
 | 79, o, ho, a, w, hBw, hN, hA, hF, K, hK => st79 _ _ _ _ o ho a w hBw hN hA hF K hK
 | 80, o, ho, a, w, hBw, hN, hA, hF, K, hK => st80 _ _ _ _ o ho a w hBw hN hA hF K hK
 | 81, o, ho, a, w, hBw, hN, hA, hF, K, hK => st81 _ _ _ _ o ho a w hBw hN hA hF K hK
 | 82, o, ho, a, w, hBw, hN, hA, hF, K, hK => st82 _ _ _ _ o ho a w hBw hN hA hF K hK
 | 83, o, ho, a, w, hBw, hN, hA, hF, K, hK => st83 _ _ _ _ o ho a w hBw hN hA hF K hK
 | 84, o, ho, a, w, hBw, hN, hA, hF, K, hK => st84 _ _ _ _ o ho a w hBw hN hA hF K hK
 | 85, o, ho, a, w, hBw, hN, hA, hF, K, hK => st85 _ _ _ _ o ho a w hBw hN hA hF K hK
 | 86, o, ho, a, w, hBw, hN, hA, hF, K, hK => st86 _ _ _ _ o ho a w hBw hN hA hF K hK
 | 87, o, ho, a, w, hBw, hN, hA, hF, K, hK => st87 _ _ _ _ o ho a w hBw hN hA hF K hK
 | 88, o, ho, a, w, hBw, hN, hA, hF, K, hK => st88 _ _ _ _ o ho a w hBw hN hA hF K hK
 | 89, o, ho, a, w, hBw, hN, hA, hF, K, hK => st89 _ _ _ _ o ho a w hBw hN hA hF K hK
 | 90, o, ho, a, w, hBw, hN, hA, hF, K, hK => st90 _ _ _ _ o ho a w hBw hN hA hF K hK
 | 91, o, ho, a, w, hBw, hN, hA, hF, K, hK => st91 _ _ _ _ o ho a w hBw hN hA hF K hK
 | 92, o, ho, a, w, hBw, hN, hA, hF, K, hK => st92 _ _ _ _ o ho a w hBw hN hA hF K hK
 | 93, o, ho, a, w, hBw, hN, hA, hF, K, hK => st93 _ _ _ _ o ho a w hBw hN hA hF K hK
 | 94, o, ho, a, w, hBw, hN, hA, hF, K, hK => st94 _ _ _ _ o ho a w hBw hN hA hF K hK
 | 95, o, ho, a, w, hBw, hN, hA, hF, K, hK => st95 _ _ _ _ o ho a w hBw hN hA hF K hK
 | 96, o, ho, a, w, hBw, hN, hA, hF, K, hK => st96 _ _ _ _ o ho a w hBw hN hA hF K hK
 | 97, o, ho, a, w, hBw, hN, hA, hF, K, hK => st97 _ _ _ _ o ho a w hBw hN hA hF K hK
 | 98, o, ho, a, w, hBw, hN, hA, hF, K, hK => st98 _ _ _ _ o ho a w hBw hN hA hF K hK
 | 99, o, ho, a, w, hBw, hN, hA, hF, K, hK => st99 _ _ _ _ o ho a w hBw hN hA hF K hK
 | 100, o, ho, a, w, hBw, hN, hA, hF, K, hK => st100 _ _ _ _ o ho a w hBw hN hA hF K hK
 | 101, o, ho, a, w, hBw, hN, hA, hF, K, hK => st101 _ _ _ _ o ho a w hBw hN hA hF K hK
 | 102, o, ho, a, w, hBw, hN, hA, hF, K, hK => st102 _ _ _ _ o ho a w hBw hN hA hF K hK
 | 103, o, ho, a, w, hBw, hN, hA, hF, K, hK => st103 _ _ _ _ o ho a w hBw hN hA hF K hK
 | 104, o, ho, a, w, hBw, hN, hA, hF, K, hK => st104 _ _ _ _ o ho a w hBw hN hA hF K hK
 | 105, o, ho, a, w, hBw, hN, hA, hF, K, hK => st105 _ _ _ _ o ho a w hBw hN hA hF K hK
 | 106, o, ho, a, w, hBw, hN, hA, hF, K, hK => st106 _ _ _ _ o ho a w hBw hN hA hF K hK
 | 107, o, ho, a, w, hBw, hN, hA, hF, K, hK => st107 _ _ _ _ o ho a w hBw hN hA hF K hK
 | 108, o, ho, a, w, hBw, hN, hA, hF, K, hK => st108 _ _ _ _ o ho a w hBw hN hA hF K hK
 | 109, o, ho, a, w, hBw, hN, hA, hF, K, hK => st109 _ _ _ _ o ho a w hBw hN hA hF K hK
 | 110, o, ho, a, w, hBw, hN, hA, hF, K, hK => st110 _ _ _ _ o ho a w hBw hN hA hF K hK
 | 111, o, ho, a, w, hBw, hN, hA, hF, K, hK => st111 _ _ _ _ o ho a w hBw hN hA hF K hK
 | 112, o, ho, a, w, hBw, hN, hA, hF, K, hK => st112 _ _ _ _ o ho a w hBw hN hA hF K hK
 | 113, o, ho, a, w, hBw, hN, hA, hF, K, hK => st113 _ _ _ _ o ho a w hBw hN hA hF K hK
 | 114, o, ho, a, w, hBw, hN, hA, hF, K, hK => st114 _ _ _ _ o ho a w hBw hN hA hF K hK
 | 115, o, ho, a, w, hBw, hN, hA, hF, K, hK => st115 _ _ _ _ o ho a w hBw hN hA hF K hK
 | 116, o, ho, a, w, hBw, hN, hA, hF, K, hK => st116 _ _ _ _ o ho a w hBw hN hA hF K hK
 | 117, o, ho, a, w, hBw, hN, hA, hF, K, hK => st117 _ _ _ _ o ho a w hBw hN hA hF K hK
 | 118, o, ho, a, w, hBw, hN, hA, hF, K, hK => st118 _ _ _ _ o ho a w hBw hN hA hF K hK
 | 119, o, ho, a, w, hBw, hN, hA, hF, K, hK => st119 _ _ _ _ o ho a w hBw hN hA hF K hK
 | 120, o, ho, a, w, hBw, hN, hA, hF, K, hK => st120 _ _ _ _ o ho a w hBw hN hA hF K hK
 | 121, o, ho, a, w, hBw, hN, hA, hF, K, hK => st121 _ _ _ _ o ho a w hBw hN hA hF K hK
 | 122, o, ho, a, w, hBw, hN, hA, hF, K, hK => st122 _ _ _ _ o ho a w hBw hN hA hF K hK
 | 123, o, ho, a, w, hBw, hN, hA, hF, K, hK => st123 _ _ _ _ o ho a w hBw hN hA hF K hK
 | 124, o, ho, a, w, hBw, hN, hA, hF, K, hK => st124 _ _ _ _ o ho a w hBw hN hA hF K hK
 | 125, o, ho, a, w, hBw, hN, hA, hF, K, hK => st125 _ _ _ _ o ho a w hBw hN hA hF K hK
 | 126, o, ho, a, w, hBw, hN, hA, hF, K, hK => st126 _ _ _ _ o ho a w hBw hN hA hF K hK
 | 127, o, ho, a, w, hBw, hN, hA, hF, K, hK => st127 _ _ _ _ o ho a w hBw hN hA hF K hK
 | 128, o, ho, a, w, hBw, hN, hA, hF, K, hK => st128 _ _ _ _ o ho a w hBw hN hA hF K hK
 | 129, o, ho, a, w, hBw, hN, hA, hF, K, hK => st129 _ _ _ _ o ho a w hBw hN hA hF K hK
 | 130, o, ho, a, w, hBw, hN, hA, hF, K, hK => st130 _ _ _ _ o ho a w hBw hN hA hF K hK
 | i + 131, o, ho, a, w, hBw, hN, hA, hF, K, hK => by have := (Array.getElem?_eq_some_iff.1 ho).1; rw [opsR_size] at this; omega
end Go.Proofs.YtmiidhgbdecdkaaGreat
