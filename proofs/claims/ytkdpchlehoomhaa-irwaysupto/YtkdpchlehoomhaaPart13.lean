import Derived.Test.YtkdpchlehoomhaaPart12
import Derived.Test.YtkdpchlehoomhaaPart1
namespace Go.Proofs.Ytkdpchlehoomhaa
open Go.RowKit
set_option linter.unusedVariables false
set_option linter.unusedSimpArgs false
def insV (i : Ins) : Value := .agg #[.int .i64 i.op, .int .i64 i.d, .int .i64 i.a, .int .i64 i.b, .int .i64 i.c, .int .i64 i.n, .int .u32 i.bits]
theorem ins_cells {w v : World} {i : Ins} {t : TypeId} (k : Below (w.alloc (.cells #[.int .i64 i.op, .int .i64 i.d, .int .i64 i.a, .int .i64 i.b, .int .i64 i.c, .int .i64 i.n, .int .u32 i.bits] t)).heap.size (w.alloc (.cells #[.int .i64 i.op, .int .i64 i.d, .int .i64 i.a, .int .i64 i.b, .int .i64 i.c, .int .i64 i.n, .int .u32 i.bits] t)) v) : CellsAt v w.heap.size 0 (inC i) := by
 refine CellsAt.below (fun j hj => ?_) k
 have hj' : j < 7 := hj
 obtain rfl | rfl | rfl | rfl | rfl | rfl | rfl : j = 0 ∨ j = 1 ∨ j = 2 ∨ j = 3 ∨ j = 4 ∨ j = 5 ∨ j = 6 := by omega
 all_goals simp [go_sem, inC]
set_option maxRecDepth 100000 in
set_option maxHeartbeats 1000000 in
theorem sets_any (i : Ins) (w : World) : Calls Try.prog 10 #[insV i] w fun e w' => e = .returned (.bool ((rowP i.op).d != 0)) ∧ Below w.heap.size w w' := by
 have K1 := fun w => rowOf_any i.op w
 obtain ⟨r, hr⟩ : ∃ r, rowP i.op = r := ⟨_, rfl⟩
 obtain ⟨X, hX⟩ : ∃ X, knownP i.op = X := ⟨_, rfl⟩
 simp only [hr, hX] at K1 ⊢
 obtain ⟨L0, L1, L2, L3, L4⟩ := r
 obtain ⟨op, D, A, B, E, n, bt⟩ := i
 unfold insV
 unfold rwV at K1
 simp only at K1 ⊢
 have HK : Hid (∀ w, Calls Try.prog 23 #[.int .i64 op] w fun e w' => e = .returned (.tuple #[.agg #[.int .i64 L0, .int .i64 L1, .int .i64 L2, .int .i64 L3, .int .i64 L4], .bool X]) ∧ Below w.heap.size w w') := K1
 clear K1 hr hX
 go_enter Try.func10, Try.ntmps10
 go_wp2_with (go_at_call 23; refine (HK.out _).mono ?_; rintro e w1 ⟨rfl, hb1⟩)
 go_ret
 exact ⟨rfl, bel (bel (bel_alloc _ _) hb1) (bel_alloc _ _)⟩
set_option maxRecDepth 100000 in
set_option maxHeartbeats 1000000 in
theorem reads_any (i : Ins) (w : World) : Calls Try.prog 8 #[insV i] w fun e w' => ∃ v, e = .returned v ∧ w'.ownsRow w.heap.size 3 1 v (readsP i (rowP i.op)).length (i64s (readsP i (rowP i.op))) ∧ Below w.heap.size w w' := by
 have K1 := fun w => rowOf_any i.op w
 have K2 := fun w h => readBy_any w.heap.size 0 i (rowP i.op) w h
 clear K2
 have K3 := fun b v h => readBy_any b 0 i (rowP i.op) v h
 have HIC := fun (v : World) k => ins_cells (w := w) (v := v) (i := i) (t := 25) k
 obtain ⟨r, hr⟩ : ∃ r, rowP i.op = r := ⟨_, rfl⟩
 obtain ⟨X, hX⟩ : ∃ X, knownP i.op = X := ⟨_, rfl⟩
 simp only [hr, hX] at K1 K3 ⊢
 obtain ⟨RL, hRL⟩ : ∃ x, readsP i r = x := ⟨_, rfl⟩
 simp only [hRL] at K3 ⊢
 obtain ⟨L0, L1, L2, L3, L4⟩ := r
 obtain ⟨op, D, A, B, E, n, bt⟩ := i
 unfold insV
 unfold rwV at K1 K3
 simp only at K1 K3 HIC ⊢
 have HK : Hid (∀ w, Calls Try.prog 23 #[.int .i64 op] w fun e w' => e = .returned (.tuple #[.agg #[.int .i64 L0, .int .i64 L1, .int .i64 L2, .int .i64 L3, .int .i64 L4], .bool X]) ∧ Below w.heap.size w w') := K1
 have HK3 : Hid (∀ b v, CellsAt v b 0 (inC ⟨op, D, A, B, E, n, bt⟩) → Calls Try.prog 24 #[.agg #[.int .i64 L0, .int .i64 L1, .int .i64 L2, .int .i64 L3, .int .i64 L4], .pointer (some ⟨b, 0, none⟩)] v fun e w' => ∃ u, e = .returned u ∧ w'.ownsRow v.heap.size 3 1 u RL.length (i64s RL) ∧ Below v.heap.size v w') := K3
 have HCC : Hid (∀ v, Below (w.alloc (.cells #[.int .i64 op, .int .i64 D, .int .i64 A, .int .i64 B, .int .i64 E, .int .i64 n, .int .u32 bt] 25)).heap.size (w.alloc (.cells #[.int .i64 op, .int .i64 D, .int .i64 A, .int .i64 B, .int .i64 E, .int .i64 n, .int .u32 bt] 25)) v → CellsAt v w.heap.size 0 (inC ⟨op, D, A, B, E, n, bt⟩)) := HIC
 clear K1 K3 HIC hr hX hRL
 go_enter Try.func8, Try.ntmps8
 go_wp2_with (first
  | (go_at_call 23; refine (HK.out _).mono ?_; rintro e w1 ⟨rfl, hb1⟩)
  | (go_at_call 24; refine (HK3.out _ _ (HCC.out _ (bel hb1 (bel_alloc _ _)))).mono ?_; rintro e w2 ⟨u, rfl, hu, hb2⟩; have HU : Hid (w2.ownsRow (w1.alloc (.cells #[.int .i64 L0, .int .i64 L1, .int .i64 L2, .int .i64 L3, .int .i64 L4] 53)).heap.size 3 1 u RL.length (i64s RL)) := hu; have HB2 : Hid (Below w.heap.size w w2) := bel (bel (bel (bel_alloc _ _) hb1) (bel_alloc _ _)) hb2; have hs : w.heap.size ≤ (w1.alloc (.cells #[.int .i64 L0, .int .i64 L1, .int .i64 L2, .int .i64 L3, .int .i64 L4] 53)).heap.size := (bel (bel (bel_alloc _ _) hb1) (bel_alloc _ _)).size; have HSZ : Hid (w.heap.size ≤ (w1.alloc (.cells #[.int .i64 L0, .int .i64 L1, .int .i64 L2, .int .i64 L3, .int .i64 L4] 53)).heap.size) := hs; clear hu hb2 hs))
 go_ret
 exact ⟨_, rfl, own_mono HU.out HSZ.out, HB2.out⟩
def flat {α : Type} (f : α → List Value) (l : List α) : List Value := l.flatMap f
theorem flat_len {α : Type} {f : α → List Value} {k : Nat} (hf : ∀ x, (f x).length = k) : ∀ l : List α, (flat f l).length = l.length * k
 | [] => by simp [flat]
 | a :: l => by
  have e : flat f (a :: l) = f a ++ flat f l := by simp [flat]
  rw [e, List.length_append, flat_len hf l, hf, List.length_cons, Nat.add_mul, Nat.one_mul, Nat.add_comm]
theorem flat_at {α : Type} {f : α → List Value} {k : Nat} (hf : ∀ x, (f x).length = k) : ∀ (l : List α) (i j : Nat) (hi : i < l.length), j < k → (flat f l)[i * k + j]? = (f l[i])[j]?
 | [], i, j, hi, hj => absurd hi (Nat.not_lt_zero _)
 | a :: l, 0, j, hi, hj => by
  have e : flat f (a :: l) = f a ++ flat f l := by simp [flat]
  rw [e, Nat.zero_mul, Nat.zero_add, List.getElem?_append_left (by rw [hf]; exact hj)]
  rfl
 | a :: l, i + 1, j, hi, hj => by
  have e : flat f (a :: l) = f a ++ flat f l := by simp [flat]
  have e2 : (i + 1) * k + j - (f a).length = i * k + j := by rw [hf, Nat.add_mul, Nat.one_mul]; omega
  rw [e, List.getElem?_append_right (by rw [hf, Nat.add_mul, Nat.one_mul]; omega), e2]
  exact flat_at hf l i j (by simpa using hi) hj
theorem flat_append {α : Type} (f : α → List Value) (l m : List α) : flat f (l ++ m) = flat f l ++ flat f m := by simp [flat]
theorem own_row {α : Type} {f : α → List Value} {k : Nat} (hf : ∀ x, (f x).length = k) {w : World} {B : Nat} {t : TypeId} {v : Value} {l : List α} (h : w.ownsRow B t k v l.length (flat f l)) : RowG k f w v l := by
 by_cases h0 : l = []
 ·subst h0
  obtain ⟨p, c, hv⟩ := own_len h
  exact ⟨p, c, hv, .inl rfl⟩
 ·obtain ⟨g, cap, hv, _, _, _, _, hcl⟩ := own_open h (List.length_pos_iff.2 h0)
  refine ⟨_, cap, hv, .inr ⟨g, 0, rfl, fun i hi j hj => ?_⟩⟩
  rw [Nat.zero_add]
  exact hcl _ _ (by rw [flat_at hf l i j hi (by rw [← hf l[i]]; exact hj)]; exact List.getElem?_eq_getElem hj)
theorem add_none (b o j : Nat) : (⟨b, o, none⟩ : Addr).add j = ⟨b, o + j, none⟩ := by unfold Addr.add; split <;> simp_all
theorem row_cells {α : Type} {f : α → List Value} {k : Nat} (hk : 0 < k) (hf : ∀ x, (f x).length = k) {w : World} {b o : Nat} {l : List α} (h : ∀ i (hi : i < l.length), CellsAt w b (o + i * k) (f l[i])) (j : Nat) (u : Value) (hu : (flat f l)[j]? = some u) : w.cell? ((⟨b, o, none⟩ : Addr).add j) = some u := by
 have hj : j < l.length * k := by have := (List.getElem?_eq_some_iff.1 hu).1; rwa [flat_len hf] at this
 have hi : j / k < l.length := Nat.div_lt_of_lt_mul (by rw [Nat.mul_comm]; exact hj)
 have hm : j % k < k := Nat.mod_lt _ hk
 have e : j = j / k * k + j % k := by rw [Nat.mul_comm]; exact (Nat.div_add_mod j k).symm
 rw [e, flat_at hf l _ _ hi hm] at hu
 rw [add_none]
 have := (h _ hi).at _ hu
 rw [Nat.add_assoc, ← e] at this
 exact this
theorem app_rowG {α : Type} {f : α → List Value} {k bytes : Nat} {t e : TypeId} {z : Value} {i : TypeInfo} (hk : 0 < k) (hf : ∀ x, (f x).length = k) (h1 : ∀ x, ∀ u ∈ f x, u.oneCell' = true) (ht : Try.prog.underlying t = some (.slice e)) (hi : Try.prog.info? e = some i) (hz : i.zero = some z) (hsize : i.size = k) (hby : i.bytes = bytes) (hzs : z.cells.size = k)
  {l : List α} {v : Value} {w : World} (h : RowG k f w v l) (hl : l.length ≤ maxLen) (hb : l.length * bytes ≤ 140737488355328) (ty : TypeId) :
  ∃ v' w', (Builtin.append_ #[t, t] ty #[.slice none 0 0, v]).run Try.prog w = .ok v' w' ∧ Below w.heap.size w w' ∧ w'.ownsRow w.heap.size e k v' l.length (flat f l) := by
 obtain ⟨p, c, rfl, h⟩ := h
 by_cases h0 : l = []
 ·subst h0
  refine ⟨.slice none 0 0, w, ?_, Below.refl _ _, ⟨by simp [flat], .inl ⟨rfl, rfl⟩⟩⟩
  cases p with
  | none => simp [Builtin.append_, run_underlying ht, sizeOf, typeInfo, hi, Builtin.lenOf, Builtin.firstCells, storeCells]
  | some a => simp [Builtin.append_, run_underlying ht, sizeOf, typeInfo, hi, Builtin.lenOf, Builtin.firstCells, storeCells, loadCells, loadCellsFrom]
 ·obtain ⟨b, o, rfl, h2⟩ := h.resolve_left h0
  have hpos : 0 < l.length := List.length_pos_iff.2 h0
  obtain ⟨g, cap, w', hr, hown, hg, hat, hlt⟩ := run_append_lies (P := Try.prog) w t ty w.heap.size e i z k bytes ht hi hz hsize hby hzs hk (.slice none 0 0) 0 [] (World.ownsRow_nil w _ _ k) ⟨b, o, none⟩ l.length c (flat f l) (flat_len hf l) (row_cells hk hf h2) (by intro u hu; obtain ⟨x, _, hx⟩ := List.mem_flatMap.1 hu; exact h1 x u hx) hpos (by omega) (by rw [Nat.zero_add]; exact hb) (Nat.le_refl _) w.heap.size rfl
  rw [Nat.zero_add] at hr hown
  exact ⟨_, w', hr, ⟨hg.os, hg.tape, hg.output, hg.size, fun j hj => hg.block j hj (by show some j ≠ none; simp)⟩, by rw [List.nil_append] at hown; exact hown⟩
theorem wpList_app {P : Program} {w w' : World} {ops : Array Oper} {rest : List Oper} {o : Oper} {a : Act} {Q : Exit → Act → World → Prop} (hgd : o.guard = none) (s x : Operand) (t : TypeId)
  (ho : o.op = .call { callee := .builtin .append, args := #[s, x], argTypes := #[t, t] }) (v v2 v' : Value) (hs : a.eval s = v) (hx : a.eval x = v2) (hr : (Builtin.append_ #[t, t] o.type #[v, v2]).run P w = .ok v' w')
  (h : wpList P ops Q rest (a.put o.dst v') w') : wpList P ops Q (o :: rest) a w :=
 wpList_plain hgd fun _ hK => by
  unfold Oper.wp execOp
  simp only [ho, resolve, invoke, builtin, Sem.run_bind, Sem.run_pure, Result.andThen_ok, List.map_toArray, List.map_cons, List.map_nil, hs, hx, hr]
  exact hK _ _ h
theorem inC_one : ∀ x : Ins, ∀ u ∈ inC x, u.oneCell' = true := fun x u hu => by simp [inC] at hu; rcases hu with rfl | rfl | rfl | rfl | rfl | rfl | rfl <;> rfl
theorem info_Inst : (Try.prog.info? 25).map (fun i => (i.zero, i.size, i.bytes)) = some (some (.agg #[.int .i64 0, .int .i64 0, .int .i64 0, .int .i64 0, .int .i64 0, .int .i64 0, .int .u32 0]), 7, 56) := by kernel_rfl
theorem app_ins {l : List Ins} {v : Value} {w : World} (h : RowG 7 inC w v l) (hl : l.length * 56 ≤ 140737488355328) (ty : TypeId) :
  ∃ v' w', (Builtin.append_ #[34, 34] ty #[.slice none 0 0, v]).run Try.prog w = .ok v' w' ∧ Below w.heap.size w w' ∧ w'.ownsRow w.heap.size 25 7 v' l.length (flat inC l) := by
 obtain ⟨i0, hi0, hz0, hz1, hz2⟩ := info_parts info_Inst
 exact app_rowG (by decide) inC_len inC_one Try.underlying34 hi0 hz0 hz1 hz2 rfl h (by unfold maxLen; omega) hl ty
end Go.Proofs.Ytkdpchlehoomhaa
namespace Go.Proofs.Ytkdpchlehoomhaa
open Go.RowKit
set_option linter.unusedVariables false
set_option linter.unusedSimpArgs false
abbrev wName : ByteArray := ⟨#[119]⟩
def smallC (l : List Ins) : Cd := ⟨[⟨wName, 1, 3⟩], [⟨1, 0⟩, ⟨3, 0⟩, ⟨2, 0⟩], [], l⟩
theorem smallC_ok {l : List Ins} (hl : l.length ≤ 140737488351232) (hb : ∀ i ∈ l, 0 ≤ i.bits ∧ i.bits < 4294967296) : CdOk (smallC l) :=
 ⟨by simp [smallC], fun p hp => by simp [smallC] at hp; subst hp; show wName.size ≤ _; decide, by simp [smallC], by simp [smallC], hl, fun s hs => by simp [smallC] at hs, hb⟩
theorem small_rows {w w3 : World} {l : List Ins} {vl : Value} (hb : Below (w.heap.size + 1) (w.alloc (.cells #[.slice none 0 0, .slice none 0 0, .slice none 0 0, .slice none 0 0] 36)) w3) (hl : w3.ownsRow (w.heap.size + 1) 25 7 vl l.length (flat inC l)) (V : World)
  (hV : V = ((((((w3.alloc (.cells #[.string wName, .int .i64 1, .int .i64 3] 62)).alloc (.cells #[.int .i64 1, .int .i64 0, .int .i64 3, .int .i64 0, .int .i64 2, .int .i64 0] 65)).setCell ⟨w.heap.size, 0, none⟩ (.slice (some ⟨w3.heap.size, 0, none⟩) 1 1)).setCell ⟨w.heap.size, 1, none⟩ (.slice (some ⟨w3.heap.size + 1, 0, none⟩) 3 3)).setCell ⟨w.heap.size, 2, none⟩ (.slice none 0 0)).setCell ⟨w.heap.size, 3, none⟩ vl)) :
  Below w.heap.size w V ∧ CdV V (.slice (some ⟨w3.heap.size, 0, none⟩) 1 1) (.slice (some ⟨w3.heap.size + 1, 0, none⟩) 3 3) (.slice none 0 0) vl (smallC l) ∧ V.ownsRow w.heap.size 25 7 vl l.length (flat inC l) := by
 have hs := hb.size
 simp at hs
 have nb : ∀ b, b ≠ w.heap.size → V.heap[b]? = ((w3.alloc (.cells #[.string wName, .int .i64 1, .int .i64 3] 62)).alloc (.cells #[.int .i64 1, .int .i64 0, .int .i64 3, .int .i64 0, .int .i64 2, .int .i64 0] 65)).heap[b]? := fun b hne => by
  rw [hV, Below.heap_setCell _ _ _ _ hne, Below.heap_setCell _ _ _ _ hne, Below.heap_setCell _ _ _ _ hne, Below.heap_setCell _ _ _ _ hne]
 have hb3 : Below w3.heap.size w3 ((w3.alloc (.cells #[.string wName, .int .i64 1, .int .i64 3] 62)).alloc (.cells #[.int .i64 1, .int .i64 0, .int .i64 3, .int .i64 0, .int .i64 2, .int .i64 0] 65)) := bel (bel_alloc _ _) (bel_alloc _ _)
 have hown : V.ownsRow (w.heap.size + 1) 25 7 vl l.length (flat inC l) := own_keep (own_below hl hb3) fun g hg => nb g (by have := (hl.lt g hg).1; omega)
 have c1 : ∀ j, V.cell? ⟨w3.heap.size, j, none⟩ = ((w3.alloc (.cells #[.string wName, .int .i64 1, .int .i64 3] 62)).alloc (.cells #[.int .i64 1, .int .i64 0, .int .i64 3, .int .i64 0, .int .i64 2, .int .i64 0] 65)).cell? ⟨w3.heap.size, j, none⟩ := fun j => World.cell?_of_block (nb _ (by show w3.heap.size ≠ _; omega))
 have c2 : ∀ j, V.cell? ⟨w3.heap.size + 1, j, none⟩ = ((w3.alloc (.cells #[.string wName, .int .i64 1, .int .i64 3] 62)).alloc (.cells #[.int .i64 1, .int .i64 0, .int .i64 3, .int .i64 0, .int .i64 2, .int .i64 0] 65)).cell? ⟨w3.heap.size + 1, j, none⟩ := fun j => World.cell?_of_block (nb _ (by show w3.heap.size + 1 ≠ _; omega))
 refine ⟨?_, ⟨?_, ?_, ⟨none, 0, rfl, .inl rfl⟩, own_row inC_len hown⟩, own_mono hown (by omega)⟩
 ·rw [hV]
  exact ((((((bel_alloc w _).trans (hb.mono (by omega))).trans ((hb3.mono (by omega)))).setCell (Nat.le_refl _) _).setCell (Nat.le_refl _) _).setCell (Nat.le_refl _) _).setCell (Nat.le_refl _) _
 ·refine ⟨_, _, rfl, .inr ⟨w3.heap.size, 0, rfl, fun i hi j hj => ?_⟩⟩
  have hi' : i < 1 := hi
  have hj' : j < 3 := hj
  obtain rfl : i = 0 := by omega
  obtain rfl | rfl | rfl : j = 0 ∨ j = 1 ∨ j = 2 := by omega
  all_goals
   rw [c1]
   simp [go_sem, smallC, parCells]
 ·refine ⟨_, _, rfl, .inr ⟨w3.heap.size + 1, 0, rfl, fun i hi j hj => ?_⟩⟩
  have hi' : i < 3 := hi
  have hj' : j < 2 := hj
  obtain rfl | rfl | rfl : i = 0 ∨ i = 1 ∨ i = 2 := by omega
  all_goals
   obtain rfl | rfl : j = 0 ∨ j = 1 := by omega
   all_goals
    rw [c2]
    simp [go_sem, smallC, tyC]
set_option maxRecDepth 100000 in
set_option maxHeartbeats 2000000 in
theorem small_any (l : List Ins) (hl : l.length ≤ 1000) (v : Value) (w : World) (h : RowG 7 inC w v l) :
  Calls Try.prog 21 #[v] w fun e w' => ∃ v0 v1 v3, e = .returned (.agg #[v0, v1, .slice none 0 0, v3]) ∧ CdV w' v0 v1 (.slice none 0 0) v3 (smallC l) ∧ w'.ownsRow w.heap.size 25 7 v3 l.length (flat inC l) ∧ Below w.heap.size w w' := by
 have hw : (w.alloc (.cells #[.slice none 0 0, .slice none 0 0, .slice none 0 0, .slice none 0 0] 36)).heap.size = w.heap.size + 1 := by simp
 obtain ⟨vl, w3, hr, hb, hown⟩ := app_ins (h.below (bel_alloc w (.cells #[.slice none 0 0, .slice none 0 0, .slice none 0 0, .slice none 0 0] 36))) (by omega) 34
 obtain ⟨p, q, rfl⟩ := own_len hown
 rw [hw] at hb hown
 have HSR := fun V hV => small_rows hb hown V hV
 have HR : Hid ((Builtin.append_ #[34, 34] 34 #[.slice none 0 0, v]).run Try.prog (w.alloc (.cells #[.slice none 0 0, .slice none 0 0, .slice none 0 0, .slice none 0 0] 36)) = .ok (.slice p l.length q) w3) := hr
 have HS : Hid (∀ V, V = ((((((w3.alloc (.cells #[.string wName, .int .i64 1, .int .i64 3] 62)).alloc (.cells #[.int .i64 1, .int .i64 0, .int .i64 3, .int .i64 0, .int .i64 2, .int .i64 0] 65)).setCell ⟨w.heap.size, 0, none⟩ (.slice (some ⟨w3.heap.size, 0, none⟩) 1 1)).setCell ⟨w.heap.size, 1, none⟩ (.slice (some ⟨w3.heap.size + 1, 0, none⟩) 3 3)).setCell ⟨w.heap.size, 2, none⟩ (.slice none 0 0)).setCell ⟨w.heap.size, 3, none⟩ (.slice p l.length q)) → Below w.heap.size w V ∧ CdV V (.slice (some ⟨w3.heap.size, 0, none⟩) 1 1) (.slice (some ⟨w3.heap.size + 1, 0, none⟩) 3 3) (.slice none 0 0) (.slice p l.length q) (smallC l) ∧ V.ownsRow w.heap.size 25 7 (.slice p l.length q) l.length (flat inC l)) := HSR
 have hbb := hb.block w.heap.size (by omega)
 have f0 : w3.heap[w.heap.size]? = some (.cells #[.slice none 0 0, .slice none 0 0, .slice none 0 0, .slice none 0 0] 36) := by rw [hbb]; exact heap_alloc_new w _
 have e0 : w3.cell? ⟨w.heap.size, 0, none⟩ = some (.slice none 0 0) := by simp [World.cell?, f0]
 have e1 : w3.cell? ⟨w.heap.size, 1, none⟩ = some (.slice none 0 0) := by simp [World.cell?, f0]
 have e2 : w3.cell? ⟨w.heap.size, 2, none⟩ = some (.slice none 0 0) := by simp [World.cell?, f0]
 have e3 : w3.cell? ⟨w.heap.size, 3, none⟩ = some (.slice none 0 0) := by simp [World.cell?, f0]
 have z0 : w3.frozen? ⟨w.heap.size, 0, none⟩ = false := by simp [World.frozen?, f0]
 have z1 : w3.frozen? ⟨w.heap.size, 1, none⟩ = false := by simp [World.frozen?, f0]
 have z2 : w3.frozen? ⟨w.heap.size, 2, none⟩ = false := by simp [World.frozen?, f0]
 have z3 : w3.frozen? ⟨w.heap.size, 3, none⟩ = false := by simp [World.frozen?, f0]
 have hs3 := hb.size
 rw [hw] at hs3
 have m1 : w.heap.size ≠ w3.heap.size := by omega
 have m2 : w.heap.size ≠ w3.heap.size + 1 := by omega
 have k0 : ((w3.alloc (.cells #[.string ⟨#[119]⟩, .int .i64 1, .int .i64 3] 62)).alloc (.cells #[.int .i64 1, .int .i64 0, .int .i64 3, .int .i64 0, .int .i64 2, .int .i64 0] 65)).cell? ⟨w.heap.size, 0, none⟩ = some (.slice none 0 0) := kc (bel_alloc _ _) (kc (bel_alloc _ _) e0)
 have y0 : ((w3.alloc (.cells #[.string ⟨#[119]⟩, .int .i64 1, .int .i64 3] 62)).alloc (.cells #[.int .i64 1, .int .i64 0, .int .i64 3, .int .i64 0, .int .i64 2, .int .i64 0] 65)).frozen? ⟨w.heap.size, 0, none⟩ = false := kf (bel_alloc _ _) (kc (bel_alloc _ _) e0) (kf (bel_alloc _ _) e0 z0)
 have k1 : ((w3.alloc (.cells #[.string ⟨#[119]⟩, .int .i64 1, .int .i64 3] 62)).alloc (.cells #[.int .i64 1, .int .i64 0, .int .i64 3, .int .i64 0, .int .i64 2, .int .i64 0] 65)).cell? ⟨w.heap.size, 1, none⟩ = some (.slice none 0 0) := kc (bel_alloc _ _) (kc (bel_alloc _ _) e1)
 have y1 : ((w3.alloc (.cells #[.string ⟨#[119]⟩, .int .i64 1, .int .i64 3] 62)).alloc (.cells #[.int .i64 1, .int .i64 0, .int .i64 3, .int .i64 0, .int .i64 2, .int .i64 0] 65)).frozen? ⟨w.heap.size, 1, none⟩ = false := kf (bel_alloc _ _) (kc (bel_alloc _ _) e1) (kf (bel_alloc _ _) e1 z1)
 have k2 : ((w3.alloc (.cells #[.string ⟨#[119]⟩, .int .i64 1, .int .i64 3] 62)).alloc (.cells #[.int .i64 1, .int .i64 0, .int .i64 3, .int .i64 0, .int .i64 2, .int .i64 0] 65)).cell? ⟨w.heap.size, 2, none⟩ = some (.slice none 0 0) := kc (bel_alloc _ _) (kc (bel_alloc _ _) e2)
 have y2 : ((w3.alloc (.cells #[.string ⟨#[119]⟩, .int .i64 1, .int .i64 3] 62)).alloc (.cells #[.int .i64 1, .int .i64 0, .int .i64 3, .int .i64 0, .int .i64 2, .int .i64 0] 65)).frozen? ⟨w.heap.size, 2, none⟩ = false := kf (bel_alloc _ _) (kc (bel_alloc _ _) e2) (kf (bel_alloc _ _) e2 z2)
 have k3 : ((w3.alloc (.cells #[.string ⟨#[119]⟩, .int .i64 1, .int .i64 3] 62)).alloc (.cells #[.int .i64 1, .int .i64 0, .int .i64 3, .int .i64 0, .int .i64 2, .int .i64 0] 65)).cell? ⟨w.heap.size, 3, none⟩ = some (.slice none 0 0) := kc (bel_alloc _ _) (kc (bel_alloc _ _) e3)
 have y3 : ((w3.alloc (.cells #[.string ⟨#[119]⟩, .int .i64 1, .int .i64 3] 62)).alloc (.cells #[.int .i64 1, .int .i64 0, .int .i64 3, .int .i64 0, .int .i64 2, .int .i64 0] 65)).frozen? ⟨w.heap.size, 3, none⟩ = false := kf (bel_alloc _ _) (kc (bel_alloc _ _) e3) (kf (bel_alloc _ _) e3 z3)
 clear hr hb hown HSR h hbb f0
 go_enter Try.func21, Try.ntmps21
 go_wp2_with (at_builtin; refine wpList_app (by rfl) _ _ _ (by rfl) _ _ _ (by rfl) (by rfl) HR.out ?_)
 refine bodyPost_ret (by simp [results, Try.results21, go_sem, *]; try rfl) rfl ?_
 obtain ⟨hb, hc, ho⟩ := HS.out _ rfl
 exact ⟨_, _, _, rfl, hc, ho, hb⟩
end Go.Proofs.Ytkdpchlehoomhaa
namespace Go.Proofs.Ytkdpchlehoomhaa
open Go.RowKit
set_option linter.unusedVariables false
set_option linter.unusedSimpArgs false
abbrev iG : Ins := ⟨29, 1, 0, 0, 0, 0, 0⟩
abbrev iM : Ins := ⟨6, 1, 1, 0, 0, 0, 0⟩
abbrev iH : Ins := ⟨1, 0, 0, 0, 0, 0, 1056964608⟩
abbrev iO : Ins := ⟨31, 0, 1, 0, 0, 0, 0⟩
abbrev iL : Ins := ⟨36, 0, 0, 0, 0, 0, 0⟩
abbrev iX : Ins := ⟨37, 0, 0, 0, 0, 0, 0⟩
theorem chk4 : checkC (smallC [iG, iH, iM, iO]) = (0, 0) := by decide +kernel
theorem chk2 : checkC (smallC [iG, iM]) = (160, 1) := by decide +kernel
theorem chk3 : checkC (smallC [iL, iG, iX]) = (0, 0) := by decide +kernel
theorem row_new {α : Type} {f : α → List Value} {k : Nat} (hf : ∀ x, (f x).length = k) (w : World) (l : List α) (cs : Array Value) (t : TypeId) (n : Nat) (hn : l.length = n) (e : cs = (flat f l).toArray) : RowG k f (w.alloc (.cells cs t)) (.slice (some ⟨w.heap.size, 0, none⟩) n n) l := by
 subst hn
 refine ⟨_, _, rfl, .inr ⟨w.heap.size, 0, rfl, fun i hi j hj => ?_⟩⟩
 have h1 : (w.alloc (.cells cs t)).cell? ⟨w.heap.size, 0 + i * k + j, none⟩ = cs[i * k + j]? := by
  rw [Nat.zero_add]
  have := heap_alloc_new w (.cells cs t)
  simp only [World.cell?, this]
  rfl
 rw [h1, e, List.getElem?_toArray, flat_at hf l i j hi (by rw [← hf l[i]]; exact hj)]
 exact List.getElem?_eq_getElem hj
theorem bits_ok (l : List Ins) (h : (l.all fun i => decide (0 ≤ i.bits) && decide (i.bits < 4294967296)) = true) : ∀ i ∈ l, 0 ≤ i.bits ∧ i.bits < 4294967296 := fun i hi => by
 have := List.all_eq_true.1 h i hi
 simpa using this
set_option maxRecDepth 100000 in
set_option maxHeartbeats 1000000 in
theorem works_any (w : World) : Calls Try.prog 14 #[] w fun e w' => e = .returned (.bool true) ∧ Below w.heap.size w w' := by
 have HS4 : Hid (∀ w : World, Calls Try.prog 21 #[.slice (some ⟨w.heap.size, 0, none⟩) 4 4] (w.alloc (.cells #[.int .i64 29, .int .i64 1, .int .i64 0, .int .i64 0, .int .i64 0, .int .i64 0, .int .u32 0, .int .i64 1, .int .i64 0, .int .i64 0, .int .i64 0, .int .i64 0, .int .i64 0, .int .u32 1056964608, .int .i64 6, .int .i64 1, .int .i64 1, .int .i64 0, .int .i64 0, .int .i64 0, .int .u32 0, .int .i64 31, .int .i64 0, .int .i64 1, .int .i64 0, .int .i64 0, .int .i64 0, .int .u32 0] 25)) fun e w' => ∃ v0 v1 v3, e = .returned (.agg #[v0, v1, .slice none 0 0, v3]) ∧ CdV w' v0 v1 (.slice none 0 0) v3 (smallC [iG, iH, iM, iO]) ∧ Below (w.alloc (.cells #[.int .i64 29, .int .i64 1, .int .i64 0, .int .i64 0, .int .i64 0, .int .i64 0, .int .u32 0, .int .i64 1, .int .i64 0, .int .i64 0, .int .i64 0, .int .i64 0, .int .i64 0, .int .u32 1056964608, .int .i64 6, .int .i64 1, .int .i64 1, .int .i64 0, .int .i64 0, .int .i64 0, .int .u32 0, .int .i64 31, .int .i64 0, .int .i64 1, .int .i64 0, .int .i64 0, .int .i64 0, .int .u32 0] 25)).heap.size (w.alloc (.cells #[.int .i64 29, .int .i64 1, .int .i64 0, .int .i64 0, .int .i64 0, .int .i64 0, .int .u32 0, .int .i64 1, .int .i64 0, .int .i64 0, .int .i64 0, .int .i64 0, .int .i64 0, .int .u32 1056964608, .int .i64 6, .int .i64 1, .int .i64 1, .int .i64 0, .int .i64 0, .int .i64 0, .int .u32 0, .int .i64 31, .int .i64 0, .int .i64 1, .int .i64 0, .int .i64 0, .int .i64 0, .int .u32 0] 25)) w') := fun w => (small_any [iG, iH, iM, iO] (by decide) _ _ (row_new inC_len w [iG, iH, iM, iO] _ 25 4 rfl rfl)).mono fun e w' ⟨v0, v1, v3, h1, h2, _, h4⟩ => ⟨v0, v1, v3, h1, h2, h4⟩
 have HC4 : Hid (∀ w v0 v1 v3, CdV w v0 v1 (.slice none 0 0) v3 (smallC [iG, iH, iM, iO]) → Calls Try.prog 18 #[.agg #[v0, v1, .slice none 0 0, v3]] w fun e w' => e = .returned (.tuple #[.int .i64 0, .int .i64 0]) ∧ Below w.heap.size w w') := fun w v0 v1 v3 h => by
  have := check_any v0 v1 (.slice none 0 0) v3 (smallC [iG, iH, iM, iO]) (smallC_ok (by decide) (bits_ok _ (by decide))) w h
  rw [chk4] at this
  exact this
 have HS2 : Hid (∀ w : World, Calls Try.prog 21 #[.slice (some ⟨w.heap.size, 0, none⟩) 2 2] (w.alloc (.cells #[.int .i64 29, .int .i64 1, .int .i64 0, .int .i64 0, .int .i64 0, .int .i64 0, .int .u32 0, .int .i64 6, .int .i64 1, .int .i64 1, .int .i64 0, .int .i64 0, .int .i64 0, .int .u32 0] 25)) fun e w' => ∃ v0 v1 v3, e = .returned (.agg #[v0, v1, .slice none 0 0, v3]) ∧ CdV w' v0 v1 (.slice none 0 0) v3 (smallC [iG, iM]) ∧ Below (w.alloc (.cells #[.int .i64 29, .int .i64 1, .int .i64 0, .int .i64 0, .int .i64 0, .int .i64 0, .int .u32 0, .int .i64 6, .int .i64 1, .int .i64 1, .int .i64 0, .int .i64 0, .int .i64 0, .int .u32 0] 25)).heap.size (w.alloc (.cells #[.int .i64 29, .int .i64 1, .int .i64 0, .int .i64 0, .int .i64 0, .int .i64 0, .int .u32 0, .int .i64 6, .int .i64 1, .int .i64 1, .int .i64 0, .int .i64 0, .int .i64 0, .int .u32 0] 25)) w') := fun w => (small_any [iG, iM] (by decide) _ _ (row_new inC_len w [iG, iM] _ 25 2 rfl rfl)).mono fun e w' ⟨v0, v1, v3, h1, h2, _, h4⟩ => ⟨v0, v1, v3, h1, h2, h4⟩
 have HC2 : Hid (∀ w v0 v1 v3, CdV w v0 v1 (.slice none 0 0) v3 (smallC [iG, iM]) → Calls Try.prog 18 #[.agg #[v0, v1, .slice none 0 0, v3]] w fun e w' => e = .returned (.tuple #[.int .i64 160, .int .i64 1]) ∧ Below w.heap.size w w') := fun w v0 v1 v3 h => by
  have := check_any v0 v1 (.slice none 0 0) v3 (smallC [iG, iM]) (smallC_ok (by decide) (bits_ok _ (by decide))) w h
  rw [chk2] at this
  exact this
 have HS3 : Hid (∀ w : World, Calls Try.prog 21 #[.slice (some ⟨w.heap.size, 0, none⟩) 3 3] (w.alloc (.cells #[.int .i64 36, .int .i64 0, .int .i64 0, .int .i64 0, .int .i64 0, .int .i64 0, .int .u32 0, .int .i64 29, .int .i64 1, .int .i64 0, .int .i64 0, .int .i64 0, .int .i64 0, .int .u32 0, .int .i64 37, .int .i64 0, .int .i64 0, .int .i64 0, .int .i64 0, .int .i64 0, .int .u32 0] 25)) fun e w' => ∃ v0 v1 v3, e = .returned (.agg #[v0, v1, .slice none 0 0, v3]) ∧ CdV w' v0 v1 (.slice none 0 0) v3 (smallC [iL, iG, iX]) ∧ Below (w.alloc (.cells #[.int .i64 36, .int .i64 0, .int .i64 0, .int .i64 0, .int .i64 0, .int .i64 0, .int .u32 0, .int .i64 29, .int .i64 1, .int .i64 0, .int .i64 0, .int .i64 0, .int .i64 0, .int .u32 0, .int .i64 37, .int .i64 0, .int .i64 0, .int .i64 0, .int .i64 0, .int .i64 0, .int .u32 0] 25)).heap.size (w.alloc (.cells #[.int .i64 36, .int .i64 0, .int .i64 0, .int .i64 0, .int .i64 0, .int .i64 0, .int .u32 0, .int .i64 29, .int .i64 1, .int .i64 0, .int .i64 0, .int .i64 0, .int .i64 0, .int .u32 0, .int .i64 37, .int .i64 0, .int .i64 0, .int .i64 0, .int .i64 0, .int .i64 0, .int .u32 0] 25)) w') := fun w => (small_any [iL, iG, iX] (by decide) _ _ (row_new inC_len w [iL, iG, iX] _ 25 3 rfl rfl)).mono fun e w' ⟨v0, v1, v3, h1, h2, _, h4⟩ => ⟨v0, v1, v3, h1, h2, h4⟩
 have HC3 : Hid (∀ w v0 v1 v3, CdV w v0 v1 (.slice none 0 0) v3 (smallC [iL, iG, iX]) → Calls Try.prog 18 #[.agg #[v0, v1, .slice none 0 0, v3]] w fun e w' => e = .returned (.tuple #[.int .i64 0, .int .i64 0]) ∧ Below w.heap.size w w') := fun w v0 v1 v3 h => by
  have := check_any v0 v1 (.slice none 0 0) v3 (smallC [iL, iG, iX]) (smallC_ok (by decide) (bits_ok _ (by decide))) w h
  rw [chk3] at this
  exact this
 have HT : Hid (∀ w, Calls Try.prog 10 #[.agg #[.int .i64 6, .int .i64 1, .int .i64 1, .int .i64 0, .int .i64 0, .int .i64 0, .int .u32 0]] w fun e w' => e = .returned (.bool true) ∧ Below w.heap.size w w') := fun w => sets_any iM w
 have HR : Hid (∀ w, Calls Try.prog 8 #[.agg #[.int .i64 6, .int .i64 1, .int .i64 1, .int .i64 0, .int .i64 0, .int .i64 0, .int .u32 0]] w fun e w' => ∃ p c, e = .returned (.slice p 2 c) ∧ Below w.heap.size w w') := fun w => (reads_any iM w).mono fun e w' ⟨v, h1, h2, h3⟩ => by
  obtain ⟨p, c, hv⟩ := own_len h2
  exact ⟨p, c, by rw [h1, hv]; rfl, h3⟩
 have HG : Hid (∀ v, Below (((w.alloc (.cells #[.int .i64 29, .int .i64 1, .int .i64 0, .int .i64 0, .int .i64 0, .int .i64 0, .int .u32 0] 25)).alloc (.cells #[.int .i64 6, .int .i64 1, .int .i64 1, .int .i64 0, .int .i64 0, .int .i64 0, .int .u32 0] 25)).alloc (.cells #[.int .i64 1, .int .i64 0, .int .i64 0, .int .i64 0, .int .i64 0, .int .i64 0, .int .u32 1056964608] 25)).heap.size (((w.alloc (.cells #[.int .i64 29, .int .i64 1, .int .i64 0, .int .i64 0, .int .i64 0, .int .i64 0, .int .u32 0] 25)).alloc (.cells #[.int .i64 6, .int .i64 1, .int .i64 1, .int .i64 0, .int .i64 0, .int .i64 0, .int .u32 0] 25)).alloc (.cells #[.int .i64 1, .int .i64 0, .int .i64 0, .int .i64 0, .int .i64 0, .int .i64 0, .int .u32 1056964608] 25)) v → v.cell? ⟨w.heap.size, 0, none⟩ = some (.int .i64 29) ∧ v.cell? ⟨w.heap.size, 1, none⟩ = some (.int .i64 1) ∧ v.cell? ⟨w.heap.size, 2, none⟩ = some (.int .i64 0) ∧ v.cell? ⟨w.heap.size, 3, none⟩ = some (.int .i64 0) ∧ v.cell? ⟨w.heap.size, 4, none⟩ = some (.int .i64 0) ∧ v.cell? ⟨w.heap.size, 5, none⟩ = some (.int .i64 0) ∧ v.cell? ⟨w.heap.size, 6, none⟩ = some (.int .u32 0)) := fun v hv => ⟨kc hv (by simp [go_sem]), kc hv (by simp [go_sem]), kc hv (by simp [go_sem]), kc hv (by simp [go_sem]), kc hv (by simp [go_sem]), kc hv (by simp [go_sem]), kc hv (by simp [go_sem])⟩
 have HM : Hid (∀ v, Below (((w.alloc (.cells #[.int .i64 29, .int .i64 1, .int .i64 0, .int .i64 0, .int .i64 0, .int .i64 0, .int .u32 0] 25)).alloc (.cells #[.int .i64 6, .int .i64 1, .int .i64 1, .int .i64 0, .int .i64 0, .int .i64 0, .int .u32 0] 25)).alloc (.cells #[.int .i64 1, .int .i64 0, .int .i64 0, .int .i64 0, .int .i64 0, .int .i64 0, .int .u32 1056964608] 25)).heap.size (((w.alloc (.cells #[.int .i64 29, .int .i64 1, .int .i64 0, .int .i64 0, .int .i64 0, .int .i64 0, .int .u32 0] 25)).alloc (.cells #[.int .i64 6, .int .i64 1, .int .i64 1, .int .i64 0, .int .i64 0, .int .i64 0, .int .u32 0] 25)).alloc (.cells #[.int .i64 1, .int .i64 0, .int .i64 0, .int .i64 0, .int .i64 0, .int .i64 0, .int .u32 1056964608] 25)) v → v.cell? ⟨w.heap.size + 1, 0, none⟩ = some (.int .i64 6) ∧ v.cell? ⟨w.heap.size + 1, 1, none⟩ = some (.int .i64 1) ∧ v.cell? ⟨w.heap.size + 1, 2, none⟩ = some (.int .i64 1) ∧ v.cell? ⟨w.heap.size + 1, 3, none⟩ = some (.int .i64 0) ∧ v.cell? ⟨w.heap.size + 1, 4, none⟩ = some (.int .i64 0) ∧ v.cell? ⟨w.heap.size + 1, 5, none⟩ = some (.int .i64 0) ∧ v.cell? ⟨w.heap.size + 1, 6, none⟩ = some (.int .u32 0)) := fun v hv => ⟨kc hv (by simp [go_sem]), kc hv (by simp [go_sem]), kc hv (by simp [go_sem]), kc hv (by simp [go_sem]), kc hv (by simp [go_sem]), kc hv (by simp [go_sem]), kc hv (by simp [go_sem])⟩
 have hs3 : (((w.alloc (.cells #[.int .i64 29, .int .i64 1, .int .i64 0, .int .i64 0, .int .i64 0, .int .i64 0, .int .u32 0] 25)).alloc (.cells #[.int .i64 6, .int .i64 1, .int .i64 1, .int .i64 0, .int .i64 0, .int .i64 0, .int .u32 0] 25)).alloc (.cells #[.int .i64 1, .int .i64 0, .int .i64 0, .int .i64 0, .int .i64 0, .int .i64 0, .int .u32 1056964608] 25)).heap.size = w.heap.size + 1 + 1 + 1 := by simp
 have HS6 : Hid (Calls Try.prog 21 #[.slice (some ⟨w.heap.size + 1 + 1 + 1, 0, none⟩) 4 4] ((((w.alloc (.cells #[.int .i64 29, .int .i64 1, .int .i64 0, .int .i64 0, .int .i64 0, .int .i64 0, .int .u32 0] 25)).alloc (.cells #[.int .i64 6, .int .i64 1, .int .i64 1, .int .i64 0, .int .i64 0, .int .i64 0, .int .u32 0] 25)).alloc (.cells #[.int .i64 1, .int .i64 0, .int .i64 0, .int .i64 0, .int .i64 0, .int .i64 0, .int .u32 1056964608] 25)).alloc (.cells #[.int .i64 29, .int .i64 1, .int .i64 0, .int .i64 0, .int .i64 0, .int .i64 0, .int .u32 0, .int .i64 1, .int .i64 0, .int .i64 0, .int .i64 0, .int .i64 0, .int .i64 0, .int .u32 1056964608, .int .i64 6, .int .i64 1, .int .i64 1, .int .i64 0, .int .i64 0, .int .i64 0, .int .u32 0, .int .i64 31, .int .i64 0, .int .i64 1, .int .i64 0, .int .i64 0, .int .i64 0, .int .u32 0] 25)) fun e w' => ∃ v0 v1 v3, e = .returned (.agg #[v0, v1, .slice none 0 0, v3]) ∧ CdV w' v0 v1 (.slice none 0 0) v3 (smallC [iG, iH, iM, iO]) ∧ Below (((w.alloc (.cells #[.int .i64 29, .int .i64 1, .int .i64 0, .int .i64 0, .int .i64 0, .int .i64 0, .int .u32 0] 25)).alloc (.cells #[.int .i64 6, .int .i64 1, .int .i64 1, .int .i64 0, .int .i64 0, .int .i64 0, .int .u32 0] 25)).alloc (.cells #[.int .i64 1, .int .i64 0, .int .i64 0, .int .i64 0, .int .i64 0, .int .i64 0, .int .u32 1056964608] 25)).heap.size (((w.alloc (.cells #[.int .i64 29, .int .i64 1, .int .i64 0, .int .i64 0, .int .i64 0, .int .i64 0, .int .u32 0] 25)).alloc (.cells #[.int .i64 6, .int .i64 1, .int .i64 1, .int .i64 0, .int .i64 0, .int .i64 0, .int .u32 0] 25)).alloc (.cells #[.int .i64 1, .int .i64 0, .int .i64 0, .int .i64 0, .int .i64 0, .int .i64 0, .int .u32 1056964608] 25)) w') := by
  have h5 := HS4.out (((w.alloc (.cells #[.int .i64 29, .int .i64 1, .int .i64 0, .int .i64 0, .int .i64 0, .int .i64 0, .int .u32 0] 25)).alloc (.cells #[.int .i64 6, .int .i64 1, .int .i64 1, .int .i64 0, .int .i64 0, .int .i64 0, .int .u32 0] 25)).alloc (.cells #[.int .i64 1, .int .i64 0, .int .i64 0, .int .i64 0, .int .i64 0, .int .i64 0, .int .u32 1056964608] 25))
  rw [hs3] at h5
  exact h5.mono fun e w' ⟨v0, v1, v3, h1, h2, h4⟩ => ⟨v0, v1, v3, h1, h2, bel (bel_alloc _ _) h4⟩
 clear hs3 HS4
 have HB0 : Hid (Below w.heap.size w (((w.alloc (.cells #[.int .i64 29, .int .i64 1, .int .i64 0, .int .i64 0, .int .i64 0, .int .i64 0, .int .u32 0] 25)).alloc (.cells #[.int .i64 6, .int .i64 1, .int .i64 1, .int .i64 0, .int .i64 0, .int .i64 0, .int .u32 0] 25)).alloc (.cells #[.int .i64 1, .int .i64 0, .int .i64 0, .int .i64 0, .int .i64 0, .int .i64 0, .int .u32 1056964608] 25))) := bel (bel (bel_alloc _ _) (bel_alloc _ _)) (bel_alloc _ _)
 go_enter Try.func14, Try.ntmps14
 go_wp2_with (first
  | (go_at_call 21; (with_reducible refine HS6.out.mono ?_); rintro e w1 ⟨p0, p1, p3, rfl, hc1, hb1⟩; have HD1 : Hid (CdV w1 p0 p1 (.slice none 0 0) p3 (smallC [iG, iH, iM, iO])) := hc1; have HB1 := hb1; clear hc1 hb1)
  | (go_at_call 21; (with_reducible refine (HS2.out _).mono ?_); rintro e w3 ⟨q0, q1, q3, rfl, hc3, hb3⟩; have HD3 : Hid (CdV w3 q0 q1 (.slice none 0 0) q3 (smallC [iG, iM])) := hc3; have HB3 := bel HB2 (bel (bel_alloc _ _) hb3); clear hc3 hb3)
  | (go_at_call 21; (with_reducible refine (HS3.out _).mono ?_); rintro e w5 ⟨r0, r1, r3, rfl, hc5, hb5⟩; have HD5 : Hid (CdV w5 r0 r1 (.slice none 0 0) r3 (smallC [iL, iG, iX])) := hc5; have HB5 := bel HB4 (bel (bel_alloc _ _) hb5); clear hc5 hb5)
  | (go_at_call 18; (with_reducible refine (HC4.out _ _ _ _ HD1.out).mono ?_); rintro e w2 ⟨rfl, hb2⟩; have HB2 := bel HB1 hb2; obtain ⟨a0, a1, a2, a3, a4, a5, a6⟩ := HG.out w2 HB2; obtain ⟨b0, b1, b2, b3, b4, b5, b6⟩ := HM.out w2 HB2; clear HD1 hb2)
  | (go_at_call 18; (with_reducible refine (HC2.out _ _ _ _ HD3.out).mono ?_); rintro e w4 ⟨rfl, hb4⟩; have HB4 := bel HB3 hb4; obtain ⟨c0, c1, c2, c3, c4, c5, c6⟩ := HG.out w4 HB4; clear HD3 hb4)
  | (go_at_call 18; (with_reducible refine (HC3.out _ _ _ _ HD5.out).mono ?_); rintro e w6 ⟨rfl, hb6⟩; have HB6 := bel HB5 hb6; obtain ⟨d0, d1, d2, d3, d4, d5, d6⟩ := HM.out w6 HB6; clear HD5 hb6)
  | (go_at_call 10; (with_reducible refine (HT.out _).mono ?_); rintro e w7 ⟨rfl, hb7⟩; have HB7 := bel HB6 hb7; obtain ⟨f0, f1, f2, f3, f4, f5, f6⟩ := HM.out w7 HB7; clear hb7)
  | (go_at_call 8; (with_reducible refine (HR.out _).mono ?_); rintro e w8 ⟨pp, cc, rfl, hb8⟩; have HB8 := bel HB7 hb8; clear hb8))
 go_ret
 exact ⟨rfl, bel HB0.out HB8⟩
end Go.Proofs.Ytkdpchlehoomhaa
namespace Go.Proofs.Ytkdpchlehoomhaa
open Go.RowKit
set_option linter.unusedVariables false
set_option linter.unusedSimpArgs false
def setsP (i : Ins) : Bool := (rowP i.op).d != 0
theorem u8ne (a : UInt8) (X : Bool) (h : (a == 45) = X) : ((a.toNat : Int) != 45) = !X := by
 rw [← h]
 have : ((a.toNat : Int) == 45) = (a == 45) := by
  rw [Bool.eq_iff_iff]
  simp only [beq_iff_eq]
  constructor
  ·intro e
   apply UInt8.toNat_inj.1
   show a.toNat = 45
   omega
  ·intro e; subst e; rfl
 simp [bne, this]
set_option maxRecDepth 100000 in
set_option maxHeartbeats 2000000 in
theorem rsets_any (i : Ins) (w : World) : Calls Try.prog 11 #[insV i] w fun e w' => e = .returned (.bool (setsP i)) ∧ Below w.heap.size w w' := by
 unfold setsP
 rcases rrow_any i.op (w.alloc (.cells #[.int .i64 i.op, .int .i64 i.d, .int .i64 i.a, .int .i64 i.b, .int .i64 i.c, .int .i64 i.n, .int .u32 i.bits] 25)) with ⟨hk, hc⟩ | ⟨hk, a, b, c, d, e, ht, hc⟩
 ·rw [row_none i.op hk]
  obtain ⟨op, D, A, B, E, n, bt⟩ := i
  unfold insV
  simp only at hc hk ⊢
  have HK : Hid (Calls Try.prog 25 #[.int .i64 op] (w.alloc (.cells #[.int .i64 op, .int .i64 D, .int .i64 A, .int .i64 B, .int .i64 E, .int .i64 n, .int .u32 bt] 25)) fun e w' => e = .returned (.tuple #[.string ⟨#[]⟩, .bool false]) ∧ w' = w.alloc (.cells #[.int .i64 op, .int .i64 D, .int .i64 A, .int .i64 B, .int .i64 E, .int .i64 n, .int .u32 bt] 25)) := hc
  clear hc
  go_enter Try.func11, Try.ntmps11
  go_wp2_with (go_at_call 25; refine HK.out.mono ?_; rintro e w1 ⟨rfl, rfl⟩)
  go_ret
  exact ⟨rfl, bel_alloc _ _⟩
 ·have h1 := u8ne a _ ht.a
  obtain ⟨X, hX⟩ : ∃ X, (rowP i.op).d = X := ⟨_, rfl⟩
  rw [hX] at h1 ⊢
  obtain ⟨op, D, A, B, E, n, bt⟩ := i
  unfold insV
  simp only at hc ⊢
  have HK : Hid (∀ w, Calls Try.prog 25 #[.int .i64 op] w fun x w' => x = .returned (.tuple #[.string ⟨#[a, b, c, d, e]⟩, .bool true]) ∧ w' = w) := hc
  have ix : ∀ w, (Instr.index 9 (.string ⟨#[a, b, c, d, e]⟩) (.int .i64 0)).run Try.prog w = .ok (.int .u8 (a.toNat : Int)) w := fun w => by simp [Instr.index, run_underlying Try.underlying9, asIntOf, go_sem]; rfl
  clear hc ht hX
  go_enter Try.func11, Try.ntmps11
  go_wp2_with (go_at_call 25; refine (HK.out _).mono ?_; rintro e w1 ⟨rfl, rfl⟩)
  go_ret
  refine ⟨ret_bool ?_, bel_alloc _ _⟩
  first | exact h1 | (simp only [h1]; rfl) | simp [h1, bne]
structure RRd (w : World) (C Q : Nat) (A B E : Int) (v : World) : Prop where
 bel : Below w.heap.size w v
 hC : w.heap.size ≤ C
 hQ : Q < C
 le : C ≤ v.heap.size
 g0 : v.cell? ⟨Q, 0, none⟩ = some (.int .i64 A)
 g1 : v.cell? ⟨Q, 1, none⟩ = some (.int .i64 B)
 g2 : v.cell? ⟨Q, 2, none⟩ = some (.int .i64 E)
theorem RRd.next {w : World} {C Q : Nat} {A B E : Int} {v v' : World} (h : RRd w C Q A B E v) (k : Below C v v') : RRd w C Q A B E v' := by
 have c1 : ∀ {a : Addr} {u : Value}, a.block < C → v.cell? a = some u → v'.cell? a = some u := fun ha hu => (k.cell ha).trans hu
 exact ⟨h.bel.trans (k.mono h.hC), h.hC, h.hQ, Nat.le_trans h.le k.size, c1 h.hQ h.g0, c1 h.hQ h.g1, c1 h.hQ h.g2⟩
set_option maxRecDepth 100000 in
set_option maxHeartbeats 4000000 in
theorem rreads_any (i : Ins) (w : World) : Calls Try.prog 9 #[insV i] w fun e w' => ∃ v, e = .returned v ∧ w'.ownsRow w.heap.size 3 1 v (readsP i (rowP i.op)).length (i64s (readsP i (rowP i.op))) ∧ Below w.heap.size w w' := by
 rcases rrow_any i.op (w.alloc (.cells #[.int .i64 i.op, .int .i64 i.d, .int .i64 i.a, .int .i64 i.b, .int .i64 i.c, .int .i64 i.n, .int .u32 i.bits] 25)) with ⟨hk, hc⟩ | ⟨hk, a, b, c, d, e, ht, hc⟩
 ·rw [row_none i.op hk, show readsP i ⟨0, 0, 0, 0, 0⟩ = [] from rfl]
  obtain ⟨op, D, A, B, E, n, bt⟩ := i
  unfold insV
  simp only at hc hk ⊢
  have HK : Hid (Calls Try.prog 25 #[.int .i64 op] (w.alloc (.cells #[.int .i64 op, .int .i64 D, .int .i64 A, .int .i64 B, .int .i64 E, .int .i64 n, .int .u32 bt] 25)) fun e w' => e = .returned (.tuple #[.string ⟨#[]⟩, .bool false]) ∧ w' = w.alloc (.cells #[.int .i64 op, .int .i64 D, .int .i64 A, .int .i64 B, .int .i64 E, .int .i64 n, .int .u32 bt] 25)) := hc
  clear hc
  go_enter Try.func9, Try.ntmps9
  go_wp2_with (go_at_call 25; refine HK.out.mono ?_; rintro e w1 ⟨rfl, rfl⟩)
  go_loopw [3, 7] (fun lv iv wr => lv = .slice none 0 0 ∧ iv = .int .i64 0 ∧ Below w.heap.size w wr) (fun _ iv _ => 0)
  case atStart => exact ⟨rfl, rfl, bel (bel_alloc _ _) (bel_alloc _ _)⟩
  case round =>
   obtain ⟨rfl, rfl, hb⟩ := hrel
   go_wp2
   go_ret
   exact ⟨_, rfl, World.ownsRow_nil _ _ _ 1, hb⟩
 ·rw [reads_eq]
  have h1 := u8ne b _ ht.b
  have h2 := u8ne c _ ht.c
  have h3 := u8ne d _ ht.d
  obtain ⟨i0, hi0, hz0, hz1, hz3⟩ := info_parts info_Int
  obtain ⟨r, hr⟩ : ∃ r, rowP i.op = r := ⟨_, rfl⟩
  rw [hr] at h1 h2 h3 ⊢
  obtain ⟨L0, L1, L2, L3, L4⟩ := r
  obtain ⟨op, D, A, B, E, n, bt⟩ := i
  unfold insV
  simp only at hc h1 h2 h3 ⊢
  obtain ⟨R, hR⟩ : ∃ R, (rd1 L1 A ++ rd1 L2 B) ++ rd1 L3 E = R := ⟨_, rfl⟩
  rw [hR]
  have HR : Hid ((rd1 L1 A ++ rd1 L2 B) ++ rd1 L3 E = R) := hR
  have HK : Hid (∀ w, Calls Try.prog 25 #[.int .i64 op] w fun x w' => x = .returned (.tuple #[.string ⟨#[a, b, c, d, e]⟩, .bool true]) ∧ w' = w) := hc
  clear hc ht hr hR hk
  go_enter Try.func9, Try.ntmps9
  go_wp2_with (go_at_call 25; refine (HK.out _).mono ?_; rintro e w1 ⟨rfl, rfl⟩)
  have HF1 : Hid (RRd w (w.heap.size + 1 + 1) (w.heap.size + 1) A B E ((w.alloc (.cells #[.int .i64 op, .int .i64 D, .int .i64 A, .int .i64 B, .int .i64 E, .int .i64 n, .int .u32 bt] 25)).alloc (.cells #[.int .i64 A, .int .i64 B, .int .i64 E] 3))) :=
   ⟨bel (bel_alloc _ _) (bel_alloc _ _), by omega, by omega, by simp, by simp [go_sem], by simp [go_sem], by simp [go_sem]⟩
  obtain ⟨W, hW⟩ : ∃ W, (w.alloc (.cells #[.int .i64 op, .int .i64 D, .int .i64 A, .int .i64 B, .int .i64 E, .int .i64 n, .int .u32 bt] 25)).alloc (.cells #[.int .i64 A, .int .i64 B, .int .i64 E] 3) = W := ⟨_, rfl⟩
  rw [hW] at HF1 ⊢
  obtain ⟨Q, hQ⟩ : ∃ Q, w.heap.size + 1 = Q := ⟨_, rfl⟩
  rw [hQ] at HF1
  try rw [hQ]
  clear hW
  go_loopw [3, 7] (fun lv iv wr => RRd w (Q + 1) Q A B E wr ∧ ∃ (j : Nat) (l : List Int), j ≤ 3 ∧ iv = .int .i64 j ∧ l.length ≤ j ∧ Hid (wr.ownsRow (Q + 1) 3 1 lv l.length (i64s l)) ∧ Hid ((j = 0 → l = []) ∧ (j = 1 → l = rd1 L1 A) ∧ (j = 2 → l = rd1 L1 A ++ rd1 L2 B) ∧ (j = 3 → l = (rd1 L1 A ++ rd1 L2 B) ++ rd1 L3 E))) (fun _ iv _ => 3 - (intOf iv).toNat)
  case atStart => exact ⟨HF1.out, 0, [], by omega, rfl, by simp, World.ownsRow_nil _ _ _ 1, ⟨fun _ => rfl, fun h => absurd h (by omega), fun h => absurd h (by omega), fun h => absurd h (by omega)⟩⟩
  case round =>
   clear HF1 HK
   obtain ⟨hF, j, l, hj, rfl, hll, HO, HL⟩ := hrel
   have HF : Hid (RRd w (Q + 1) Q A B E wr) := hF
   have hGw := hF.le
   have hn1 : Q ≠ wr.heap.size := by omega
   obtain rfl | rfl | rfl | rfl : j = 0 ∨ j = 1 ∨ j = 2 ∨ j = 3 := by omega
   ·have g0 := hF.g0
    have f0 := kc (bel_alloc wr (.cells #[.int .i64 A] 3)) g0
    have hl0 := HL.out.1 rfl
    have ix : ∀ w, (Instr.index 9 (.string ⟨#[a, b, c, d, e]⟩) (.int .i64 1)).run Try.prog w = .ok (.int .u8 (b.toNat : Int)) w := fun w => by simp [Instr.index, run_underlying Try.underlying9, asIntOf, go_sem]; rfl
    have hq := h1
    clear hF h1 h2 h3
    by_cases hz : L1 = 0
    ·have hz' : (!(L1 == 0)) = false := by simp [hz]
     rw [hz'] at hq
     have hq2 : ((b.toNat : Int) == 45) = true := by simpa [bne] using hq
     have HZ : Hid (L1 = 0) := hz
     clear hz
     go_wp2
     go_roundw
     case rel => exact ⟨HF.out, 1, l, by omega, by first | rfl | go_num, by omega, HO, ⟨fun h => absurd h (by omega), fun _ => by rw [hl0]; unfold rd1; simp [HZ.out], fun h => absurd h (by omega), fun h => absurd h (by omega)⟩⟩
     case measure => simp [intOf]
    ·have hz' : (!(L1 == 0)) = true := by simp [hz]
     rw [hz'] at hq
     have hq2 : ((b.toNat : Int) == 45) = false := by simpa [bne] using hq
     have HZ : Hid (¬ L1 = 0) := hz
     clear hz
     go_wp2_with (first
      | (at_builtin; refine wpList_append_own_at _ rfl _ _ 26 rfl (Q + 1) 3 i0 _ 1 8 Try.underlying26 hi0 hz0 hz1 hz3 rfl (by decide) _ l.length (i64s l) rfl (World.ownsRow.alloc HO.out _) ⟨wr.heap.size, 0, none⟩ 1 1 [.int .i64 A] rfl rfl (World.news_of_block (cs := #[.int .i64 A]) (t := 3) (fr := (0, 0)) (heap_alloc_new wr _)) (by simp [Value.oneCell']) (by unfold maxLen; omega) (by omega) (by simp; omega) ?_; intro v' w3 hown3 hgrow hnil hat; have HO3 : Hid (w3.ownsRow (Q + 1) 3 1 v' (l.length + 1) (i64s l ++ [.int .i64 A])) := hown3; have HB3 : Hid (Below (Q + 1) wr w3) := (Below.alloc (Below.refl _ _) hGw _).grown hgrow (by simp; omega) (fun q e => (HO.out.lt q e).1); clear hown3 hgrow hnil hat))
     go_roundw
     case rel => exact ⟨HF.out.next HB3.out, 1, l ++ [A], by omega, by first | rfl | go_num, by simp; omega, by show _; rw [List.length_append, i64s_snoc]; exact HO3.out, ⟨fun h => absurd h (by omega), fun _ => by rw [hl0, show rd1 L1 A = [A] from if_neg HZ.out]; try rfl, fun h => absurd h (by omega), fun h => absurd h (by omega)⟩⟩
     case measure => simp [intOf]
   ·have g0 := hF.g1
    have f0 := kc (bel_alloc wr (.cells #[.int .i64 B] 3)) g0
    have hl0 := HL.out.2.1 rfl
    have ix : ∀ w, (Instr.index 9 (.string ⟨#[a, b, c, d, e]⟩) (.int .i64 2)).run Try.prog w = .ok (.int .u8 (c.toNat : Int)) w := fun w => by simp [Instr.index, run_underlying Try.underlying9, asIntOf, go_sem]; rfl
    have hq := h2
    clear hF h1 h2 h3
    by_cases hz : L2 = 0
    ·have hz' : (!(L2 == 0)) = false := by simp [hz]
     rw [hz'] at hq
     have hq2 : ((c.toNat : Int) == 45) = true := by simpa [bne] using hq
     have HZ : Hid (L2 = 0) := hz
     clear hz
     go_wp2
     go_roundw
     case rel => exact ⟨HF.out, 2, l, by omega, by first | rfl | go_num, by omega, HO, ⟨fun h => absurd h (by omega), fun h => absurd h (by omega), fun _ => by rw [hl0]; unfold rd1; simp [HZ.out], fun h => absurd h (by omega)⟩⟩
     case measure => simp [intOf]
    ·have hz' : (!(L2 == 0)) = true := by simp [hz]
     rw [hz'] at hq
     have hq2 : ((c.toNat : Int) == 45) = false := by simpa [bne] using hq
     have HZ : Hid (¬ L2 = 0) := hz
     clear hz
     go_wp2_with (first
      | (at_builtin; refine wpList_append_own_at _ rfl _ _ 26 rfl (Q + 1) 3 i0 _ 1 8 Try.underlying26 hi0 hz0 hz1 hz3 rfl (by decide) _ l.length (i64s l) rfl (World.ownsRow.alloc HO.out _) ⟨wr.heap.size, 0, none⟩ 1 1 [.int .i64 B] rfl rfl (World.news_of_block (cs := #[.int .i64 B]) (t := 3) (fr := (0, 0)) (heap_alloc_new wr _)) (by simp [Value.oneCell']) (by unfold maxLen; omega) (by omega) (by simp; omega) ?_; intro v' w3 hown3 hgrow hnil hat; have HO3 : Hid (w3.ownsRow (Q + 1) 3 1 v' (l.length + 1) (i64s l ++ [.int .i64 B])) := hown3; have HB3 : Hid (Below (Q + 1) wr w3) := (Below.alloc (Below.refl _ _) hGw _).grown hgrow (by simp; omega) (fun q e => (HO.out.lt q e).1); clear hown3 hgrow hnil hat))
     go_roundw
     case rel => exact ⟨HF.out.next HB3.out, 2, l ++ [B], by omega, by first | rfl | go_num, by simp; omega, by show _; rw [List.length_append, i64s_snoc]; exact HO3.out, ⟨fun h => absurd h (by omega), fun h => absurd h (by omega), fun _ => by rw [hl0, show rd1 L2 B = [B] from if_neg HZ.out]; try rfl, fun h => absurd h (by omega)⟩⟩
     case measure => simp [intOf]
   ·have g0 := hF.g2
    have f0 := kc (bel_alloc wr (.cells #[.int .i64 E] 3)) g0
    have hl0 := HL.out.2.2.1 rfl
    have ix : ∀ w, (Instr.index 9 (.string ⟨#[a, b, c, d, e]⟩) (.int .i64 3)).run Try.prog w = .ok (.int .u8 (d.toNat : Int)) w := fun w => by simp [Instr.index, run_underlying Try.underlying9, asIntOf, go_sem]; rfl
    have hq := h3
    clear hF h1 h2 h3
    by_cases hz : L3 = 0
    ·have hz' : (!(L3 == 0)) = false := by simp [hz]
     rw [hz'] at hq
     have hq2 : ((d.toNat : Int) == 45) = true := by simpa [bne] using hq
     have HZ : Hid (L3 = 0) := hz
     clear hz
     go_wp2
     go_roundw
     case rel => exact ⟨HF.out, 3, l, by omega, by first | rfl | go_num, by omega, HO, ⟨fun h => absurd h (by omega), fun h => absurd h (by omega), fun h => absurd h (by omega), fun _ => by rw [hl0]; unfold rd1; simp [HZ.out]⟩⟩
     case measure => simp [intOf]
    ·have hz' : (!(L3 == 0)) = true := by simp [hz]
     rw [hz'] at hq
     have hq2 : ((d.toNat : Int) == 45) = false := by simpa [bne] using hq
     have HZ : Hid (¬ L3 = 0) := hz
     clear hz
     go_wp2_with (first
      | (at_builtin; refine wpList_append_own_at _ rfl _ _ 26 rfl (Q + 1) 3 i0 _ 1 8 Try.underlying26 hi0 hz0 hz1 hz3 rfl (by decide) _ l.length (i64s l) rfl (World.ownsRow.alloc HO.out _) ⟨wr.heap.size, 0, none⟩ 1 1 [.int .i64 E] rfl rfl (World.news_of_block (cs := #[.int .i64 E]) (t := 3) (fr := (0, 0)) (heap_alloc_new wr _)) (by simp [Value.oneCell']) (by unfold maxLen; omega) (by omega) (by simp; omega) ?_; intro v' w3 hown3 hgrow hnil hat; have HO3 : Hid (w3.ownsRow (Q + 1) 3 1 v' (l.length + 1) (i64s l ++ [.int .i64 E])) := hown3; have HB3 : Hid (Below (Q + 1) wr w3) := (Below.alloc (Below.refl _ _) hGw _).grown hgrow (by simp; omega) (fun q e => (HO.out.lt q e).1); clear hown3 hgrow hnil hat))
     go_roundw
     case rel => exact ⟨HF.out.next HB3.out, 3, l ++ [E], by omega, by first | rfl | go_num, by simp; omega, by show _; rw [List.length_append, i64s_snoc]; exact HO3.out, ⟨fun h => absurd h (by omega), fun h => absurd h (by omega), fun h => absurd h (by omega), fun _ => by rw [hl0, show rd1 L3 E = [E] from if_neg HZ.out]; try rfl⟩⟩
     case measure => simp [intOf]
   ·have hl0 := HL.out.2.2.2 rfl
    clear hF
    go_wp2
    go_ret
    refine ⟨_, rfl, ?_, HF.out.bel⟩
    rw [← HR.out, ← hl0]
    exact own_mono HO.out (by have := HF.out.hC; omega)
end Go.Proofs.Ytkdpchlehoomhaa
namespace Go.Proofs.Ytkdpchlehoomhaa
open Go.RowKit
set_option linter.unusedVariables false
set_option linter.unusedSimpArgs false
instance : DecidableEq Par := fun a b => by
 cases a; cases b
 simp only [Par.mk.injEq]
 exact inferInstanceAs (Decidable (_ ∧ _ ∧ _))
end Go.Proofs.Ytkdpchlehoomhaa
namespace Go.Proofs.Ytkdpchlehoomhaa
open Go.RowKit
set_option linter.unusedVariables false
set_option linter.unusedSimpArgs false
end Go.Proofs.Ytkdpchlehoomhaa
