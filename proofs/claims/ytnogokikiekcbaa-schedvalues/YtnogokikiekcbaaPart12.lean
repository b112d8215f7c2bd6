import Derived.Test.YtnogokikiekcbaaPart11
/- The statements' own twin. (tool/layer14/gentwin.py) -/
namespace Go.Proofs.Ytnogokikiekcbaa
open Go.RowKit
set_option linter.unusedVariables false
set_option linter.unusedSimpArgs false

theorem OwnB.form {w : World} {g : Nat} {e : TypeId} {k : IntKind} {v : Value} {l : List Int} (h : OwnB w g e k v l) : ∃ p n c, v = .slice p n c := by
  rcases h with ⟨-, h⟩ | ⟨_, _, _, h, _⟩
  · exact ⟨_, _, _, h⟩
  · exact ⟨_, _, _, h⟩
theorem kid_svp {wr w3 : World} {C : Nat} {ov : Value} {l : List Sc} {R : List Ent4} {Y : Sc} {a3 c3 d3 : Value} {g3 : Nat} (hr : RowK wr C ov l R) (hC : C ≤ wr.heap.size) (hb : Below wr.heap.size wr w3) (hg : wr.drew.heap.size ≤ g3) (ho : OwnB w3 g3 31 .u32 a3 Y.nums)
    (hi : RowP (blk wr.drew.heap.size w3.heap.size (some g3)) w3 .i64 c3 Y.ints) (hk : SKp (blk wr.drew.heap.size w3.heap.size (some g3)) w3 d3 Y.kids) : SVp (blk C w3.heap.size ov.ownBlock) w3 Y a3 c3 d3 := by
  have hro : ∀ k, ov.ownBlock = some k → k < wr.heap.size := fun k hk => (hr.2.1.lt k hk).2
  have hsz : wr.drew.heap.size = wr.heap.size := rfl
  rw [hsz] at hg
  have key : ∀ b, blk wr.drew.heap.size w3.heap.size (some g3) b → blk C w3.heap.size ov.ownBlock b := fun b hb => by
    have h1 := hb.1
    rw [hsz] at h1
    exact ⟨by omega, hb.2.1, fun e => by have := hro b e.symm; omega⟩
  exact ⟨ho.rowP fun hl => ⟨by omega, ho.lt hl, fun e => by have := hro g3 e.symm; omega⟩, hi.to (fun _ _ => rfl) key, hk.to (fun _ _ => rfl) key⟩
theorem one4 {P : Nat → Prop} {w : World} {Y : Sc} {a b c : Value} (h : SVp P w Y a b c) : ∀ u ∈ [Value.int .i64 Y.op, a, b, c], u.oneCell' = true := by
  obtain ⟨p1, c1, rfl, -⟩ := h.nums
  obtain ⟨p2, c2, rfl, -⟩ := h.ints
  obtain ⟨p3, c3, rfl, -⟩ := h.kids
  simp [Value.oneCell']
theorem set_box3 {w : World} {T : Nat} {x0 x1 x2 x3 : Value} {t : TypeId} (h : w.heap[T]? = some (.cells #[x0, x1, x2, x3] t)) (v : Value) : (w.setCell ⟨T, 3, none⟩ v).heap[T]? = some (.cells #[x0, x1, x2, v] t) := by
  simp [World.setCell, Array.getElem?_modify, h]
theorem set_box1 {w : World} {T : Nat} {x0 x1 x2 x3 : Value} {t : TypeId} (h : w.heap[T]? = some (.cells #[x0, x1, x2, x3] t)) (v : Value) : (w.setCell ⟨T, 1, none⟩ v).heap[T]? = some (.cells #[x0, v, x2, x3] t) := by
  simp [World.setCell, Array.getElem?_modify, h]
theorem set_box2 {w : World} {T : Nat} {x0 x1 x2 x3 : Value} {t : TypeId} (h : w.heap[T]? = some (.cells #[x0, x1, x2, x3] t)) (v : Value) : (w.setCell ⟨T, 2, none⟩ v).heap[T]? = some (.cells #[x0, x1, v, x3] t) := by
  simp [World.setCell, Array.getElem?_modify, h]
theorem RowK.set {w : World} {C T : Nat} {v : Value} {l : List Sc} {R : List Ent4} (h : RowK w C v l R) (hT : T < C) (i : Nat) (x : Value) : RowK (w.setCell ⟨T, i, none⟩ x) C v l R := by
  have hh : ∀ b, b ≠ T → (w.setCell ⟨T, i, none⟩ x).heap[b]? = w.heap[b]? := fun b hb => Below.heap_setCell _ _ _ _ (by exact hb)
  have hs : (w.setCell ⟨T, i, none⟩ x).heap.size = w.heap.size := by simp [World.setCell]
  refine ⟨h.1, ?_, fun r hr => (h.2.2 r hr).to (fun b hb => hh b (by have := hb.1; omega)) (fun b hb => ⟨hb.1, by rw [hs]; exact hb.2.1, hb.2.2⟩)⟩
  refine ⟨h.2.1.1, h.2.1.2.imp id ?_⟩
  rintro ⟨g, cap, cur, hv, hB, hg, hr⟩
  exact ⟨g, cap, cur, hv, hB, by rw [hh g (by omega)]; exact hg, hr⟩
theorem four {w : World} {G : Nat} {x0 x1 x2 x3 : Value} {t : TypeId} (h : w.heap[G]? = some (.cells #[x0, x1, x2, x3] t)) : (w.cell? ⟨G, 0, none⟩ = some x0 ∧ w.cell? ⟨G, 1, none⟩ = some x1 ∧ w.cell? ⟨G, 2, none⟩ = some x2 ∧ w.cell? ⟨G, 3, none⟩ = some x3) ∧ w.frozen? ⟨G, 0, none⟩ = false ∧ w.frozen? ⟨G, 1, none⟩ = false ∧ w.frozen? ⟨G, 2, none⟩ = false ∧ w.frozen? ⟨G, 3, none⟩ = false := by
  simp [World.cell?, World.frozen?, h]

def TwinA (t : Sc) : Prop := ∀ (a c d : Value) (w : World), scnt t ≤ 9000 → sok t → SV w t a c d →
  Calls Try.prog 11 #[.agg #[.int .i64 t.op, a, c, d]] w fun e w' => ∃ g a' c' d', e = .returned (.agg #[.int .i64 t.op, a', c', d']) ∧ w.heap.size ≤ g ∧ g < w'.heap.size ∧ OwnB w' g 31 .u32 a' t.nums ∧ RowP (blk w.heap.size w'.heap.size (some g)) w' .i64 c' t.ints ∧ SKp (blk w.heap.size w'.heap.size (some g)) w' d' t.kids ∧ Below w.heap.size w w'
theorem scntL_len : ∀ l : List Sc, l.length ≤ scntL l
  | [] => Nat.zero_le _
  | t :: r => by rw [scntL_cons, List.length_cons]; have := scntL_len r; unfold scnt; omega
theorem scnt_get {l : List Sc} {j : Nat} (h : j < l.length) : scnt l[j] ≤ scntL l := by
  have h1 := scntL_take h
  have h2 := scntL_take_le l (j + 1)
  omega
set_option maxRecDepth 100000 in
set_option maxHeartbeats 8000000 in
theorem twin_to : ∀ t, TwinA t := by
  apply stree
  intro t ih a c d w hcn hok hS
  have HIH : Hid (∀ k ∈ t.kids, TwinA k) := ih
  have HOK : Hid (sok t ∧ scnt t ≤ 9000) := ⟨hok, hcn⟩
  have hlen : t.kids.length ≤ 9000 := by have := scntL_len t.kids; unfold scnt at hcn; omega
  obtain ⟨i0, hi0, hz0, hz1, hz2⟩ := info_parts info_Sched
  obtain ⟨i1, hi1, hz1a, hz1b, hz1c⟩ := info_parts info_F
  obtain ⟨i2, hi2, hz2a, hz2b, hz2c⟩ := info_parts info_I8
  obtain ⟨pk, ck, rfl, hk⟩ := hS.kids
  have HK : Hid (t.kids = [] ∨ ∃ b o, pk = some ⟨b, o, none⟩ ∧ SL w b o t.kids) := hk
  obtain ⟨n, hn⟩ : ∃ n, t.kids.length = n := ⟨_, rfl⟩
  have HN : Hid (t.kids.length = n) := hn
  rw [hn] at hlen ⊢
  obtain ⟨X, hX⟩ : ∃ X, ((w.alloc (.cells #[.int .i64 t.op, a, c, .slice pk n ck] 26)).alloc (.cells #[.int .i64 0, .slice none 0 0, .slice none 0 0, .slice none 0 0] 26)).alloc (.cells #[.int .i64 t.op, .slice none 0 0, .slice none 0 0, .slice none 0 0] 26) = X := ⟨_, rfl⟩
  have hB3 : Below w.heap.size w X := by rw [← hX]; exact bel (bel (bel_alloc _ _) (bel_alloc _ _)) (bel_alloc _ _)
  have hs3 : X.heap.size = w.heap.size + 1 + 1 + 1 := by rw [← hX]; simp
  have hx0 : X.heap[w.heap.size]? = some (.cells #[.int .i64 t.op, a, c, .slice pk n ck] 26) := by
    rw [← hX, Below.heap_alloc _ _ _ (by simp; omega), Below.heap_alloc _ _ _ (by simp)]
    exact box_heap _ _
  have hx1 : X.heap[w.heap.size + 1]? = some (.cells #[.int .i64 0, .slice none 0 0, .slice none 0 0, .slice none 0 0] 26) := by
    rw [← hX, Below.heap_alloc _ _ _ (by simp)]
    have := box_heap (w.alloc (.cells #[.int .i64 t.op, a, c, .slice pk n ck] 26)) (.cells #[.int .i64 0, .slice none 0 0, .slice none 0 0, .slice none 0 0] 26)
    rwa [show (w.alloc (.cells #[.int .i64 t.op, a, c, .slice pk n ck] 26)).heap.size = w.heap.size + 1 by simp] at this
  have hx2 : X.heap[w.heap.size + 1 + 1]? = some (.cells #[.int .i64 t.op, .slice none 0 0, .slice none 0 0, .slice none 0 0] 26) := by
    rw [← hX]
    have := box_heap ((w.alloc (.cells #[.int .i64 t.op, a, c, .slice pk n ck] 26)).alloc (.cells #[.int .i64 0, .slice none 0 0, .slice none 0 0, .slice none 0 0] 26)) (.cells #[.int .i64 t.op, .slice none 0 0, .slice none 0 0, .slice none 0 0] 26)
    rwa [show ((w.alloc (.cells #[.int .i64 t.op, a, c, .slice pk n ck] 26)).alloc (.cells #[.int .i64 0, .slice none 0 0, .slice none 0 0, .slice none 0 0] 26)).heap.size = w.heap.size + 1 + 1 by simp] at this
  obtain ⟨a', W4, hr1, hb4, ho1⟩ := app_row Try.underlying22 hi1 hz1a hz1b hz1c rfl (hS.nums.below hB3) (by unfold maxLen; have := hok.1.2.2.2.1; omega) (by have := hok.1.2.2.2.1; omega) 22
  obtain ⟨pa, na, ca, rfl⟩ : ∃ p n c, a' = .slice p n c := ho1.form
  have h40 := (hb4.block _ (hlt hx0)).trans hx0
  have h41 := (hb4.block _ (hlt hx1)).trans hx1
  have h42 := (hb4.block _ (hlt hx2)).trans hx2
  obtain ⟨V4, hV4⟩ : ∃ V, W4.setCell ⟨w.heap.size + 1 + 1, 1, none⟩ (.slice pa na ca) = V := ⟨_, rfl⟩
  have hv4 : ∀ b, b ≠ w.heap.size + 1 + 1 → V4.heap[b]? = W4.heap[b]? := fun b hb => by rw [← hV4]; exact Below.heap_setCell _ _ _ _ (by exact hb)
  have hv42 : V4.heap[w.heap.size + 1 + 1]? = some (.cells #[.int .i64 t.op, (.slice pa na ca), .slice none 0 0, .slice none 0 0] 26) := by rw [← hV4]; exact set_box1 h42 (.slice pa na ca)
  have hvs : V4.heap.size = W4.heap.size := by rw [← hV4]; simp [World.setCell]
  have hBV4 : Below w.heap.size w V4 := by rw [← hV4]; exact (hB3.trans (hb4.mono (by omega))).setCell (by show w.heap.size ≤ w.heap.size + 1 + 1; omega) _
  obtain ⟨c', W5, hr2, hb5, ho2⟩ := app_row Try.underlying23 hi2 hz2a hz2b hz2c rfl (hS.ints.below hBV4) (by unfold maxLen; have := hok.1.2.2.2.2.1; omega) (by have := hok.1.2.2.2.2.1; omega) 23
  obtain ⟨pc, nc, cc, rfl⟩ : ∃ p n c, c' = .slice p n c := ho2.form
  have h50 := (hb5.block _ (by rw [hvs]; exact hlt h40)).trans ((hv4 _ (by omega)).trans h40)
  have h51 := (hb5.block _ (by rw [hvs]; exact hlt h41)).trans ((hv4 _ (by omega)).trans h41)
  have h52 := (hb5.block _ (hlt hv42)).trans hv42
  obtain ⟨W, hWd⟩ : ∃ V, W5.setCell ⟨w.heap.size + 1 + 1, 2, none⟩ (.slice pc nc cc) = V := ⟨_, rfl⟩
  have hw5 : ∀ b, b ≠ w.heap.size + 1 + 1 → W.heap[b]? = W5.heap[b]? := fun b hb => by rw [← hWd]; exact Below.heap_setCell _ _ _ _ (by exact hb)
  have hw0 : W.heap[w.heap.size]? = some (.cells #[.int .i64 t.op, a, c, .slice pk n ck] 26) := (hw5 _ (by omega)).trans h50
  have hw1 : W.heap[w.heap.size + 1]? = some (.cells #[.int .i64 0, .slice none 0 0, .slice none 0 0, .slice none 0 0] 26) := (hw5 _ (by omega)).trans h51
  have hw2 : W.heap[w.heap.size + 1 + 1]? = some (.cells #[.int .i64 t.op, (.slice pa na ca), (.slice pc nc cc), .slice none 0 0] 26) := by rw [← hWd]; exact set_box2 h52 (.slice pc nc cc)
  have hws : W.heap.size = W5.heap.size := by rw [← hWd]; simp [World.setCell]
  have hBW : Below w.heap.size w W := by rw [← hWd]; exact (hBV4.trans (hb5.mono hBV4.size)).setCell (by show w.heap.size ≤ w.heap.size + 1 + 1; omega) _
  have hz4 := hb4.size
  have hz5 := hb5.size
  obtain ⟨g, hnum, hint⟩ : ∃ g, (OwnB W g 31 .u32 (.slice pa na ca) t.nums ∧ w.heap.size ≤ g ∧ g < W.heap.size ∧ g ≠ w.heap.size + 1 + 1 ∧ g ≠ w.heap.size + 1) ∧ RowP (fun b => w.heap.size ≤ b ∧ b < W.heap.size ∧ b ≠ w.heap.size + 1 + 1 ∧ b ≠ w.heap.size + 1 ∧ b ≠ g) W .i64 (.slice pc nc cc) t.ints := by
    have hi' : OwnB W V4.heap.size 3 .i64 (.slice pc nc cc) t.ints := ho2.to (hw5 _ (by omega))
    by_cases hnil : t.nums = []
    · refine ⟨w.heap.size, ⟨?_, Nat.le_refl _, by omega, by omega, by omega⟩, hi'.rowP fun hl => ⟨by omega, hi'.lt hl, by omega, by omega, by omega⟩⟩
      rcases ho1 with h | ⟨h, -⟩
      · exact .inl h
      · exact absurd hnil h
    · have hlt3 := ho1.lt hnil
      refine ⟨X.heap.size, ⟨(ho1.to (hv4 _ (by omega))).to ?_, by omega, by omega, by omega, by omega⟩, hi'.rowP fun hl => ⟨by omega, hi'.lt hl, by omega, by omega, by omega⟩⟩
      rw [hw5 _ (by omega)]
      exact hb5.block _ (by omega)
  obtain ⟨C, hC⟩ : ∃ C, W.heap.size = C := ⟨_, rfl⟩
  have HV0 : Hid (w.heap.size + 3 ≤ C) := by show _ ≤ _; omega
  have HTC : Hid (w.heap.size + 1 + 1 < C) := by show _ < _; omega
  have HTB : Hid (w.heap.size ≤ w.heap.size + 1 + 1) := by show _ ≤ _; omega
  have HXE : Hid (((w.alloc (.cells #[.int .i64 t.op, a, c, .slice pk n ck] 26)).alloc (.cells #[.int .i64 0, .slice none 0 0, .slice none 0 0, .slice none 0 0] 26)).alloc (.cells #[.int .i64 t.op, .slice none 0 0, .slice none 0 0, .slice none 0 0] 26) = X) := hX
  have HR1 : Hid ((Builtin.append_ #[22, 22] 22 #[.slice none 0 0, a]).run Try.prog X = .ok (.slice pa na ca) W4) := hr1
  have HV4E : Hid (W4.setCell ⟨w.heap.size + 1 + 1, 1, none⟩ (.slice pa na ca) = V4) := hV4
  have HR2 : Hid ((Builtin.append_ #[23, 23] 23 #[.slice none 0 0, c]).run Try.prog V4 = .ok (.slice pc nc cc) W5) := hr2
  have HWE : Hid (W5.setCell ⟨w.heap.size + 1 + 1, 2, none⟩ (.slice pc nc cc) = W) := hWd
  have H4 : Hid (W4.heap[w.heap.size]? = some (.cells #[.int .i64 t.op, a, c, .slice pk n ck] 26) ∧ W4.heap[w.heap.size + 1 + 1]? = some (.cells #[.int .i64 t.op, .slice none 0 0, .slice none 0 0, .slice none 0 0] 26)) := ⟨h40, h42⟩
  have H5 : Hid (W5.heap[w.heap.size]? = some (.cells #[.int .i64 t.op, a, c, .slice pk n ck] 26) ∧ W5.heap[w.heap.size + 1 + 1]? = some (.cells #[.int .i64 t.op, (.slice pa na ca), .slice none 0 0, .slice none 0 0] 26)) := ⟨h50, h52⟩
  have HNUM : Hid (OwnB W g 31 .u32 (.slice pa na ca) t.nums ∧ w.heap.size ≤ g ∧ g < C ∧ g ≠ w.heap.size + 1 + 1 ∧ g ≠ w.heap.size + 1) := by rw [← hC]; exact hnum
  have HINT : Hid (RowP (fun b => w.heap.size ≤ b ∧ b < C ∧ b ≠ w.heap.size + 1 + 1 ∧ b ≠ w.heap.size + 1 ∧ b ≠ g) W .i64 (.slice pc nc cc) t.ints) := by rw [← hC]; exact hint
  have HW0 : Hid (W.heap[w.heap.size]? = some (.cells #[.int .i64 t.op, a, c, .slice pk n ck] 26) ∧ W.heap[w.heap.size + 1]? = some (.cells #[.int .i64 0, .slice none 0 0, .slice none 0 0, .slice none 0 0] 26) ∧ W.heap[w.heap.size + 1 + 1]? = some (.cells #[.int .i64 t.op, (.slice pa na ca), (.slice pc nc cc), .slice none 0 0] 26)) := ⟨hw0, hw1, hw2⟩
  have HBW0 : Hid (Below w.heap.size w W) := hBW
  have HCE : Hid (W.heap.size = C) := hC
  clear hX hB3 hs3 hx0 hx1 hx2 hr1 hb4 ho1 h40 h41 h42 hV4 hv4 hv42 hvs hBV4 hr2 hb5 ho2 h50 h51 h52 hWd hw5 hw0 hw1 hw2 hws hBW hz4 hz5 hnum hint hC ih hS hk hn hok hcn hi1 hz1a hz1b hz1c hi2 hz2a hz2b hz2c
  go_enter Try.func11, Try.ntmps11
  go_wp2_with (first
    | (at_builtin; rw [HXE.out]; refine wpList_app rfl _ _ 22 rfl _ _ (.slice pa na ca) rfl rfl HR1.out ?_; obtain ⟨⟨p0, p1, p2, p3⟩, f0, f1, f2, f3⟩ := four H4.out.2; obtain ⟨⟨q0, q1, q2, q3⟩, -⟩ := four H4.out.1)
    | (at_builtin; rw [HV4E.out]; refine wpList_app rfl _ _ 23 rfl _ _ (.slice pc nc cc) rfl rfl HR2.out ?_; obtain ⟨⟨p0, p1, p2, p3⟩, f0, f1, f2, f3⟩ := four H5.out.2; obtain ⟨⟨q0, q1, q2, q3⟩, -⟩ := four H5.out.1))
  rw [HWE.out]
  clear p0 p1 p2 p3 f0 f1 f2 f3 q0 q1 q2 q3 HXE HR1 HV4E HR2 HWE H4 H5
  go_loopw [4] (fun iv wr => Below w.heap.size w wr ∧ ∃ (j : Nat) (ov : Value), j ≤ n ∧ iv = .int .i64 j ∧ C ≤ wr.heap.size ∧ Hid (OffT C (w.heap.size + 1 + 1) W wr ∧ wr.heap[w.heap.size + 1 + 1]? = some (.cells #[.int .i64 t.op, (.slice pa na ca), (.slice pc nc cc), ov] 26) ∧ ∃ R, RowK wr C ov (t.kids.take j) R)) (fun iv _ => n - (intOf iv).toNat)
  case atStart => exact ⟨HBW0.out, 0, .slice none 0 0, Nat.zero_le _, rfl, Nat.le_of_eq HCE.out.symm, ⟨fun _ _ _ => rfl, HW0.out.2.2, [], by rw [List.take_zero]; exact RowK.nil _ _⟩⟩
  case round =>
    obtain ⟨hb, j, ov, hj, rfl, hCS, HS⟩ := hrel
    have hx := (HS.out.1 w.heap.size (by have := HV0.out; omega) (by omega)).trans HW0.out.1
    obtain ⟨⟨x0, x1, x2, x3⟩, -⟩ := four hx
    clear hx
    by_cases hlt0 : j < n
    · have hll : j < t.kids.length := by rw [HN.out]; exact hlt0
      obtain ⟨b1, o1, rfl, hsl⟩ : ∃ b o, pk = some ⟨b, o, none⟩ ∧ SL w b o t.kids := by
        rcases HK.out with h | h
        · rw [h] at hll; exact absurd hll (Nat.not_lt_zero _)
        · exact h
      obtain ⟨a1, a2, a3', z0, z1, z2, z3, hv⟩ := (SL_get hsl hll).val
      have hb1 : b1 < w.heap.size := mcell_lt z0
      have y0 := bcell z0 hb
      have y1 := bcell z1 hb
      have y2 := bcell z2 hb
      have y3 := bcell z3 hb
      have hvr := hv.below hb
      obtain ⟨Y, hY⟩ : ∃ Y, t.kids[j] = Y := ⟨_, rfl⟩
      have hcy : scnt Y ≤ 9000 := by rw [← hY]; have h1 := scnt_get hll; have h2 := HOK.out.2; unfold scnt at h2; omega
      have hky : sok Y := by rw [← hY]; exact sok_kid HOK.out.1 hll
      have hiy : TwinA Y := by rw [← hY]; exact HIH.out _ (List.getElem_mem hll)
      rw [hY] at y0 hvr
      have HW : Hid (∀ v, Below wr.heap.size wr v → Calls Try.prog 11 #[.agg #[.int .i64 Y.op, a1, a2, a3']] v fun e w' => ∃ g a' c' d', e = .returned (.agg #[.int .i64 Y.op, a', c', d']) ∧ v.heap.size ≤ g ∧ g < w'.heap.size ∧ OwnB w' g 31 .u32 a' Y.nums ∧ RowP (blk v.heap.size w'.heap.size (some g)) w' .i64 c' Y.ints ∧ SKp (blk v.heap.size w'.heap.size (some g)) w' d' Y.kids ∧ Below v.heap.size v w') := fun v hv => hiy a1 a2 a3' v hcy hky (hvr.below hv)
      obtain ⟨R, hR⟩ := HS.out.2.2
      have HR : Hid (RowK wr C ov (t.kids.take j) R) := hR
      have HLW : Hid (OffT C (w.heap.size + 1 + 1) W wr) := HS.out.1
      have HT : Hid (wr.heap[w.heap.size + 1 + 1]? = some (.cells #[.int .i64 t.op, (.slice pa na ca), (.slice pc nc cc), ov] 26)) := HS.out.2.1
      have HCS : Hid (C ≤ wr.heap.size) := hCS
      have HBW : Hid (Below w.heap.size w wr) := hb
      have HJL : Hid ((t.kids.take j).length = j) := by show _ = _; rw [List.length_take]; omega
      have HYM : Hid (t.kids.take (j + 1) = t.kids.take j ++ [Y]) := by show _ = _; rw [ktake_succ hll, hY]
      have HC0 : Hid (w.heap.size < C ∧ w.heap.size ≠ w.heap.size + 1 + 1) := ⟨by have := HV0.out; omega, by omega⟩
      have HCK : Hid (b1 < C ∧ b1 ≠ w.heap.size + 1 + 1) := ⟨by have := HV0.out; omega, by omega⟩
      have t0 : wr.cell? ⟨w.heap.size + 1 + 1, 3, none⟩ = some ov := cell_heap HT.out 3
      have i1 : (0 : Int) ≤ (j : Int) := by omega
      have i2 : (j : Int) < (n : Int) := by omega
      clear hsl hv hvr z0 z1 z2 z3 hY hcy hky hiy hR HS HK HIH HOK hb hCS x0 x1 x2 hb1
      go_wp2
      refine wp_region_held_drew (S := (fun x => OffT C (w.heap.size + 1 + 1) wr x)) (by kernel_rfl) ?_ (fun hHeld => ?_)
      · ((try dsimp only); first | assumption | exact OffT.drew _ _ _ | exact HL3.out | exact HLA.out | exact HL4.out | exact HL4.out.set 3 _)
      refine wpAnyH_take (i := 0) (v := ?_) (by simp only [List.getElem?_toArray, List.getElem?_cons_succ, List.getElem?_cons_zero]; rfl) (by kernel_rfl) (by kernel_rfl) (by kernel_rfl) (by exact fun _ _ _ h => h) (Or.inl ⟨by rfl, ?_⟩) (by assumption) ?_
      rotate_left 1
      · (intro wS hSw; have hSb : OffT C (w.heap.size + 1 + 1) wr wS := hSw; clear hSw; have zn := hSb.cell HC0.out.1 HC0.out.2 x3; have zx0 := hSb.cell HCK.out.1 HCK.out.2 y0; have zx1 := hSb.cell HCK.out.1 HCK.out.2 y1; have zx2 := hSb.cell HCK.out.1 HCK.out.2 y2; have zx3 := hSb.cell HCK.out.1 HCK.out.2 y3; clear hSb; go_simp; try (with_reducible rfl))
      try simp only [Act.put, List.setIfInBounds_toArray, List.set_cons_zero, List.set_cons_succ]
      refine wpAnyH_take (i := 2) (v := ?_) (by simp only [List.getElem?_toArray, List.getElem?_cons_succ, List.getElem?_cons_zero]; rfl) (by kernel_rfl) (by kernel_rfl) (by kernel_rfl) (by exact fun _ _ _ h => h) (Or.inl ⟨by rfl, ?_⟩) (by assumption) ?_
      rotate_left 1
      · (intro wS hSw; have hSb : OffT C (w.heap.size + 1 + 1) wr wS := hSw; clear hSw; have zn := hSb.cell HC0.out.1 HC0.out.2 x3; have zx0 := hSb.cell HCK.out.1 HCK.out.2 y0; have zx1 := hSb.cell HCK.out.1 HCK.out.2 y1; have zx2 := hSb.cell HCK.out.1 HCK.out.2 y2; have zx3 := hSb.cell HCK.out.1 HCK.out.2 y3; clear hSb; go_simp; try (with_reducible rfl))
      try simp only [Act.put, List.setIfInBounds_toArray, List.set_cons_zero, List.set_cons_succ]
      refine wpAnyH_take (i := 3) (v := ?_) (by simp only [List.getElem?_toArray, List.getElem?_cons_succ, List.getElem?_cons_zero]; rfl) (by kernel_rfl) (by kernel_rfl) (by kernel_rfl) (by exact fun _ _ _ h => h) (Or.inl ⟨by rfl, ?_⟩) (by assumption) ?_
      rotate_left 1
      · (intro wS hSw; have hSb : OffT C (w.heap.size + 1 + 1) wr wS := hSw; clear hSw; have zn := hSb.cell HC0.out.1 HC0.out.2 x3; have zx0 := hSb.cell HCK.out.1 HCK.out.2 y0; have zx1 := hSb.cell HCK.out.1 HCK.out.2 y1; have zx2 := hSb.cell HCK.out.1 HCK.out.2 y2; have zx3 := hSb.cell HCK.out.1 HCK.out.2 y3; clear hSb; go_simp; try (with_reducible rfl))
      try simp only [Act.put, List.setIfInBounds_toArray, List.set_cons_zero, List.set_cons_succ]
      refine wpAnyH_take (i := 4) (v := ?_) (by simp only [List.getElem?_toArray, List.getElem?_cons_succ, List.getElem?_cons_zero]; rfl) (by kernel_rfl) (by kernel_rfl) (by kernel_rfl) (by exact fun _ _ _ h => h) (Or.inl ⟨by rfl, ?_⟩) (by assumption) ?_
      rotate_left 1
      · (intro wS hSw; have hSb : OffT C (w.heap.size + 1 + 1) wr wS := hSw; clear hSw; have zn := hSb.cell HC0.out.1 HC0.out.2 x3; have zx0 := hSb.cell HCK.out.1 HCK.out.2 y0; have zx1 := hSb.cell HCK.out.1 HCK.out.2 y1; have zx2 := hSb.cell HCK.out.1 HCK.out.2 y2; have zx3 := hSb.cell HCK.out.1 HCK.out.2 y3; clear hSb; go_simp; try (with_reducible rfl))
      try simp only [Act.put, List.setIfInBounds_toArray, List.set_cons_zero, List.set_cons_succ]
      refine wpAnyH_take (i := 5) (v := ?_) (by simp only [List.getElem?_toArray, List.getElem?_cons_succ, List.getElem?_cons_zero]; rfl) (by kernel_rfl) (by kernel_rfl) (by kernel_rfl) (by exact fun _ _ _ h => h) (Or.inl ⟨by rfl, ?_⟩) (by assumption) ?_
      rotate_left 1
      · (intro wS hSw; have hSb : OffT C (w.heap.size + 1 + 1) wr wS := hSw; clear hSw; have zn := hSb.cell HC0.out.1 HC0.out.2 x3; have zx0 := hSb.cell HCK.out.1 HCK.out.2 y0; have zx1 := hSb.cell HCK.out.1 HCK.out.2 y1; have zx2 := hSb.cell HCK.out.1 HCK.out.2 y2; have zx3 := hSb.cell HCK.out.1 HCK.out.2 y3; clear hSb; go_simp; try (with_reducible rfl))
      try simp only [Act.put, List.setIfInBounds_toArray, List.set_cons_zero, List.set_cons_succ]
      refine wpAnyH_take (i := 6) (v := ?_) (by simp only [List.getElem?_toArray, List.getElem?_cons_succ, List.getElem?_cons_zero]; rfl) (by kernel_rfl) (by kernel_rfl) (by kernel_rfl) (by exact fun _ _ _ h => h) (Or.inl ⟨by rfl, ?_⟩) (by assumption) ?_
      rotate_left 1
      · (intro wS hSw; have hSb : OffT C (w.heap.size + 1 + 1) wr wS := hSw; clear hSw; have zn := hSb.cell HC0.out.1 HC0.out.2 x3; have zx0 := hSb.cell HCK.out.1 HCK.out.2 y0; have zx1 := hSb.cell HCK.out.1 HCK.out.2 y1; have zx2 := hSb.cell HCK.out.1 HCK.out.2 y2; have zx3 := hSb.cell HCK.out.1 HCK.out.2 y3; clear hSb; go_simp; try (with_reducible rfl))
      try simp only [Act.put, List.setIfInBounds_toArray, List.set_cons_zero, List.set_cons_succ]
      clear hHeld
      refine wpAnyH_ready (rs := [1, 7]) (by kernel_rfl) (by simp) ?_
      refine AllReadyH.cons (i := 1) (by simp only [List.getElem?_toArray, List.getElem?_cons_succ, List.getElem?_cons_zero]; rfl) (fun K hK => ?_) ?_
      · go_simp
        refine hK.out _ _ ?_ (fun hHeld => ?_)
        · ((try dsimp only); first | assumption | exact OffT.drew _ _ _ | exact HL3.out | exact HLA.out | exact HL4.out | exact HL4.out.set 3 _)
        clear hK K
        try simp only [Act.put, List.setIfInBounds_toArray, List.set_cons_zero, List.set_cons_succ]
        clear hHeld
        refine wpAnyH_ready (rs := [7]) (by kernel_rfl) (by simp) ?_
        refine AllReadyH.cons (i := 7) (by simp only [List.getElem?_toArray, List.getElem?_cons_succ, List.getElem?_cons_zero]; rfl) (fun K hK => ?_) AllReadyH.nil
        go_simp
        (go_at_call 11; (with_reducible refine (HW.out _ (bel_d _)).mono ?_); rintro e w3 ⟨g3, a3, c3, d3, rfl, hg3, -, ho3, hi3, hk3, hb3⟩; have hb3' := bel (bel_d wr) hb3; have HB3 : Hid (Below wr.heap.size wr w3) := hb3'; have HR3 : Hid (RowK w3 C ov (t.kids.take j) R) := HR.out.below hb3'; have HZ3 : Hid (C ≤ w3.heap.size) := Nat.le_trans HCS.out hb3'.size; have HL3 : Hid (OffT C (w.heap.size + 1 + 1) wr w3) := OffT.of hb3' HCS.out; have t3 : w3.cell? ⟨w.heap.size + 1 + 1, 3, none⟩ = some ov := bcell t0 hb3'; have HS3 : Hid (SVp (blk C w3.heap.size ov.ownBlock) w3 Y a3 c3 d3) := kid_svp HR.out HCS.out hb3' hg3 ho3 hi3 hk3; clear hg3 ho3 hi3 hk3 hb3 hb3')
        try (go_wp2_with fail)
        refine hK.out _ _ ?_ (fun hHeld => ?_)
        · ((try dsimp only); first | assumption | exact OffT.drew _ _ _ | exact HL3.out | exact HLA.out | exact HL4.out | exact HL4.out.set 3 _)
        clear hK K
        try simp only [Act.put, List.setIfInBounds_toArray, List.set_cons_zero, List.set_cons_succ]
        clear hHeld
        refine wpAnyH_ready (rs := [8]) (by kernel_rfl) (by simp) ?_
        refine AllReadyH.cons (i := 8) (by simp only [List.getElem?_toArray, List.getElem?_cons_succ, List.getElem?_cons_zero]; rfl) (fun K hK => ?_) AllReadyH.nil
        go_simp
        have HLA : Hid (OffT C (w.heap.size + 1 + 1) wr (w3.alloc (.cells #[.int .i64 Y.op, a3, c3, d3] 26))) := OffT.of (bel HB3.out (bel_alloc _ _)) HCS.out
        have t3a := bcell t3 (bel_alloc w3 (.cells #[.int .i64 Y.op, a3, c3, d3] 26))
        refine hK.out _ _ ?_ (fun hHeld => ?_)
        · ((try dsimp only); first | assumption | exact OffT.drew _ _ _ | exact HL3.out | exact HLA.out | exact HL4.out | exact HL4.out.set 3 _)
        clear hK K
        try simp only [Act.put, List.setIfInBounds_toArray, List.set_cons_zero, List.set_cons_succ]
        clear hHeld
        refine wpAnyH_ready (rs := [9]) (by kernel_rfl) (by simp) ?_
        refine AllReadyH.cons (i := 9) (by simp only [List.getElem?_toArray, List.getElem?_cons_succ, List.getElem?_cons_zero]; rfl) (fun K hK => ?_) AllReadyH.nil
        refine step_append_lies _ rfl _ _ 24 rfl C 26 i0 _ 4 80 Try.underlying24 hi0 hz0 hz1 hz2 rfl (by decide) ov j (cellsS R) rfl (World.ownsRow.alloc (show w3.ownsRow C 26 4 ov j (cellsS R) from by have := HR3.out.2.1; rw [HJL.out] at this; exact this) _) ⟨w3.heap.size, 0, none⟩ 1 1 [.int .i64 Y.op, a3, c3, d3] rfl rfl (World.news_of_block (cs := #[.int .i64 Y.op, a3, c3, d3]) (t := 26) (fr := (0, 0)) (box_heap w3 _)) (one4 HS3.out) (by decide) (by unfold maxLen; omega) (by omega) (by simp; have := HZ3.out; omega) (w3.heap.size + 1) (by simp) ?_
        intro g cap w4 hown4 hg4 hat4 hlt4
        have hro : ∀ k, ov.ownBlock = some k → C ≤ k ∧ k < wr.heap.size := fun k hk => HR.out.2.1.lt k hk
        have HR4 : Hid (∃ R, RowK w4 C (.slice (some ⟨g, 0, none⟩) (j + 1) cap) (t.kids.take (j + 1)) R) := by
          have := RowK.push (r := (Y, a3, c3, d3)) HR3.out (bel_alloc w3 (.cells #[.int .i64 Y.op, a3, c3, d3] 26)) HS3.out hg4 (by simpa using hat4) (by rw [HJL.out]; exact hown4)
          rw [HJL.out] at this
          show ∃ R, RowK _ _ _ _ _
          rw [HYM.out]
          exact ⟨_, this⟩
        have HL4 : Hid (OffT C (w.heap.size + 1 + 1) wr w4) := fun x hx hn => by
          rw [hg4.block x (by simp; have := HZ3.out; omega) (fun e => by have := (hro x e.symm).1; omega)]
          exact HLA.out x hx hn
        have hT4 : w4.heap[w.heap.size + 1 + 1]? = wr.heap[w.heap.size + 1 + 1]? := by
          have hTC := HTC.out
          rw [hg4.block (w.heap.size + 1 + 1) (by simp; have := HZ3.out; omega) (fun e => by have := (hro (w.heap.size + 1 + 1) e.symm).1; omega)]
          exact (bel HB3.out (bel_alloc w3 (.cells #[.int .i64 Y.op, a3, c3, d3] 26))).block (w.heap.size + 1 + 1) (by have := HCS.out; omega)
        have hT4' := hT4.trans HT.out
        have HT4 : Hid (w4.heap[w.heap.size + 1 + 1]? = some (.cells #[.int .i64 t.op, (.slice pa na ca), (.slice pc nc cc), ov] 26)) := hT4'
        have t4 : w4.cell? ⟨w.heap.size + 1 + 1, 3, none⟩ = some ov := cell_heap hT4' 3
        have f4 : w4.frozen? ⟨w.heap.size + 1 + 1, 3, none⟩ = false := by simp [World.frozen?, hT4']
        have HS4 : Hid (C ≤ w4.heap.size) := by
          have h1 := hg4.size
          have h2 := HZ3.out
          simp at h1
          show C ≤ _
          omega
        have HB4 : Hid (Below w.heap.size w w4) := Below.grown (bel (bel HBW.out HB3.out) (bel_alloc w3 (.cells #[.int .i64 Y.op, a3, c3, d3] 26))) hg4 (by simp; have := HZ3.out; have := HV0.out; omega) (fun k hk => by have := (hro k hk).1; have := HV0.out; omega)
        clear hown4 hg4 hat4 hro hT4 hT4'
        refine hK.out _ _ ?_ (fun hHeld => ?_)
        · ((try dsimp only); first | assumption | exact OffT.drew _ _ _ | exact HL3.out | exact HLA.out | exact HL4.out | exact HL4.out.set 3 _)
        clear hK K
        try simp only [Act.put, List.setIfInBounds_toArray, List.set_cons_zero, List.set_cons_succ]
        refine wpAnyH_take (i := 10) (v := ?_) (by simp only [List.getElem?_toArray, List.getElem?_cons_succ, List.getElem?_cons_zero]; rfl) (by kernel_rfl) (by kernel_rfl) (by kernel_rfl) (by exact fun _ _ _ h => h) (Or.inl ⟨by rfl, ?_⟩) (by assumption) ?_
        rotate_left 1
        · (intro wS hSw; have hSb : OffT C (w.heap.size + 1 + 1) wr wS := hSw; clear hSw; have zn := hSb.cell HC0.out.1 HC0.out.2 x3; have zx0 := hSb.cell HCK.out.1 HCK.out.2 y0; have zx1 := hSb.cell HCK.out.1 HCK.out.2 y1; have zx2 := hSb.cell HCK.out.1 HCK.out.2 y2; have zx3 := hSb.cell HCK.out.1 HCK.out.2 y3; clear hSb; go_simp; try (with_reducible rfl))
        try simp only [Act.put, List.setIfInBounds_toArray, List.set_cons_zero, List.set_cons_succ]
        clear hHeld
        refine wpAnyH_ready (rs := [11]) (by kernel_rfl) (by simp) ?_
        refine AllReadyH.cons (i := 11) (by simp only [List.getElem?_toArray, List.getElem?_cons_succ, List.getElem?_cons_zero]; rfl) (fun K hK => ?_) AllReadyH.nil
        go_simp
        refine hK.out _ _ ?_ (fun hHeld => ?_)
        · ((try dsimp only); first | assumption | exact OffT.drew _ _ _ | exact HL3.out | exact HLA.out | exact HL4.out | exact HL4.out.set 3 _)
        clear hK K
        try simp only [Act.put, List.setIfInBounds_toArray, List.set_cons_zero, List.set_cons_succ]
        refine wpAnyH_done (by kernel_rfl) ?_ _
        clear hHeld
        obtain ⟨W6, hW6⟩ : ∃ W6, w4.setCell ⟨w.heap.size + 1 + 1, 3, none⟩ (.slice (some ⟨g, 0, none⟩) (j + 1) cap) = W6 := ⟨_, rfl⟩
        have HF : Hid (Below w.heap.size w W6 ∧ C ≤ W6.heap.size ∧ OffT C (w.heap.size + 1 + 1) W W6 ∧ W6.heap[w.heap.size + 1 + 1]? = some (.cells #[.int .i64 t.op, (.slice pa na ca), (.slice pc nc cc), .slice (some ⟨g, 0, none⟩) (j + 1) cap] 26) ∧ ∃ R, RowK W6 C (.slice (some ⟨g, 0, none⟩) (j + 1) cap) (t.kids.take (j + 1)) R) := by
          rw [← hW6]
          obtain ⟨R', hR'⟩ := HR4.out
          exact ⟨HB4.out.setCell HTB.out _, by simp [World.setCell]; exact HS4.out, (HLW.out.trans HL4.out).set 3 _, set_box3 HT4.out _, R', hR'.set HTC.out 3 _⟩
        rw [hW6]
        clear hW6
        go_wp2
        go_roundw
        case rel => exact ⟨HF.out.1, j + 1, _, by omega, by go_num, HF.out.2.1, HF.out.2.2⟩
        case measure => simp [intOf]; omega
      refine AllReadyH.cons (i := 7) (by simp only [List.getElem?_toArray, List.getElem?_cons_succ, List.getElem?_cons_zero]; rfl) (fun K hK => ?_) AllReadyH.nil
      go_simp
      (go_at_call 11; (with_reducible refine (HW.out _ (bel_d _)).mono ?_); rintro e w3 ⟨g3, a3, c3, d3, rfl, hg3, -, ho3, hi3, hk3, hb3⟩; have hb3' := bel (bel_d wr) hb3; have HB3 : Hid (Below wr.heap.size wr w3) := hb3'; have HR3 : Hid (RowK w3 C ov (t.kids.take j) R) := HR.out.below hb3'; have HZ3 : Hid (C ≤ w3.heap.size) := Nat.le_trans HCS.out hb3'.size; have HL3 : Hid (OffT C (w.heap.size + 1 + 1) wr w3) := OffT.of hb3' HCS.out; have t3 : w3.cell? ⟨w.heap.size + 1 + 1, 3, none⟩ = some ov := bcell t0 hb3'; have HS3 : Hid (SVp (blk C w3.heap.size ov.ownBlock) w3 Y a3 c3 d3) := kid_svp HR.out HCS.out hb3' hg3 ho3 hi3 hk3; clear hg3 ho3 hi3 hk3 hb3 hb3')
      try (go_wp2_with fail)
      refine hK.out _ _ ?_ (fun hHeld => ?_)
      · ((try dsimp only); first | assumption | exact OffT.drew _ _ _ | exact HL3.out | exact HLA.out | exact HL4.out | exact HL4.out.set 3 _)
      clear hK K
      try simp only [Act.put, List.setIfInBounds_toArray, List.set_cons_zero, List.set_cons_succ]
      clear hHeld
      refine wpAnyH_ready (rs := [1, 8]) (by kernel_rfl) (by simp) ?_
      refine AllReadyH.cons (i := 1) (by simp only [List.getElem?_toArray, List.getElem?_cons_succ, List.getElem?_cons_zero]; rfl) (fun K hK => ?_) ?_
      · go_simp
        refine hK.out _ _ ?_ (fun hHeld => ?_)
        · ((try dsimp only); first | assumption | exact OffT.drew _ _ _ | exact HL3.out | exact HLA.out | exact HL4.out | exact HL4.out.set 3 _)
        clear hK K
        try simp only [Act.put, List.setIfInBounds_toArray, List.set_cons_zero, List.set_cons_succ]
        clear hHeld
        refine wpAnyH_ready (rs := [8]) (by kernel_rfl) (by simp) ?_
        refine AllReadyH.cons (i := 8) (by simp only [List.getElem?_toArray, List.getElem?_cons_succ, List.getElem?_cons_zero]; rfl) (fun K hK => ?_) AllReadyH.nil
        go_simp
        have HLA : Hid (OffT C (w.heap.size + 1 + 1) wr (w3.alloc (.cells #[.int .i64 Y.op, a3, c3, d3] 26))) := OffT.of (bel HB3.out (bel_alloc _ _)) HCS.out
        have t3a := bcell t3 (bel_alloc w3 (.cells #[.int .i64 Y.op, a3, c3, d3] 26))
        refine hK.out _ _ ?_ (fun hHeld => ?_)
        · ((try dsimp only); first | assumption | exact OffT.drew _ _ _ | exact HL3.out | exact HLA.out | exact HL4.out | exact HL4.out.set 3 _)
        clear hK K
        try simp only [Act.put, List.setIfInBounds_toArray, List.set_cons_zero, List.set_cons_succ]
        clear hHeld
        refine wpAnyH_ready (rs := [9]) (by kernel_rfl) (by simp) ?_
        refine AllReadyH.cons (i := 9) (by simp only [List.getElem?_toArray, List.getElem?_cons_succ, List.getElem?_cons_zero]; rfl) (fun K hK => ?_) AllReadyH.nil
        refine step_append_lies _ rfl _ _ 24 rfl C 26 i0 _ 4 80 Try.underlying24 hi0 hz0 hz1 hz2 rfl (by decide) ov j (cellsS R) rfl (World.ownsRow.alloc (show w3.ownsRow C 26 4 ov j (cellsS R) from by have := HR3.out.2.1; rw [HJL.out] at this; exact this) _) ⟨w3.heap.size, 0, none⟩ 1 1 [.int .i64 Y.op, a3, c3, d3] rfl rfl (World.news_of_block (cs := #[.int .i64 Y.op, a3, c3, d3]) (t := 26) (fr := (0, 0)) (box_heap w3 _)) (one4 HS3.out) (by decide) (by unfold maxLen; omega) (by omega) (by simp; have := HZ3.out; omega) (w3.heap.size + 1) (by simp) ?_
        intro g cap w4 hown4 hg4 hat4 hlt4
        have hro : ∀ k, ov.ownBlock = some k → C ≤ k ∧ k < wr.heap.size := fun k hk => HR.out.2.1.lt k hk
        have HR4 : Hid (∃ R, RowK w4 C (.slice (some ⟨g, 0, none⟩) (j + 1) cap) (t.kids.take (j + 1)) R) := by
          have := RowK.push (r := (Y, a3, c3, d3)) HR3.out (bel_alloc w3 (.cells #[.int .i64 Y.op, a3, c3, d3] 26)) HS3.out hg4 (by simpa using hat4) (by rw [HJL.out]; exact hown4)
          rw [HJL.out] at this
          show ∃ R, RowK _ _ _ _ _
          rw [HYM.out]
          exact ⟨_, this⟩
        have HL4 : Hid (OffT C (w.heap.size + 1 + 1) wr w4) := fun x hx hn => by
          rw [hg4.block x (by simp; have := HZ3.out; omega) (fun e => by have := (hro x e.symm).1; omega)]
          exact HLA.out x hx hn
        have hT4 : w4.heap[w.heap.size + 1 + 1]? = wr.heap[w.heap.size + 1 + 1]? := by
          have hTC := HTC.out
          rw [hg4.block (w.heap.size + 1 + 1) (by simp; have := HZ3.out; omega) (fun e => by have := (hro (w.heap.size + 1 + 1) e.symm).1; omega)]
          exact (bel HB3.out (bel_alloc w3 (.cells #[.int .i64 Y.op, a3, c3, d3] 26))).block (w.heap.size + 1 + 1) (by have := HCS.out; omega)
        have hT4' := hT4.trans HT.out
        have HT4 : Hid (w4.heap[w.heap.size + 1 + 1]? = some (.cells #[.int .i64 t.op, (.slice pa na ca), (.slice pc nc cc), ov] 26)) := hT4'
        have t4 : w4.cell? ⟨w.heap.size + 1 + 1, 3, none⟩ = some ov := cell_heap hT4' 3
        have f4 : w4.frozen? ⟨w.heap.size + 1 + 1, 3, none⟩ = false := by simp [World.frozen?, hT4']
        have HS4 : Hid (C ≤ w4.heap.size) := by
          have h1 := hg4.size
          have h2 := HZ3.out
          simp at h1
          show C ≤ _
          omega
        have HB4 : Hid (Below w.heap.size w w4) := Below.grown (bel (bel HBW.out HB3.out) (bel_alloc w3 (.cells #[.int .i64 Y.op, a3, c3, d3] 26))) hg4 (by simp; have := HZ3.out; have := HV0.out; omega) (fun k hk => by have := (hro k hk).1; have := HV0.out; omega)
        clear hown4 hg4 hat4 hro hT4 hT4'
        refine hK.out _ _ ?_ (fun hHeld => ?_)
        · ((try dsimp only); first | assumption | exact OffT.drew _ _ _ | exact HL3.out | exact HLA.out | exact HL4.out | exact HL4.out.set 3 _)
        clear hK K
        try simp only [Act.put, List.setIfInBounds_toArray, List.set_cons_zero, List.set_cons_succ]
        refine wpAnyH_take (i := 10) (v := ?_) (by simp only [List.getElem?_toArray, List.getElem?_cons_succ, List.getElem?_cons_zero]; rfl) (by kernel_rfl) (by kernel_rfl) (by kernel_rfl) (by exact fun _ _ _ h => h) (Or.inl ⟨by rfl, ?_⟩) (by assumption) ?_
        rotate_left 1
        · (intro wS hSw; have hSb : OffT C (w.heap.size + 1 + 1) wr wS := hSw; clear hSw; have zn := hSb.cell HC0.out.1 HC0.out.2 x3; have zx0 := hSb.cell HCK.out.1 HCK.out.2 y0; have zx1 := hSb.cell HCK.out.1 HCK.out.2 y1; have zx2 := hSb.cell HCK.out.1 HCK.out.2 y2; have zx3 := hSb.cell HCK.out.1 HCK.out.2 y3; clear hSb; go_simp; try (with_reducible rfl))
        try simp only [Act.put, List.setIfInBounds_toArray, List.set_cons_zero, List.set_cons_succ]
        clear hHeld
        refine wpAnyH_ready (rs := [11]) (by kernel_rfl) (by simp) ?_
        refine AllReadyH.cons (i := 11) (by simp only [List.getElem?_toArray, List.getElem?_cons_succ, List.getElem?_cons_zero]; rfl) (fun K hK => ?_) AllReadyH.nil
        go_simp
        refine hK.out _ _ ?_ (fun hHeld => ?_)
        · ((try dsimp only); first | assumption | exact OffT.drew _ _ _ | exact HL3.out | exact HLA.out | exact HL4.out | exact HL4.out.set 3 _)
        clear hK K
        try simp only [Act.put, List.setIfInBounds_toArray, List.set_cons_zero, List.set_cons_succ]
        refine wpAnyH_done (by kernel_rfl) ?_ _
        clear hHeld
        obtain ⟨W6, hW6⟩ : ∃ W6, w4.setCell ⟨w.heap.size + 1 + 1, 3, none⟩ (.slice (some ⟨g, 0, none⟩) (j + 1) cap) = W6 := ⟨_, rfl⟩
        have HF : Hid (Below w.heap.size w W6 ∧ C ≤ W6.heap.size ∧ OffT C (w.heap.size + 1 + 1) W W6 ∧ W6.heap[w.heap.size + 1 + 1]? = some (.cells #[.int .i64 t.op, (.slice pa na ca), (.slice pc nc cc), .slice (some ⟨g, 0, none⟩) (j + 1) cap] 26) ∧ ∃ R, RowK W6 C (.slice (some ⟨g, 0, none⟩) (j + 1) cap) (t.kids.take (j + 1)) R) := by
          rw [← hW6]
          obtain ⟨R', hR'⟩ := HR4.out
          exact ⟨HB4.out.setCell HTB.out _, by simp [World.setCell]; exact HS4.out, (HLW.out.trans HL4.out).set 3 _, set_box3 HT4.out _, R', hR'.set HTC.out 3 _⟩
        rw [hW6]
        clear hW6
        go_wp2
        go_roundw
        case rel => exact ⟨HF.out.1, j + 1, _, by omega, by go_num, HF.out.2.1, HF.out.2.2⟩
        case measure => simp [intOf]; omega
      refine AllReadyH.cons (i := 8) (by simp only [List.getElem?_toArray, List.getElem?_cons_succ, List.getElem?_cons_zero]; rfl) (fun K hK => ?_) AllReadyH.nil
      go_simp
      have HLA : Hid (OffT C (w.heap.size + 1 + 1) wr (w3.alloc (.cells #[.int .i64 Y.op, a3, c3, d3] 26))) := OffT.of (bel HB3.out (bel_alloc _ _)) HCS.out
      have t3a := bcell t3 (bel_alloc w3 (.cells #[.int .i64 Y.op, a3, c3, d3] 26))
      refine hK.out _ _ ?_ (fun hHeld => ?_)
      · ((try dsimp only); first | assumption | exact OffT.drew _ _ _ | exact HL3.out | exact HLA.out | exact HL4.out | exact HL4.out.set 3 _)
      clear hK K
      try simp only [Act.put, List.setIfInBounds_toArray, List.set_cons_zero, List.set_cons_succ]
      clear hHeld
      refine wpAnyH_ready (rs := [1]) (by kernel_rfl) (by simp) ?_
      refine AllReadyH.cons (i := 1) (by simp only [List.getElem?_toArray, List.getElem?_cons_succ, List.getElem?_cons_zero]; rfl) (fun K hK => ?_) AllReadyH.nil
      go_simp
      refine hK.out _ _ ?_ (fun hHeld => ?_)
      · ((try dsimp only); first | assumption | exact OffT.drew _ _ _ | exact HL3.out | exact HLA.out | exact HL4.out | exact HL4.out.set 3 _)
      clear hK K
      try simp only [Act.put, List.setIfInBounds_toArray, List.set_cons_zero, List.set_cons_succ]
      clear hHeld
      refine wpAnyH_ready (rs := [9]) (by kernel_rfl) (by simp) ?_
      refine AllReadyH.cons (i := 9) (by simp only [List.getElem?_toArray, List.getElem?_cons_succ, List.getElem?_cons_zero]; rfl) (fun K hK => ?_) AllReadyH.nil
      refine step_append_lies _ rfl _ _ 24 rfl C 26 i0 _ 4 80 Try.underlying24 hi0 hz0 hz1 hz2 rfl (by decide) ov j (cellsS R) rfl (World.ownsRow.alloc (show w3.ownsRow C 26 4 ov j (cellsS R) from by have := HR3.out.2.1; rw [HJL.out] at this; exact this) _) ⟨w3.heap.size, 0, none⟩ 1 1 [.int .i64 Y.op, a3, c3, d3] rfl rfl (World.news_of_block (cs := #[.int .i64 Y.op, a3, c3, d3]) (t := 26) (fr := (0, 0)) (box_heap w3 _)) (one4 HS3.out) (by decide) (by unfold maxLen; omega) (by omega) (by simp; have := HZ3.out; omega) (w3.heap.size + 1) (by simp) ?_
      intro g cap w4 hown4 hg4 hat4 hlt4
      have hro : ∀ k, ov.ownBlock = some k → C ≤ k ∧ k < wr.heap.size := fun k hk => HR.out.2.1.lt k hk
      have HR4 : Hid (∃ R, RowK w4 C (.slice (some ⟨g, 0, none⟩) (j + 1) cap) (t.kids.take (j + 1)) R) := by
        have := RowK.push (r := (Y, a3, c3, d3)) HR3.out (bel_alloc w3 (.cells #[.int .i64 Y.op, a3, c3, d3] 26)) HS3.out hg4 (by simpa using hat4) (by rw [HJL.out]; exact hown4)
        rw [HJL.out] at this
        show ∃ R, RowK _ _ _ _ _
        rw [HYM.out]
        exact ⟨_, this⟩
      have HL4 : Hid (OffT C (w.heap.size + 1 + 1) wr w4) := fun x hx hn => by
        rw [hg4.block x (by simp; have := HZ3.out; omega) (fun e => by have := (hro x e.symm).1; omega)]
        exact HLA.out x hx hn
      have hT4 : w4.heap[w.heap.size + 1 + 1]? = wr.heap[w.heap.size + 1 + 1]? := by
        have hTC := HTC.out
        rw [hg4.block (w.heap.size + 1 + 1) (by simp; have := HZ3.out; omega) (fun e => by have := (hro (w.heap.size + 1 + 1) e.symm).1; omega)]
        exact (bel HB3.out (bel_alloc w3 (.cells #[.int .i64 Y.op, a3, c3, d3] 26))).block (w.heap.size + 1 + 1) (by have := HCS.out; omega)
      have hT4' := hT4.trans HT.out
      have HT4 : Hid (w4.heap[w.heap.size + 1 + 1]? = some (.cells #[.int .i64 t.op, (.slice pa na ca), (.slice pc nc cc), ov] 26)) := hT4'
      have t4 : w4.cell? ⟨w.heap.size + 1 + 1, 3, none⟩ = some ov := cell_heap hT4' 3
      have f4 : w4.frozen? ⟨w.heap.size + 1 + 1, 3, none⟩ = false := by simp [World.frozen?, hT4']
      have HS4 : Hid (C ≤ w4.heap.size) := by
        have h1 := hg4.size
        have h2 := HZ3.out
        simp at h1
        show C ≤ _
        omega
      have HB4 : Hid (Below w.heap.size w w4) := Below.grown (bel (bel HBW.out HB3.out) (bel_alloc w3 (.cells #[.int .i64 Y.op, a3, c3, d3] 26))) hg4 (by simp; have := HZ3.out; have := HV0.out; omega) (fun k hk => by have := (hro k hk).1; have := HV0.out; omega)
      clear hown4 hg4 hat4 hro hT4 hT4'
      refine hK.out _ _ ?_ (fun hHeld => ?_)
      · ((try dsimp only); first | assumption | exact OffT.drew _ _ _ | exact HL3.out | exact HLA.out | exact HL4.out | exact HL4.out.set 3 _)
      clear hK K
      try simp only [Act.put, List.setIfInBounds_toArray, List.set_cons_zero, List.set_cons_succ]
      refine wpAnyH_take (i := 10) (v := ?_) (by simp only [List.getElem?_toArray, List.getElem?_cons_succ, List.getElem?_cons_zero]; rfl) (by kernel_rfl) (by kernel_rfl) (by kernel_rfl) (by exact fun _ _ _ h => h) (Or.inl ⟨by rfl, ?_⟩) (by assumption) ?_
      rotate_left 1
      · (intro wS hSw; have hSb : OffT C (w.heap.size + 1 + 1) wr wS := hSw; clear hSw; have zn := hSb.cell HC0.out.1 HC0.out.2 x3; have zx0 := hSb.cell HCK.out.1 HCK.out.2 y0; have zx1 := hSb.cell HCK.out.1 HCK.out.2 y1; have zx2 := hSb.cell HCK.out.1 HCK.out.2 y2; have zx3 := hSb.cell HCK.out.1 HCK.out.2 y3; clear hSb; go_simp; try (with_reducible rfl))
      try simp only [Act.put, List.setIfInBounds_toArray, List.set_cons_zero, List.set_cons_succ]
      clear hHeld
      refine wpAnyH_ready (rs := [11]) (by kernel_rfl) (by simp) ?_
      refine AllReadyH.cons (i := 11) (by simp only [List.getElem?_toArray, List.getElem?_cons_succ, List.getElem?_cons_zero]; rfl) (fun K hK => ?_) AllReadyH.nil
      go_simp
      refine hK.out _ _ ?_ (fun hHeld => ?_)
      · ((try dsimp only); first | assumption | exact OffT.drew _ _ _ | exact HL3.out | exact HLA.out | exact HL4.out | exact HL4.out.set 3 _)
      clear hK K
      try simp only [Act.put, List.setIfInBounds_toArray, List.set_cons_zero, List.set_cons_succ]
      refine wpAnyH_done (by kernel_rfl) ?_ _
      clear hHeld
      obtain ⟨W6, hW6⟩ : ∃ W6, w4.setCell ⟨w.heap.size + 1 + 1, 3, none⟩ (.slice (some ⟨g, 0, none⟩) (j + 1) cap) = W6 := ⟨_, rfl⟩
      have HF : Hid (Below w.heap.size w W6 ∧ C ≤ W6.heap.size ∧ OffT C (w.heap.size + 1 + 1) W W6 ∧ W6.heap[w.heap.size + 1 + 1]? = some (.cells #[.int .i64 t.op, (.slice pa na ca), (.slice pc nc cc), .slice (some ⟨g, 0, none⟩) (j + 1) cap] 26) ∧ ∃ R, RowK W6 C (.slice (some ⟨g, 0, none⟩) (j + 1) cap) (t.kids.take (j + 1)) R) := by
        rw [← hW6]
        obtain ⟨R', hR'⟩ := HR4.out
        exact ⟨HB4.out.setCell HTB.out _, by simp [World.setCell]; exact HS4.out, (HLW.out.trans HL4.out).set 3 _, set_box3 HT4.out _, R', hR'.set HTC.out 3 _⟩
      rw [hW6]
      clear hW6
      go_wp2
      go_roundw
      case rel => exact ⟨HF.out.1, j + 1, _, by omega, by go_num, HF.out.2.1, HF.out.2.2⟩
      case measure => simp [intOf]; omega
    · have : j = n := by omega
      subst this
      obtain ⟨R, hR⟩ := HS.out.2.2
      have e : t.kids.take j = t.kids := List.take_of_length_le (by rw [HN.out]; exact Nat.le_refl _)
      rw [e] at hR
      have hkk := hR.kids
      obtain ⟨pv, cv, rfl, -⟩ := id hkk
      have HKK : Hid (SKp (blk C wr.heap.size none) wr (.slice pv t.kids.length cv) t.kids) := hkk
      have hz := HS.out.2.1
      have hq := (HS.out.1 (w.heap.size + 1) (by have := HV0.out; omega) (by omega)).trans HW0.out.2.1
      obtain ⟨⟨r0, r1, r2, r3⟩, -⟩ := four hz
      obtain ⟨⟨o0, o1, o2, o3⟩, f0, f1, f2, f3⟩ := four hq
      have HL : Hid (OffT C (w.heap.size + 1 + 1) W wr) := HS.out.1
      have HCS : Hid (C ≤ wr.heap.size) := hCS
      clear hkk hR HIH HK HS hz hq x0 x1 x2
      go_wp2
      refine bodyPost_ret (by simp [results, Try.results11, go_sem, *]; try rfl) rfl ?_
      obtain ⟨U, hU⟩ : ∃ U, (((wr.setCell ⟨w.heap.size + 1, 0, none⟩ (.int .i64 t.op)).setCell ⟨w.heap.size + 1, 1, none⟩ (.slice pa na ca)).setCell ⟨w.heap.size + 1, 2, none⟩ (.slice pc nc cc)).setCell ⟨w.heap.size + 1, 3, none⟩ (.slice pv t.kids.length cv) = U := ⟨_, rfl⟩
      rw [hU]
      have hoff : ∀ b, b ≠ w.heap.size + 1 → U.heap[b]? = wr.heap[b]? := fun b hb => by
        rw [← hU, Below.heap_setCell _ _ _ _ (by exact hb), Below.heap_setCell _ _ _ _ (by exact hb), Below.heap_setCell _ _ _ _ (by exact hb), Below.heap_setCell _ _ _ _ (by exact hb)]
      have hus : U.heap.size = wr.heap.size := by rw [← hU]; simp [World.setCell]
      have hbu : Below w.heap.size w U := by
        rw [← hU]
        exact (((hb.setCell (by show w.heap.size ≤ w.heap.size + 1; omega) _).setCell (by show w.heap.size ≤ w.heap.size + 1; omega) _).setCell (by show w.heap.size ≤ w.heap.size + 1; omega) _).setCell (by show w.heap.size ≤ w.heap.size + 1; omega) _
      have hcs := HCS.out
      have hv0 := HV0.out
      obtain ⟨hn1, hn2, hn3, hn4, hn5⟩ := HNUM.out
      refine ⟨g, .slice pa na ca, .slice pc nc cc, .slice pv t.kids.length cv, rfl, hn2, by rw [hus]; omega, hn1.to ?_, HINT.out.to (fun b hb => ?_) (fun b hb => ⟨hb.1, by rw [hus]; omega, ?_⟩), HKK.out.to (fun b hb => hoff b (by have := hb.1; omega)) (fun b hb => ⟨by have := hb.1; omega, by rw [hus]; exact hb.2.1, ?_⟩), hbu⟩
      · rw [hoff g hn5]; exact HL.out g hn3 hn4
      · rw [hoff b hb.2.2.2.1]; exact HL.out b hb.2.1 hb.2.2.1
      · intro e; exact hb.2.2.2.2 (Option.some.inj e)
      · intro e; have := Option.some.inj e; have := hb.1; omega

end Go.Proofs.Ytnogokikiekcbaa
