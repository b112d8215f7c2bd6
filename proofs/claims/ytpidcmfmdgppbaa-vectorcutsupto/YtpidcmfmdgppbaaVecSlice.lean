import Derived.Test.YtpidcmfmdgppbaaVecCutP
import Derived.Test.YtpidcmfmdgppbaaVecOwnP
import Derived.ChangeKeysEq
/- Parts of lists. -/
namespace Go.Proofs.Ytpidcmfmdgppbaa
open Go.RowKit
set_option linter.unusedVariables false

def sfrom (p : Option Addr) (c k : Nat) : Option Addr := if c = k then p else p.map (·.add k)
theorem reads_to {w : World} {p : Option Addr} {n : Nat} {X : Nat → Value} (h : Reads w p n X) {k : Nat} (hk : k ≤ n) : Reads w p k X := by
  rcases h with h | ⟨b, o, e, h⟩
  · exact .inl (by omega)
  · exact .inr ⟨b, o, e, fun i hi => h i (by omega)⟩
theorem reads_from {w : World} {p : Option Addr} {n c : Nat} {X : Nat → Value} (h : Reads w p n X) {k : Nat} (hk : k ≤ n) (hc : n ≤ c) : Reads w (sfrom p c k) (n - k) (fun i => X (k + i)) := by
  rcases Nat.eq_zero_or_pos (n - k) with z | z
  · exact .inl z
  rcases h with h | ⟨b, o, e, h⟩
  · exact .inl (by omega)
  · subst e
    refine .inr ⟨b, o + k, ?_, fun i hi => ?_⟩
    · unfold sfrom; rw [if_neg (by omega)]
      by_cases c0 : k = 0
      · subst c0; simp [Addr.add]
      · simp [Addr.add, c0]
    · rw [Nat.add_assoc]; exact h (k + i) (by omega)

theorem und_L : Try.prog.underlying 24 = some (.slice (Try.prog.elem 24)) := by kernel_rfl

theorem elem_L : Try.prog.elem 24 = 38 := by kernel_rfl

theorem cells_F5 : Try.prog.cellsOf 38 = 1 := by kernel_rfl

theorem size_F (w : World) : (sizeOf 38).run Try.prog w = .ok 1 w := by
  obtain ⟨i0, hi0, hz0, hz1, hz2⟩ := info_parts info_F
  have h := run_sizeOf (P := Try.prog) (w := w) hi0
  rw [h, cells_F5]

theorem slice_to (p : Option Addr) (n c h : Nat) (hh : h ≤ c) (w : World) : (Instr.sliceAt 24 (.slice p n c) none (some (.int .i64 h)) none).run Try.prog w = .ok (.slice p h c) w := by
  rw [run_sliceAt_slice (h := und_L), run_slice_h (ht := und_L) (h0 := by omega) (h2 := by omega), elem_L, size_F]
  show Result.ok (sliced p 0 (h : Int).toNat c 1) w = _
  unfold sliced
  congr 1
  by_cases c0 : c = 0
  · subst c0; simp
  · rw [if_neg c0]; cases p <;> simp [Addr.add]

theorem slice_from (p : Option Addr) (n c k : Nat) (hk : k ≤ n) (w : World) : (Instr.sliceAt 24 (.slice p n c) (some (.int .i64 k)) none none).run Try.prog w = .ok (.slice (sfrom p c k) (n - k) (c - k)) w := by
  rw [run_sliceAt_slice (h := und_L), run_slice_l (ht := und_L) (h0 := by omega) (h1 := by omega), elem_L, size_F]
  show Result.ok (sliced p (k : Int).toNat n c 1) w = _
  unfold sliced sfrom
  simp

theorem append_empty (ty : TypeId) (x : Option Addr) (c g : Nat) (w : World) : (Builtin.append_ #[24, 24] ty #[.slice (some ⟨g, 0, none⟩) 1 1, .slice x 0 c]).run Try.prog w = .ok (.slice (some ⟨g, 0, none⟩) 1 1) w := by
  obtain ⟨i0, hi0, hz0, hz1, hz2⟩ := info_parts info_F
  cases x with
  | none => simp [Builtin.append_, run_underlying Try.underlying24, sizeOf, typeInfo, hi0, Builtin.lenOf, Builtin.firstCells, storeCells]
  | some a => simp [Builtin.append_, run_underlying Try.underlying24, sizeOf, typeInfo, hi0, Builtin.lenOf, Builtin.firstCells, storeCells, loadCells, loadCellsFrom]

theorem step_append_eq {P : Program} {w : World} {ops : Array Oper} {o : Oper} {a : Act} {K : Act → World → Prop} {Q : Exit → Act → World → Prop} {E : Prop} (hgd : o.guard = none) (s x : Operand) (t : TypeId)
    (ho : o.op = .call { callee := .builtin .append, args := #[s, x], argTypes := #[t, t] }) (v v2 v' : Value) (hs : a.eval s = v) (hx : a.eval x = v2) (hr : (Builtin.append_ #[t, t] o.type #[v, v2]).run P w = .ok v' w) (h : K (a.put o.dst v') w) :
    if Region.wanted o (yielded ops a.tmps) = true then Oper.wp P o a w K Q else E := by
  have hw : Region.wanted o (yielded ops a.tmps) = true := by simp [Region.wanted, hgd]
  rw [if_pos hw]
  unfold Oper.wp execOp
  simp only [ho, resolve, invoke, builtin, Sem.run_bind, Sem.run_pure, Result.andThen_ok, List.map_toArray, List.map_cons, List.map_nil, hs, hx, hr]
  exact h

theorem own_one (w : World) (x : Value) (t : TypeId) (base : Nat) (hb : base ≤ w.heap.size) : (w.alloc (.cells #[x] t)).ownsRow base t 1 (.slice (some ⟨w.heap.size, 0, none⟩) 1 1) 1 [x] := by
  have h := World.rowIs_alloc w #[x] t (fun _ => x) (fun i hi => by
    have : i = 0 := by simp at hi; omega
    subst this; rfl)
  exact owns_of_row (n := 1) (f := fun _ => x) h hb (by decide)

theorem vals_cons (x : Value) (f : Nat → Value) (m : Nat) (F : Nat → Value) (h0 : F 0 = x) (h : ∀ i, i < m → F (i + 1) = f i) : [x] ++ vals f m = vals F (1 + m) := by
  have := vals_app (fun _ => x) 1 (vals f m) f (fun i hi => vals_at f m i (by rw [vals_len] at hi; exact hi))
  rw [vals_len] at this
  have e : vals (fun _ => x) 1 = [x] := rfl
  rw [e] at this
  rw [this]
  refine vals_congr fun i hi => ?_
  by_cases c : i < 1
  · rw [if_pos c, show i = 0 by omega, h0]
  · rw [if_neg c]
    obtain ⟨j, rfl⟩ : ∃ j, i = j + 1 := ⟨i - 1, by omega⟩
    rw [h j (by omega)]; rfl

theorem news_reads {w : World} {a : Addr} {n : Nat} {X : Nat → Value} (h : Reads w (some a) n X) : ∀ j u, (vals X n)[j]? = some u → w.cell? (a.add j) = some u := by
  intro j u hu
  have hj : j < n := by
    rcases Nat.lt_or_ge j n with c | c
    · exact c
    · rw [List.getElem?_eq_none (by rw [vals_len]; exact c)] at hu; cases hu
  rcases h with h | ⟨b, o, e, h⟩
  · omega
  cases e
  rw [vals_at _ n j hj] at hu
  cases hu
  have := h j hj
  by_cases c : j = 0
  · subst c; simpa [Addr.add] using this
  · simpa [Addr.add, c] using this

def two {α : Type} (x y : α) : Nat → α := fun i => if i = 0 then x else y
theorem lsts_two (v : World) (p q : Option Addr) (n c c' : Nat) (X Y : Nat → Int) (hp : Reads v p n (fun i => .int .u32 (X i))) (hq : Reads v q n (fun i => .int .u32 (Y i))) :
    Lsts .u32 (v.alloc (.cells #[.slice p n c, .slice q n c'] 24)) (some ⟨v.heap.size, 0, none⟩) 2 (two p q) (fun _ => n) (two c c') (two X Y) := by
  refine ⟨.inr ⟨_, 0, rfl, fun i hi => ?_⟩, fun i hi => ?_⟩
  · have : i = 0 ∨ i = 1 := by omega
    rcases this with rfl | rfl <;> simp [two, go_sem]
  · have : i = 0 ∨ i = 1 := by omega
    rcases this with rfl | rfl
    · exact hp.below (mbel_alloc v _)
    · exact hq.below (mbel_alloc v _)
theorem el_two (n i : Nat) (hi : i < n) (X Y : Nat → Int) : elAt (fun _ => n) (two X Y) 2 i 0 = X i ∧ elAt (fun _ => n) (two X Y) 2 i 1 = Y i ∧ elAt (fun _ => n) (two X Y) 2 i 2 = 0 := by
  have e : (if n = 1 then 0 else i) = i := by split <;> omega
  unfold elAt
  refine ⟨?_, ?_, ?_⟩
  · rw [if_pos (by omega), e]; rfl
  · rw [if_pos (by omega), e]; rfl
  · rw [if_neg (by omega)]

theorem apply_two (op : Int) (h : takes op = 2) (v : World) (p q : Option Addr) (n c c' : Nat) (X Y : Nat → Int) (hX : ∀ i, IsP (X i)) (hY : ∀ i, IsP (Y i)) (hn : n ≤ 1048576) (hp : Reads v p n (fun i => .int .u32 (X i))) (hq : Reads v q n (fun i => .int .u32 (Y i))) :
    Calls Try.prog 10 #[.int .i64 op, .slice (some ⟨v.heap.size, 0, none⟩) 2 2] (v.alloc (.cells #[.slice p n c, .slice q n c'] 24)) fun e w' => ∃ g, e = .returned (.tuple #[.slice (some ⟨g, 0, none⟩) n n, .int .i64 0]) ∧ v.heap.size ≤ g ∧ w'.rowIs g 38 n (fun i => .int .u32 (opf op (X i) (Y i) 0)) ∧ Below v.heap.size v w' := by
  have hs : shp (fun _ => n) 1 = some n := by
    show (match shp (fun _ => n) 0 with | none => none | some k => _) = _
    show (if n = n then some n else _) = _
    rw [if_pos rfl]
  refine (apply_ok op (by omega) v.heap.size 0 2 2 h n (two p q) (fun _ => n) (two c c') (two X Y) ?_ (fun _ => hn) (Nat.le_refl _) hs _ (lsts_two v p q n c c' X Y hp hq)).mono ?_
  · intro i j
    unfold two; split
    · exact hX j
    · exact hY j
  · rintro e w' ⟨g, rfl, hg, hr, hb⟩
    refine ⟨g, rfl, by simp at hg; omega, hr.congr fun i hi => ?_, bel (mbel_alloc v _) hb⟩
    obtain ⟨e0, e1, e2⟩ := el_two n i hi X Y
    rw [e0, e1, e2]

end Go.Proofs.Ytpidcmfmdgppbaa
