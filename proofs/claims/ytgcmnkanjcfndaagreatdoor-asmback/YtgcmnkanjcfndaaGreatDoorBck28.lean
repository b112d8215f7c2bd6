import Derived.Test.YtgcmnkanjcfndaaGreatDoorBck22
import Derived.Test.YtgcmnkanjcfndaaGreatDoorBck27
import Derived.Deep.DeepCutAuto
import Derived.Test.YtgcmnkanjcfndaaGreatDoorBck8
import Derived.Test.YtgcmnkanjcfndaaGreatDoorRows
import Derived.WalkKit
import Derived.ProofKit
import Derived.OpenShut
import Derived.JoinedCond
import Derived.Deep.Slices
import Derived.Deep.Strs
import Derived.SizedLaws
import Derived.Test.YtgcmnkanjcfndaaGreatDoorBck11
import Derived.Lay
import Derived.LaidMore
import Derived.Stop.LaidErr
import Derived.Lib.LaidTab
import Derived.Shelf.Vars
import Derived.Deep.DeepHandedRow
/- The statement AsmBack: its walk. -/
namespace Go.Proofs.YtgcmnkanjcfndaaGreatDoor
open Go.RowKit
set_option linter.unusedVariables false
set_option linter.unusedSimpArgs false

set_option maxRecDepth 100000 in
set_option maxHeartbeats 16000000 in
theorem walk_AsmBack (v0 v1 v2 v3 : Value) (c : Cd) (hk : CdOk c) (hz : CdSz c) (w : World) (hL : Laid w) (hv : CdV w v0 v1 v2 v3 c) :
    Calls Tryz.prog 5 #[.agg #[v0, v1, v2, v3]] w fun e w' => e = .returned (.bool true) ∧ Below w.heap.size w w' := by
  have HL := hidC hL
  have KS : Hid (∀ v, Below w.heap.size w v → Calls Tryz.prog 10 #[] v fun e w' => e = .returned (.bool true) ∧ Below v.heap.size v w') := fun v k => sure25_any v (HL.out.below k)
  have HK := hidC hk
  obtain ⟨q0, d0, rfl, -⟩ := id hv.sign
  obtain ⟨q1, d1, rfl, -⟩ := id hv.regs
  obtain ⟨q2, d2, rfl, -⟩ := id hv.slots
  obtain ⟨q3, d3, rfl, -⟩ := id hv.list
  obtain ⟨N0, hN0⟩ : ∃ N, c.sign.length = N := ⟨_, rfl⟩
  obtain ⟨N1, hN1⟩ : ∃ N, c.regs.length = N := ⟨_, rfl⟩
  obtain ⟨N2, hN2⟩ : ∃ N, c.slots.length = N := ⟨_, rfl⟩
  obtain ⟨N3, hN3⟩ : ∃ N, c.list.length = N := ⟨_, rfl⟩
  rw [hN0, hN1, hN2, hN3] at hv ⊢
  obtain ⟨V, hV⟩ : ∃ V, w.alloc (.cells #[.slice q0 N0 d0, .slice q1 N1 d1, .slice q2 N2 d2, .slice q3 N3 d3] 27) = V := ⟨_, rfl⟩
  obtain ⟨X, hXX⟩ : ∃ X, w.heap.size = X := ⟨_, rfl⟩
  have hb0 : Below w.heap.size w V := by rw [← hV]; exact bel_alloc _ _
  have hr : V.rowIs X 27 4 (f4 (.slice q0 N0 d0) (.slice q1 N1 d1) (.slice q2 N2 d2) (.slice q3 N3 d3)) := by rw [← hV, ← hXX]; exact q4_new _ _ _ _ _ _
  have HCV := hidC (hv.below hb0)
  have HB0 := hidC hb0
  have HR := hidC hr
  have HXC : Hid (∀ v, Below V.heap.size V v → v.cell? ⟨X, 0, none⟩ = some (.slice q0 N0 d0) ∧ v.cell? ⟨X, 1, none⟩ = some (.slice q1 N1 d1) ∧ v.cell? ⟨X, 2, none⟩ = some (.slice q2 N2 d2) ∧ v.cell? ⟨X, 3, none⟩ = some (.slice q3 N3 d3)) := fun v k => c4 (HR.out.of_block (k.block _ HR.out.lt))
  have KT := aText_any _ _ _ _ c hk V (HL.out.below hb0) HCV.out
  have HC : Hid (∀ v, Below V.heap.size V v → Calls Tryz.prog 14 #[.agg #[.slice q0 N0 d0, .slice q1 N1 d1, .slice q2 N2 d2, .slice q3 N3 d3]] v fun e w' => e = .returned (.tuple #[.int .i64 (checkC c).1, .int .i64 (checkC c).2]) ∧ Below v.heap.size v w') := fun v k => rcheck16_any _ _ _ _ c HK.out v (HCV.out.below k)
  obtain ⟨x0, x1, x2, x3⟩ := c4 hr
  by_cases q : (checkC c).1 = 0
  · have hpb := parse_back q (okA_of q hk.sbits hk.ibits)
    rw [if_pos q, if_pos q] at KT
    rw [q] at HC
    obtain ⟨S, hS⟩ : ∃ S, sof (textA c) = S := ⟨_, rfl⟩
    rw [hS] at KT
    have hbs : bs S = textA c := by rw [← hS]; exact bs_of _
    have HT := hidC KT
    have HP : Hid (∀ v, Below w.heap.size w v → Calls Tryz.prog 11 #[.string S] v fun e w' => ∃ p0 p1 p2 p3 t0 t1 t2 t3, e = .returned (.tuple #[.agg #[.slice p0 N0 t0, .slice p1 N1 t1, .slice p2 N2 t2, .slice p3 N3 t3], .int .i64 0, .int .i64 0]) ∧ CdV w' (.slice p0 N0 t0) (.slice p1 N1 t1) (.slice p2 N2 t2) (.slice p3 N3 t3) c ∧ Below v.heap.size v w') := fun v k => by
      have h9 := aparse_any S v (HL.out.below k)
      rw [hbs, hpb] at h9
      refine h9.mono ?_
      rintro e w' ⟨a0, a1, a2, a3, h2, h3, h4, -⟩
      obtain ⟨p0, t0, rfl⟩ := own_len h3.sign
      obtain ⟨p1, t1, rfl⟩ := own_len h3.regs
      obtain ⟨p2, t2, rfl⟩ := own_len h3.slots
      obtain ⟨p3, t3, rfl⟩ := own_len h3.list
      have h3' := h3.cdv
      simp only [hN0, hN1, hN2, hN3] at h2 h3'
      exact ⟨p0, p1, p2, p3, t0, t1, t2, t3, h2, h3', h4⟩
    have HE : Hid (∀ (v : World) (a0 a1 a2 a3 : Value), Below V.heap.size V v → CdV v a0 a1 a2 a3 c → Calls Tryz.prog 13 #[.agg #[.slice q0 N0 d0, .slice q1 N1 d1, .slice q2 N2 d2, .slice q3 N3 d3], .agg #[a0, a1, a2, a3]] v fun e w' => e = .returned (.bool true) ∧ Below v.heap.size v w') := fun v a0 a1 a2 a3 k hg => by
      have h9 := rEqual_any _ _ _ _ a0 a1 a2 a3 c c HK.out HK.out v (HCV.out.below k) hg
      rw [eqC_self] at h9
      exact h9
    clear hL hk hz hv hb0 hr KT hS hbs hpb q hN0 hN1 hN2 hN3
    go_enter Tryz.func5, Tryz.ntmps5
    go_upto_region 1 with fail
    try rw [hV]
    try rw [hXX]
    clear hV hXX
    go_upto_region 5 with (first
      | (go_at_call 8; (with_reducible refine HT.out.mono ?_); rintro e w2 ⟨rfl, b2⟩; have H2 := hidC b2; obtain ⟨y0, y1, y2, y3⟩ := HXC.out _ b2; clear b2)
      | (go_at_call 14; (with_reducible refine (HC.out _ H2.out).mono ?_); rintro e w3 ⟨rfl, b3⟩; have H3 := hidC (bel H2.out b3); clear b3 y0 y1 y2 y3))
    go_upto_region 6 with (go_at_call 11; (with_reducible refine (HP.out _ (bel HB0.out H3.out)).mono ?_); rintro e w4 ⟨p0, p1, p2, p3, t0, t1, t2, t3, rfl, hc4, b4⟩; have H4 := hidC (And.intro hc4 (bel H3.out b4)); clear hc4 b4)
    obtain ⟨V5, hV5⟩ : ∃ V, w4.alloc (.cells #[.slice p0 N0 t0, .slice p1 N1 t1, .slice p2 N2 t2, .slice p3 N3 t3] 27) = V := ⟨_, rfl⟩
    obtain ⟨Y, hYY⟩ : ∃ X, w4.heap.size = X := ⟨_, rfl⟩
    have hb5 : Below w4.heap.size w4 V5 := by rw [← hV5]; exact bel_alloc _ _
    have hr5 : V5.rowIs Y 27 4 (f4 (.slice p0 N0 t0) (.slice p1 N1 t1) (.slice p2 N2 t2) (.slice p3 N3 t3)) := by rw [← hV5, ← hYY]; exact q4_new _ _ _ _ _ _
    have HC5 := hidC (H4.out.1.below hb5)
    have HB5 := hidC (bel H4.out.2 hb5)
    obtain ⟨z0, z1, z2, z3⟩ := c4 hr5
    clear x0 x1 x2 x3
    obtain ⟨x0, x1, x2, x3⟩ := HXC.out _ HB5.out
    try rw [hV5]
    try rw [hYY]
    clear hV5 hYY hb5 hr5
    go_wp2_with (first
      | (go_at_call 13; (with_reducible refine (HE.out _ _ _ _ _ HB5.out HC5.out).mono ?_); rintro e w6 ⟨rfl, b6⟩; have H6 := hidC (bel HB0.out (bel HB5.out b6)); clear b6)
      | (go_at_call 10; (with_reducible refine (KS.out _ H6.out).mono ?_); rintro e w7 ⟨rfl, b7⟩; have H7 := hidC (bel H6.out b7); clear b7))
    refine bodyPost_ret (by simp [results, Tryz.results5, go_sem, *]; try rfl) rfl ?_
    exact ⟨rfl, H7.out⟩
  · rw [if_neg q, if_neg q] at KT
    have HT := hidC KT
    obtain ⟨e, he⟩ : ∃ e, (checkC c).1 = e := ⟨_, rfl⟩
    rw [he] at HC q
    have e2 : (e != 0) = true := by simpa using q
    have e3 : (e == 0) = false := by simpa using q
    clear hL hk hz hv hb0 hr KT q hN0 hN1 hN2 hN3 he
    go_enter Tryz.func5, Tryz.ntmps5
    go_upto_region 1 with fail
    try rw [hV]
    try rw [hXX]
    clear hV hXX
    go_wp2_with (first
      | (go_at_call 8; (with_reducible refine HT.out.mono ?_); rintro e w2 ⟨rfl, b2⟩; have H2 := hidC b2; obtain ⟨y0, y1, y2, y3⟩ := HXC.out _ b2; clear b2)
      | (go_at_call 14; (with_reducible refine (HC.out _ H2.out).mono ?_); rintro e w3 ⟨rfl, b3⟩; have H3 := hidC (bel HB0.out (bel H2.out b3)); clear b3 y0 y1 y2 y3)
      | (go_at_call 10; (with_reducible refine (KS.out _ H3.out).mono ?_); rintro e w7 ⟨rfl, b7⟩; have H7 := hidC (bel H3.out b7); clear b7))
    refine bodyPost_ret (by simp [results, Tryz.results5, go_sem, *]; try rfl) rfl ?_
    exact ⟨rfl, H7.out⟩

end Go.Proofs.YtgcmnkanjcfndaaGreatDoor
/- Arguments opened: an instruction; code. -/
namespace Go.Proofs.YtgcmnkanjcfndaaGreatDoor
open Go.ChangeShapes Go.WideShapes Go.ChangeAt Go.RowKit
set_option linter.unusedVariables false
set_option maxRecDepth 100000

theorem cells_Inst : Tryz.prog.cellsOf 46 = 7 := by kernel_rfl
theorem cells_Param : Tryz.prog.cellsOf 48 = 3 := by kernel_rfl
theorem cells_Type : Tryz.prog.cellsOf 50 = 2 := by kernel_rfl
theorem cells_Slot : Tryz.prog.cellsOf 60 = 5 := by kernel_rfl
theorem cells_Code : Tryz.prog.cellsOf 27 = 4 := by kernel_rfl
theorem bytes_Inst : Tryz.prog.bytesOf 46 = 56 := by kernel_rfl
theorem bytes_Param : Tryz.prog.bytesOf 48 = 32 := by kernel_rfl
theorem bytes_Type : Tryz.prog.bytesOf 50 = 16 := by kernel_rfl
theorem bytes_Slot : Tryz.prog.bytesOf 60 = 32 := by kernel_rfl
theorem weights_mem_all {H : Type} {P : Program} {e : TypeId} : ∀ {l : List (DataW H)} {d : DataW H}, d ∈ l → ∀ n ∈ d.weights P e, n ∈ DataW.weightsAll P e l
  | [], d, h, n, hn => by cases h
  | x :: r, d, h, n, hn => by
    simp only [DataW.weightsAll, List.mem_append]
    rcases List.mem_cons.1 h with rfl | h
    · exact .inl hn
    · exact .inr (weights_mem_all h n hn)

section
variable {H : Type} {enc : TypeId × Value → H} {w : World} {base : Nat} {held : Bool}

def InsOk (i : Ins) : Prop := 0 ≤ i.bits ∧ i.bits < 4294967296
theorem open_Ins {fuel : Nat} {cs : List Value} {x : DataW H × List MemPlace} (h : DataW.trod enc Tryz.prog w base (fun _ => true) held fuel 46 cs = some x) : ∃ i : Ins, cs = inC i ∧ InsOk i := by
  obtain ⟨xs, n, hfn, hx, hl, hxl, hf⟩ := DataW.trod_struct Tryz.underlying46 h
  rw [cells_Inst] at hl
  match cs, hl with
  | [v0, v1, v2, v3, v4, v5, v6], _ =>
  match xs, hxl with
  | [y0, y1, y2, y3, y4, y5, y6], _ =>
    have e0 : DataW.trod enc Tryz.prog w base (fun _ => true) held n 3 [v0] = some y0 := hf 0 _ rfl
    have e1 : DataW.trod enc Tryz.prog w base (fun _ => true) held n 3 [v1] = some y1 := hf 1 _ rfl
    have e2 : DataW.trod enc Tryz.prog w base (fun _ => true) held n 3 [v2] = some y2 := hf 2 _ rfl
    have e3 : DataW.trod enc Tryz.prog w base (fun _ => true) held n 3 [v3] = some y3 := hf 3 _ rfl
    have e4 : DataW.trod enc Tryz.prog w base (fun _ => true) held n 3 [v4] = some y4 := hf 4 _ rfl
    have e5 : DataW.trod enc Tryz.prog w base (fun _ => true) held n 3 [v5] = some y5 := hf 5 _ rfl
    have e6 : DataW.trod enc Tryz.prog w base (fun _ => true) held n 44 [v6] = some y6 := hf 6 _ rfl
    obtain ⟨a0, c0, -, w0⟩ := DataW.trod_int Tryz.underlying3 e0
    obtain ⟨a1, c1, -, w1⟩ := DataW.trod_int Tryz.underlying3 e1
    obtain ⟨a2, c2, -, w2⟩ := DataW.trod_int Tryz.underlying3 e2
    obtain ⟨a3, c3, -, w3⟩ := DataW.trod_int Tryz.underlying3 e3
    obtain ⟨a4, c4, -, w4⟩ := DataW.trod_int Tryz.underlying3 e4
    obtain ⟨a5, c5, -, w5⟩ := DataW.trod_int Tryz.underlying3 e5
    obtain ⟨a6, c6, -, w6⟩ := DataW.trod_int Tryz.underlying44 e6
    simp only [List.cons.injEq, and_true] at c0 c1 c2 c3 c4 c5 c6
    subst c0 c1 c2 c3 c4 c5 c6
    exact ⟨⟨a0, a1, a2, a3, a4, a5, a6⟩, rfl, (bounds_u32 w6).1, Int.lt_add_one_of_le (bounds_u32 w6).2⟩
theorem open_Par {fuel : Nat} {cs : List Value} {x : DataW H × List MemPlace} (h : DataW.trod enc Tryz.prog w base (fun _ => true) held fuel 48 cs = some x) (hw : ∀ n ∈ x.1.weights Tryz.prog 48, n ≤ reachBytes) :
    ∃ p : Par, cs = parCells p ∧ p.name.size ≤ 140737488351232 := by
  obtain ⟨xs, n, hfn, hx, hl, hxl, hf⟩ := DataW.trod_struct Tryz.underlying48 h
  rw [cells_Param] at hl
  match cs, hl with
  | [v0, v1, v2], _ =>
  match xs, hxl with
  | [y0, y1, y2], _ =>
    have e0 : DataW.trod enc Tryz.prog w base (fun _ => true) held n 9 [v0] = some y0 := hf 0 _ rfl
    have e1 : DataW.trod enc Tryz.prog w base (fun _ => true) held n 3 [v1] = some y1 := hf 1 _ rfl
    have e2 : DataW.trod enc Tryz.prog w base (fun _ => true) held n 3 [v2] = some y2 := hf 2 _ rfl
    obtain ⟨a0, c0, hd0, w0⟩ := DataW.trod_string Tryz.underlying9 e0
    obtain ⟨a1, c1, hd1, w1⟩ := DataW.trod_int Tryz.underlying3 e1
    obtain ⟨a2, c2, hd2, w2⟩ := DataW.trod_int Tryz.underlying3 e2
    simp only [List.cons.injEq, and_true] at c0 c1 c2
    subst c0 c1 c2
    subst hx
    have hws : ∀ (j : Nat) (t : TypeId) (d : DataW H), [9, 3, 3][j]? = some t → [y0.1, y1.1, y2.1][j]? = some d → ∀ n ∈ d.weights Tryz.prog t, n ≤ reachBytes := fun j t d ht hd n hn => by
      refine hw n ?_
      show n ∈ DataW.weights Tryz.prog 48 (.agg [y0.1, y1.1, y2.1])
      rw [DataW.weights, Tryz.underlying48]
      exact DataW.weights_mem_each (ts := [9, 3, 3]) ht hd n hn
    have s1 : a0.size ≤ 140737488351232 := by
      have := hws 0 _ _ rfl rfl a0.data.toList.length (by rw [hd0]; simp [DataW.weights])
      simpa [reachBytes] using this
    exact ⟨⟨a0, a1, a2⟩, rfl, s1⟩
theorem open_Ty {fuel : Nat} {cs : List Value} {x : DataW H × List MemPlace} (h : DataW.trod enc Tryz.prog w base (fun _ => true) held fuel 50 cs = some x) : ∃ t : Ty, cs = tyC t ∧ True := by
  obtain ⟨xs, n, hfn, hx, hl, hxl, hf⟩ := DataW.trod_struct Tryz.underlying50 h
  rw [cells_Type] at hl
  match cs, hl with
  | [v0, v1], _ =>
  match xs, hxl with
  | [y0, y1], _ =>
    have e0 : DataW.trod enc Tryz.prog w base (fun _ => true) held n 3 [v0] = some y0 := hf 0 _ rfl
    have e1 : DataW.trod enc Tryz.prog w base (fun _ => true) held n 3 [v1] = some y1 := hf 1 _ rfl
    obtain ⟨a0, c0, -, w0⟩ := DataW.trod_int Tryz.underlying3 e0
    obtain ⟨a1, c1, -, w1⟩ := DataW.trod_int Tryz.underlying3 e1
    simp only [List.cons.injEq, and_true] at c0 c1
    subst c0 c1
    exact ⟨⟨a0, a1⟩, rfl, trivial⟩
def SlOk (s : Sl) : Prop := 0 ≤ s.bits ∧ s.bits < 4294967296
theorem open_Sl {fuel : Nat} {cs : List Value} {x : DataW H × List MemPlace} (h : DataW.trod enc Tryz.prog w base (fun _ => true) held fuel 60 cs = some x) : ∃ s : Sl, cs = slC s ∧ SlOk s := by
  obtain ⟨xs, n, hfn, hx, hl, hxl, hf⟩ := DataW.trod_struct Tryz.underlying60 h
  rw [cells_Slot] at hl
  match cs, hl with
  | [v0, v1, v2, v3, v4], _ =>
  match xs, hxl with
  | [y0, y1, y2, y3], _ =>
    have e0 : DataW.trod enc Tryz.prog w base (fun _ => true) held n 50 [v0, v1] = some y0 := hf 0 _ rfl
    have e1 : DataW.trod enc Tryz.prog w base (fun _ => true) held n 4 [v2] = some y1 := hf 1 _ rfl
    have e2 : DataW.trod enc Tryz.prog w base (fun _ => true) held n 44 [v3] = some y2 := hf 2 _ rfl
    have e3 : DataW.trod enc Tryz.prog w base (fun _ => true) held n 3 [v4] = some y3 := hf 3 _ rfl
    obtain ⟨t, ht, -⟩ := open_Ty e0
    obtain ⟨a1, c1, -⟩ := DataW.trod_bool Tryz.underlying4 e1
    obtain ⟨a2, c2, -, w2⟩ := DataW.trod_int Tryz.underlying44 e2
    obtain ⟨a3, c3, -, w3⟩ := DataW.trod_int Tryz.underlying3 e3
    obtain ⟨K, P⟩ := t
    simp only [tyC, List.cons.injEq, and_true] at ht c1 c2 c3
    obtain ⟨rfl, rfl⟩ := ht
    subst c1 c2 c3
    exact ⟨⟨⟨K, P⟩, a1, a2, a3⟩, rfl, (bounds_u32 w2).1, Int.lt_add_one_of_le (bounds_u32 w2).2⟩

/-- A slice of structs, told by how one of them is opened. -/
theorem open_rowG {α : Type} [Inhabited α] {f : α → List Value} {k bytes : Nat} {t e : TypeId} {Good : α → Prop} (hk : 0 < k) (hf : ∀ x, (f x).length = k) (ht : Tryz.prog.underlying t = some (.slice e)) (hce : Tryz.prog.cellsOf e = k) (hby : Tryz.prog.bytesOf e = bytes) (hb0 : 0 < bytes)
    (hop : ∀ {fuel : Nat} {cs : List Value} {x : DataW H × List MemPlace}, DataW.trod enc Tryz.prog w base (fun _ => true) held fuel e cs = some x → (∀ n ∈ x.1.weights Tryz.prog e, n ≤ reachBytes) → ∃ a : α, cs = f a ∧ Good a)
    {fuel : Nat} {v : Value} {x : DataW H × List MemPlace} (h : DataW.trod enc Tryz.prog w base (fun _ => true) held fuel t [v] = some x) (hw : ∀ n ∈ x.1.weights Tryz.prog t, n ≤ reachBytes) :
    ∃ l : List α, RowG k f w v l ∧ l.length * bytes ≤ 140737488351232 ∧ ∀ a ∈ l, Good a := by
  rcases DataW.trod_slice ht h with ⟨hcs, hx⟩ | ⟨a, len, cap, elems, rest, m, hm, hcs, hx, _, hl, _, hel, hread, _, _⟩
  · simp only [List.cons.injEq, and_true] at hcs
    subst hcs
    exact ⟨[], ⟨none, 0, rfl, .inl rfl⟩, by simp, fun a h => by cases h⟩
  · simp only [List.cons.injEq, and_true] at hcs
    subst hcs
    subst hx
    have key : ∀ i, i < len → ∃ q : α, (∀ j, j < k → w.cell? (a.add (i * k + j)) = (f q)[j]?) ∧ Good q := by
      intro i hi
      have h1 := hread i hi
      rw [hce] at h1
      have hie : i < elems.length := by omega
      rw [List.getElem?_eq_getElem hie] at h1
      obtain ⟨cs', h2, h3⟩ := Option.bind_eq_some_iff.1 h1
      obtain ⟨_, hlen3, hcell⟩ := World.cells?_some h2
      obtain ⟨q, hcs, hok⟩ := hop h3 (fun n hn => hw n (by
        rw [DataW.weights, ht]
        exact List.mem_cons_of_mem _ (List.mem_append_left _ (weights_mem_all (List.mem_map.2 ⟨elems[i], List.getElem_mem hie, rfl⟩) n hn))))
      refine ⟨q, fun j hj => ?_, hok⟩
      have := hcell j hj
      rw [Go.Deep.add_add, hcs] at this
      exact this
    obtain ⟨g, hg⟩ := Go.Deep.choose_lt key
    have hTl : ((List.range len).map g).length = len := by simp
    have hbig : len * bytes ≤ 140737488351232 := by
      have := hw _ (by rw [DataW.weights, ht]; exact List.mem_cons_self)
      rw [hby] at this
      simp only [List.length_map, reachBytes] at this
      have hln : elems.length = len := by omega
      simp only [hln] at this
      exact Nat.le_trans (Nat.mul_le_mul_right _ (Nat.le_add_right _ _)) this
    refine ⟨(List.range len).map g, ?_, by rw [hTl]; exact hbig, ?_⟩
    · refine ⟨some a, cap, by rw [hTl], ?_⟩
      by_cases hl0 : len = 0
      · left; simp [hl0]
      · obtain ⟨b, off, spot⟩ := a
        have hne : 0 < (f (g 0)).length := by rw [hf]; exact hk
        have hspot : spot = none := by
          have := (hg 0 (by omega)).1 0 hk
          rw [List.getElem?_eq_getElem hne] at this
          simpa [Addr.add] using World.cell?_spot this
        subst hspot
        refine .inr ⟨b, off, rfl, fun i hi j hj => ?_⟩
        have hi' : i < len := by rw [hTl] at hi; exact hi
        obtain ⟨q, -⟩ := hg i hi'
        have e : ((List.range len).map g)[i] = g i := by simp
        have hj2 : j < (f (g i)).length := by simpa [e] using hj
        have hj3 : j < k := by rw [← hf (g i)]; exact hj2
        have q' := q j hj3
        rw [add_none, ← Nat.add_assoc] at q'
        rw [q', List.getElem?_eq_getElem hj2]
        congr 1
        simp [e]
    · intro q hq
      obtain ⟨i, hi, rfl⟩ := List.mem_map.1 hq
      exact (hg i (List.mem_range.1 hi)).2

instance : Inhabited Ins := ⟨⟨0, 0, 0, 0, 0, 0, 0⟩⟩
instance : Inhabited Ty := ⟨⟨0, 0⟩⟩
instance : Inhabited Sl := ⟨⟨⟨0, 0⟩, false, 0, 0⟩⟩
instance : Inhabited Par := ⟨⟨⟨#[]⟩, 0, 0⟩⟩

/-- Code that came in. -/
theorem open_Code {r : Reach} {b0 : Nat} {v : Value} {d : DataW H} {pl : List MemPlace} (hv : Value.okWide Tryz.prog w r b0 27 v) (h : DataW.Trod enc Tryz.prog w base (fun _ => true) held 27 v d pl) (hw : ∀ n ∈ d.weights Tryz.prog 27, n ≤ reachBytes) :
    ∃ (v0 v1 v2 v3 : Value) (c : Cd), v = .agg #[v0, v1, v2, v3] ∧ CdV w v0 v1 v2 v3 c ∧ CdOk c ∧ c.sign.length * 32 ≤ 140737488351232 ∧ c.regs.length * 16 ≤ 140737488351232 ∧ c.slots.length * 32 ≤ 140737488351232 ∧ c.list.length * 56 ≤ 140737488351232 := by
  obtain ⟨cs, rfl, hsz⟩ := okWide_struct Tryz.underlying27 hv
  obtain ⟨fuel, hf0⟩ := h
  obtain ⟨xs, n, hfn, hx, hl, hxl, hf⟩ := DataW.trod_struct Tryz.underlying27 hf0
  rw [cells_Code] at hl
  obtain ⟨cl, hcl⟩ : ∃ cl, (Value.agg cs).cells.toList = cl := ⟨_, rfl⟩
  rw [hcl] at hl hf
  have hcs : cs.toList = cl := by rw [← hcl]; simp [Value.cells]
  match cl, hl with
  | [v0, v1, v2, v3], _ =>
  match xs, hxl with
  | [y0, y1, y2, y3], _ =>
    have e0 : DataW.trod enc Tryz.prog w base (fun _ => true) held n 22 [v0] = some y0 := hf 0 _ rfl
    have e1 : DataW.trod enc Tryz.prog w base (fun _ => true) held n 23 [v1] = some y1 := hf 1 _ rfl
    have e2 : DataW.trod enc Tryz.prog w base (fun _ => true) held n 24 [v2] = some y2 := hf 2 _ rfl
    have e3 : DataW.trod enc Tryz.prog w base (fun _ => true) held n 25 [v3] = some y3 := hf 3 _ rfl
    have hd : d = .agg [y0.1, y1.1, y2.1, y3.1] := congrArg Prod.fst hx
    have hws : ∀ (j : Nat) (t : TypeId) (d : DataW H), [22, 23, 24, 25][j]? = some t → [y0.1, y1.1, y2.1, y3.1][j]? = some d → ∀ n ∈ d.weights Tryz.prog t, n ≤ reachBytes := fun j t d' ht hd' n hn => by
      refine hw n ?_
      rw [hd]
      show n ∈ DataW.weights Tryz.prog 27 (.agg [y0.1, y1.1, y2.1, y3.1])
      rw [DataW.weights, Tryz.underlying27]
      exact DataW.weights_mem_each (ts := [22, 23, 24, 25]) ht hd' n hn
    obtain ⟨l0, r0, s0, g0⟩ := open_rowG (Good := fun p : Par => p.name.size ≤ 140737488351232) (by decide) parC_len Tryz.underlying22 cells_Param bytes_Param (by decide) (fun h hw => open_Par h hw) e0 (hws 0 _ _ rfl rfl)
    obtain ⟨l1, r1, s1, g1⟩ := open_rowG (Good := fun _ : Ty => True) (by decide) tyC_len Tryz.underlying23 cells_Type bytes_Type (by decide) (fun h _ => open_Ty h) e1 (hws 1 _ _ rfl rfl)
    obtain ⟨l2, r2, s2, g2⟩ := open_rowG (Good := SlOk) (by decide) slC_len Tryz.underlying24 cells_Slot bytes_Slot (by decide) (fun h _ => open_Sl h) e2 (hws 2 _ _ rfl rfl)
    obtain ⟨l3, r3, s3, g3⟩ := open_rowG (Good := InsOk) (by decide) inC_len Tryz.underlying25 cells_Inst bytes_Inst (by decide) (fun h _ => open_Ins h) e3 (hws 3 _ _ rfl rfl)
    refine ⟨v0, v1, v2, v3, ⟨l0, l1, l2, l3⟩, ?_, ⟨r0, r1, r2, r3⟩, ⟨by show l0.length ≤ _; omega, g0, by show l1.length ≤ _; omega, by show l2.length ≤ _; omega, by show l3.length ≤ _; omega, g2, g3⟩, s0, s1, s2, s3⟩
    rw [Value.agg.injEq]
    apply Array.toList_inj.1
    exact hcs
end

end Go.Proofs.YtgcmnkanjcfndaaGreatDoor
/- What the rows list of the library's variables, and a world that holds it. -/
namespace Go.Proofs.YtgcmnkanjcfndaaGreatDoor
open Go.ChangeShapes Go.WideShapes Go.ChangeAt Go.RowKit
set_option linter.unusedVariables false

theorem t_tab : (Tryz.prog.globals[1]?).map (·.type) = some 208 := by kernel_rfl
theorem c_tab : Tryz.prog.cellsOf 208 = 20 := by kernel_rfl
theorem c_u64 : Tryz.prog.cellsOf 178 = 1 := by kernel_rfl
theorem c_str : Tryz.prog.cellsOf 9 = 1 := by kernel_rfl
theorem c_es : Tryz.prog.cellsOf 232 = 1 := by kernel_rfl
theorem g_syn : Tryz.prog.globalNamed "strconv.ErrSyntax" = some 4 := by kernel_rfl
theorem g_rng : Tryz.prog.globalNamed "strconv.ErrRange" = some 5 := by kernel_rfl
theorem t_syn : (Tryz.prog.globals[4]?).map (·.type) = some 138 := by kernel_rfl
theorem t_rng : (Tryz.prog.globals[5]?).map (·.type) = some 138 := by kernel_rfl
theorem star : "*" ++ "errors.errorString" = "*errors.errorString" := by decide
theorem one_row (u : TypeId) (h : Tryz.prog.typeName? 3 u = some "*errors.errorString") : u = 230 :=
  typeName_ptr_named (nm := "errors.errorString") (by rw [star]; kernel_rfl) (by kernel_rfl) (by decide) u (by rw [star]; exact h)

theorem max_len {W : World} (h : W.ShapedOpen Tryz.prog) : ∃ m, W.cell? ⟨0, 0, none⟩ = some (.int .i64 m) :=
  cell_of_shapedOpen_int (zero := #[.int .i64 0]) h (of_decide_eq_true (by kernel_rfl)) (by kernel_rfl) rfl (by kernel_rfl) (by kernel_rfl) Tryz.underlying3

theorem laid_of {W : World} (hsh : W.ShapedOpen Tryz.prog) (h : laidMetH Tryz.prog Rows.asmBackRow.laid W) : Laid W := by
  rw [MakeChecks.laidMetH_plain _ _ _ (by kernel_rfl)] at h
  have h0 : laidMet Tryz.prog (("math/bits.deBruijn32tab", Rows.laid_math_bits_deBruijn32tab) :: ("math/bits.deBruijn64tab", Rows.laid_math_bits_deBruijn64tab) :: ("internal/strconv.uint64pow10", Lib.tabData .u64 Lib.pow10Tab) :: ("strconv.ErrRange", Rows.laid_strconv_ErrRange) :: [("strconv.ErrSyntax", Rows.laid_strconv_ErrSyntax)]) W := h
  have h2 := h0.tail.tail
  have h4 := h2.tail
  obtain ⟨a0, s0, hv0, -, -, -⟩ := laid_sentinel h4 g_rng t_rng Tryz.underlying138 one_row Tryz.underlying230 Tryz.underlying232 rfl rfl Tryz.underlying9 c_es c_str
  obtain ⟨a1, s1, hv1, -, -, -⟩ := laid_sentinel h4.tail g_syn t_syn Tryz.underlying138 one_row Tryz.underlying230 Tryz.underlying232 rfl rfl Tryz.underlying9 c_es c_str
  refine ⟨max_len hsh, Lib.tabIs_of_head g_tab t_tab Tryz.underlying208 Tryz.underlying178 c_u64 c_tab h2, ⟨230, .pointer (some a1), ?_⟩, ⟨230, .pointer (some a0), ?_⟩⟩
  · have e := World.var?_cell g_syn hv1 0
    simpa using e
  · have e := World.var?_cell g_rng hv0 0
    simpa using e

/-- A world that holds what the rows list. -/
noncomputable def wlA (os : Os) : World := World.laidAll Tryz.prog os Rows.asmBackRow.laid
theorem wl_met (os : Os) (args : Array Value) : laidMetH Tryz.prog Rows.asmBackRow.laid ((wlA os).forCall (fun _ _ => 0) ⟨#[], args, []⟩).memory := by
  rw [MakeChecks.laidMetH_plain _ _ _ (by kernel_rfl)]
  exact laidMet_laidAll _ (by kernel_rfl) (by kernel_rfl)
theorem wl_shaped (os : Os) (args : Array Value) : ((wlA os).forCall (fun _ _ => 0) ⟨#[], args, []⟩).Shaped Tryz.prog :=
  World.shaped_of_ZipB (by kernel_rfl) (by kernel_rfl)

/-- 'There is an input that fits', in that world. -/
theorem witness_wl {H : Type} {enc : TypeId × Value → H} {os : Os} {f : FuncId} {fn : Func} {s : OpenSpec} {conds : List PathCond} {apart : Bool} {laid : List (String × DataW Unit)} (args : Array Value)
    (hok : Input.okWideB Tryz.prog ((wlA os).forCall (fun _ _ => 0) ⟨#[], args, []⟩) f ⟨#[], args, []⟩ = true)
    (hrow : s.preRow enc Tryz.prog fn conds apart laid ((wlA os).forCall (fun _ _ => 0) ⟨#[], args, []⟩).memory args) :
    ∃ (w : World) (tape : Tape) (i : Input), w.os = os ∧ (w.forCall tape i).Shaped Tryz.prog ∧ i.vars = [] ∧ Input.okWide Tryz.prog (w.forCall tape i) .any w.heap.size f i ∧
      s.preRow enc Tryz.prog fn conds apart laid (w.forCall tape i).memory i.args ∧ ({} : Assume).holds Tryz.prog (lone (Frame.enter Tryz.prog f i.args .normal) [] (w.forCall tape i)) :=
  ⟨wlA os, fun _ _ => 0, ⟨#[], args, []⟩, World.laidAll_os _ _ _, wl_shaped os args, rfl, (Input.okWide_of_okWideB hok).2, hrow, by
    simp only [Assume.holds]
    exact ⟨by simp, by simp, by simp, by simp, by simp⟩⟩

end Go.Proofs.YtgcmnkanjcfndaaGreatDoor
