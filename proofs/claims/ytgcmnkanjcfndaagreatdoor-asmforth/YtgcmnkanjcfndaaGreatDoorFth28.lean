import Derived.Test.YtgcmnkanjcfndaaGreatDoorFth22
import Derived.Test.YtgcmnkanjcfndaaGreatDoorFth27
import Derived.Deep.DeepCutAuto
import Derived.Test.YtgcmnkanjcfndaaGreatDoorFth12
import Derived.Test.YtgcmnkanjcfndaaGreatDoorRows
import Derived.Lay
import Derived.LaidMore
import Derived.Stop.LaidErr
import Derived.Lib.LaidTab
import Derived.Shelf.Vars
import Derived.Deep.DeepHandedRow
/- The statement AsmForth: its walk. -/
namespace Go.Proofs.YtgcmnkanjcfndaaGreatDoor
open Go.RowKit
set_option linter.unusedVariables false
set_option linter.unusedSimpArgs false

theorem end_no {ls : List Bs} {rest : Bs} {e : Except Nat (Nat × Cd)} (h : (endA ls rest e).2.1 ≠ 0) : (endA ls rest e).1 = noC := by
  cases e with
  | error n => rfl
  | ok s =>
    unfold endA at h ⊢
    simp only at h ⊢
    split
    · rfl
    split
    · rfl
    · rename_i h1 h2
      rw [if_neg h1, if_neg h2] at h
      exact absurd rfl h
theorem parse_no {t : Bs} (h : (parseA t).2.1 ≠ 0) : (parseA t).1 = noC := by
  unfold parseA at h ⊢
  split
  · rfl
  · rename_i h1
    rw [if_neg h1] at h
    unfold afterA at h ⊢
    split
    · rfl
    · rename_i hd ls heq
      rw [heq] at h
      simp only at h
      split
      · rfl
      · rename_i h2
        rw [if_neg h2] at h
        exact end_no h
theorem noC_cd : CdOk noC := OkC.none.cd (by decide)
theorem noC_V (v : World) : CdV v (.slice none 0 0) (.slice none 0 0) (.slice none 0 0) (.slice none 0 0) noC := (Own4.nil 0 v).cdv

set_option maxRecDepth 100000 in
set_option maxHeartbeats 16000000 in
theorem walk_AsmForth (s : ByteArray) (hs : s.size ≤ 140737488351232) (w : World) (hL : Laid w) :
    Calls Tryz.prog 6 #[.string s] w fun e w' => e = .returned (.bool true) ∧ Below w.heap.size w w' := by
  have HL := hidC hL
  have KS : Hid (∀ v, Below w.heap.size w v → Calls Tryz.prog 10 #[] v fun e w' => e = .returned (.bool true) ∧ Below v.heap.size v w') := fun v k => sure25_any v (HL.out.below k)
  have KP := aparse_any s w hL
  obtain ⟨c, e, l, hr⟩ : ∃ c e l, parseA (bs s) = (c, e, l) := ⟨_, _, _, rfl⟩
  rw [hr] at KP
  by_cases q : e = 0
  · subst q
    obtain ⟨h1, h2⟩ := parse_forth hr
    have HP : Hid (Calls Tryz.prog 11 #[.string s] w fun e w' => ∃ p0 n0 q0 p1 n1 q1 p2 n2 q2 p3 n3 q3, e = .returned (.tuple #[.agg #[.slice p0 n0 q0, .slice p1 n1 q1, .slice p2 n2 q2, .slice p3 n3 q3], .int .i64 0, .int .i64 l]) ∧ CdV w' (.slice p0 n0 q0) (.slice p1 n1 q1) (.slice p2 n2 q2) (.slice p3 n3 q3) c ∧ Below w.heap.size w w' ∧ CdOk c) := by
      refine KP.mono ?_
      rintro e w' ⟨a0, a1, a2, a3, h2, h3, h4, h5⟩
      obtain ⟨p0, q0, rfl⟩ := own_len h3.sign
      obtain ⟨p1, q1, rfl⟩ := own_len h3.regs
      obtain ⟨p2, q2, rfl⟩ := own_len h3.slots
      obtain ⟨p3, q3, rfl⟩ := own_len h3.list
      exact ⟨p0, _, q0, p1, _, q1, p2, _, q2, p3, _, q3, h2, h3.cdv, h4, h5.cd (by decide)⟩
    have hss : sof (textA c) = s := by rw [h2]; cases s; simp [bs, sof]
    have HT : Hid (∀ (v : World) (a0 a1 a2 a3 : Value), CdOk c → Below w.heap.size w v → CdV v a0 a1 a2 a3 c → Calls Tryz.prog 8 #[.agg #[a0, a1, a2, a3]] v fun e w' => e = .returned (.tuple #[.string s, .int .i64 0]) ∧ Below v.heap.size v w') := fun v a0 a1 a2 a3 ho k hv => by
      have h9 := aText_any a0 a1 a2 a3 c ho v (HL.out.below k) hv
      rw [if_pos h1, if_pos h1, hss] at h9
      exact h9
    have HC : Hid (∀ (v : World) (a0 a1 a2 a3 : Value), CdOk c → CdV v a0 a1 a2 a3 c → Calls Tryz.prog 14 #[.agg #[a0, a1, a2, a3]] v fun e w' => e = .returned (.tuple #[.int .i64 0, .int .i64 (checkC c).2]) ∧ Below v.heap.size v w') := fun v a0 a1 a2 a3 ho hv => by
      have h9 := rcheck16_any a0 a1 a2 a3 c ho v hv
      rw [h1] at h9
      exact h9
    clear hL KP hr h1 h2 hs hss
    go_enter Tryz.func6, Tryz.ntmps6
    go_upto_region 2 with (go_at_call 11; (with_reducible refine HP.out.mono ?_); rintro e w1 ⟨p0, n0, q0, p1, n1, q1, p2, n2, q2, p3, n3, q3, rfl, hc1, b1, ho1⟩; have H1 := hidC (And.intro hc1 (And.intro b1 ho1)); clear hc1 b1 ho1)
    obtain ⟨V, hV⟩ : ∃ V, w1.alloc (.cells #[.slice p0 n0 q0, .slice p1 n1 q1, .slice p2 n2 q2, .slice p3 n3 q3] 27) = V := ⟨_, rfl⟩
    obtain ⟨X, hXX⟩ : ∃ X, w1.heap.size = X := ⟨_, rfl⟩
    have hb4 : Below w1.heap.size w1 V := by rw [← hV]; exact bel_alloc _ _
    have hr4 : V.rowIs X 27 4 (f4 (.slice p0 n0 q0) (.slice p1 n1 q1) (.slice p2 n2 q2) (.slice p3 n3 q3)) := by rw [← hV, ← hXX]; exact q4_new _ _ _ _ _ _
    have HCV := hidC (H1.out.1.below hb4)
    have HBV := hidC (bel H1.out.2.1 hb4)
    have HR4 := hidC hr4
    try rw [hV]
    try rw [hXX]
    obtain ⟨x0, x1, x2, x3⟩ := c4 hr4
    clear hV hXX hb4 hr4
    go_wp2_with (first
      | (go_at_call 8; (with_reducible refine (HT.out _ _ _ _ _ H1.out.2.2 HBV.out HCV.out).mono ?_); rintro e w2 ⟨rfl, b2⟩; have H2 := hidC b2; obtain ⟨y0, y1, y2, y3⟩ := c4 (HR4.out.of_block (b2.block _ HR4.out.lt)); clear b2)
      | (go_at_call 14; (with_reducible refine (HC.out _ _ _ _ _ H1.out.2.2 (HCV.out.below H2.out)).mono ?_); rintro e w3 ⟨rfl, b3⟩; have H3 := hidC (bel (bel HBV.out H2.out) b3); clear b3)
      | (go_at_call 10; (with_reducible refine (KS.out _ H3.out).mono ?_); rintro e w4 ⟨rfl, b4⟩; have H4 := hidC (bel H3.out b4); clear b4))
    refine bodyPost_ret (by simp [results, Tryz.results6, go_sem, *]; try rfl) rfl ?_
    exact ⟨rfl, H4.out⟩
  · have hno := parse_no (t := bs s) (by rw [hr]; exact q)
    rw [hr] at hno
    have hno : c = noC := hno
    subst hno
    have HP : Hid (Calls Tryz.prog 11 #[.string s] w fun e' w' => ∃ p0 q0 p1 q1 p2 q2 p3 q3, e' = .returned (.tuple #[.agg #[.slice p0 0 q0, .slice p1 0 q1, .slice p2 0 q2, .slice p3 0 q3], .int .i64 e, .int .i64 l]) ∧ CdV w' (.slice p0 0 q0) (.slice p1 0 q1) (.slice p2 0 q2) (.slice p3 0 q3) noC ∧ Below w.heap.size w w') := by
      refine KP.mono ?_
      rintro e' w' ⟨a0, a1, a2, a3, h2, h3, h4, h5⟩
      obtain ⟨p0, q0, rfl⟩ := own_len h3.sign
      obtain ⟨p1, q1, rfl⟩ := own_len h3.regs
      obtain ⟨p2, q2, rfl⟩ := own_len h3.slots
      obtain ⟨p3, q3, rfl⟩ := own_len h3.list
      exact ⟨p0, q0, p1, q1, p2, q2, p3, q3, h2, h3.cdv, h4⟩
    have HE : Hid (∀ (v : World) (a0 a1 a2 a3 : Value), CdV v a0 a1 a2 a3 noC → Calls Tryz.prog 13 #[.agg #[a0, a1, a2, a3], .agg #[.slice none 0 0, .slice none 0 0, .slice none 0 0, .slice none 0 0]] v fun e w' => e = .returned (.bool true) ∧ Below v.heap.size v w') := fun v a0 a1 a2 a3 hv => by
      have h9 := rEqual_any a0 a1 a2 a3 _ _ _ _ noC noC noC_cd noC_cd v hv (noC_V v)
      rw [eqC_self] at h9
      exact h9
    have e2 : (e != 0) = true := by simpa using q
    have e3 : (e == 0) = false := by simpa using q
    clear hL KP hr hs q
    go_enter Tryz.func6, Tryz.ntmps6
    go_upto_region 2 with (go_at_call 11; (with_reducible refine HP.out.mono ?_); rintro e' w1 ⟨p0, q0, p1, q1, p2, q2, p3, q3, rfl, hc1, b1⟩; have H1 := hidC (And.intro hc1 b1); clear hc1 b1)
    obtain ⟨V, hV⟩ : ∃ V, w1.alloc (.cells #[.slice p0 0 q0, .slice p1 0 q1, .slice p2 0 q2, .slice p3 0 q3] 27) = V := ⟨_, rfl⟩
    obtain ⟨X, hXX⟩ : ∃ X, w1.heap.size = X := ⟨_, rfl⟩
    have hb4 : Below w1.heap.size w1 V := by rw [← hV]; exact bel_alloc _ _
    have hr4 : V.rowIs X 27 4 (f4 (.slice p0 0 q0) (.slice p1 0 q1) (.slice p2 0 q2) (.slice p3 0 q3)) := by rw [← hV, ← hXX]; exact q4_new _ _ _ _ _ _
    have HCV := hidC (H1.out.1.below hb4)
    have HBV := hidC (bel H1.out.2 hb4)
    try rw [hV]
    try rw [hXX]
    obtain ⟨x0, x1, x2, x3⟩ := c4 hr4
    clear hV hXX hb4 hr4
    go_wp2_with (first
      | (go_at_call 13; (with_reducible refine (HE.out _ _ _ _ _ HCV.out).mono ?_); rintro e w3 ⟨rfl, b3⟩; have H3 := hidC (bel HBV.out b3); clear b3)
      | (go_at_call 10; (with_reducible refine (KS.out _ H3.out).mono ?_); rintro e w4 ⟨rfl, b4⟩; have H4 := hidC (bel H3.out b4); clear b4))
    refine bodyPost_ret (by simp [results, Tryz.results6, go_sem, *]; try rfl) rfl ?_
    exact ⟨rfl, H4.out⟩

end Go.Proofs.YtgcmnkanjcfndaaGreatDoor
/- What the rows list of the library's variables, and a world that holds it. -/
namespace Go.Proofs.YtgcmnkanjcfndaaGreatDoor
open Go.ChangeShapes Go.WideShapes Go.ChangeAt Go.RowKit
set_option linter.unusedVariables false

theorem t_tab : (Tryz.prog.globals[1]?).map (·.type) = some 208 := by kernel_rfl
theorem c_tab : Tryz.prog.cellsOf 208 = 20 := by kernel_rfl
theorem c_u64 : Tryz.prog.cellsOf 178 = 1 := by kernel_rfl
theorem c_str : Tryz.prog.cellsOf 9 = 1 := by kernel_rfl
theorem c_es : Tryz.prog.cellsOf 232 = 1 := by kernel_rfl
theorem g_syn : Tryz.prog.globalNamed "strconv.ErrSyntax" = some 4 := by kernel_rfl
theorem g_rng : Tryz.prog.globalNamed "strconv.ErrRange" = some 5 := by kernel_rfl
theorem t_syn : (Tryz.prog.globals[4]?).map (·.type) = some 138 := by kernel_rfl
theorem t_rng : (Tryz.prog.globals[5]?).map (·.type) = some 138 := by kernel_rfl
theorem star : "*" ++ "errors.errorString" = "*errors.errorString" := by decide
theorem one_row (u : TypeId) (h : Tryz.prog.typeName? 3 u = some "*errors.errorString") : u = 230 :=
  typeName_ptr_named (nm := "errors.errorString") (by rw [star]; kernel_rfl) (by kernel_rfl) (by decide) u (by rw [star]; exact h)

theorem max_len {W : World} (h : W.ShapedOpen Tryz.prog) : ∃ m, W.cell? ⟨0, 0, none⟩ = some (.int .i64 m) :=
  cell_of_shapedOpen_int (zero := #[.int .i64 0]) h (of_decide_eq_true (by kernel_rfl)) (by kernel_rfl) rfl (by kernel_rfl) (by kernel_rfl) Tryz.underlying3

theorem laid_of {W : World} (hsh : W.ShapedOpen Tryz.prog) (h : laidMetH Tryz.prog Rows.asmBackRow.laid W) : Laid W := by
  rw [MakeChecks.laidMetH_plain _ _ _ (by kernel_rfl)] at h
  have h0 : laidMet Tryz.prog (("math/bits.deBruijn32tab", Rows.laid_math_bits_deBruijn32tab) :: ("math/bits.deBruijn64tab", Rows.laid_math_bits_deBruijn64tab) :: ("internal/strconv.uint64pow10", Lib.tabData .u64 Lib.pow10Tab) :: ("strconv.ErrRange", Rows.laid_strconv_ErrRange) :: [("strconv.ErrSyntax", Rows.laid_strconv_ErrSyntax)]) W := h
  have h2 := h0.tail.tail
  have h4 := h2.tail
  obtain ⟨a0, s0, hv0, -, -, -⟩ := laid_sentinel h4 g_rng t_rng Tryz.underlying138 one_row Tryz.underlying230 Tryz.underlying232 rfl rfl Tryz.underlying9 c_es c_str
  obtain ⟨a1, s1, hv1, -, -, -⟩ := laid_sentinel h4.tail g_syn t_syn Tryz.underlying138 one_row Tryz.underlying230 Tryz.underlying232 rfl rfl Tryz.underlying9 c_es c_str
  refine ⟨max_len hsh, Lib.tabIs_of_head g_tab t_tab Tryz.underlying208 Tryz.underlying178 c_u64 c_tab h2, ⟨230, .pointer (some a1), ?_⟩, ⟨230, .pointer (some a0), ?_⟩⟩
  · have e := World.var?_cell g_syn hv1 0
    simpa using e
  · have e := World.var?_cell g_rng hv0 0
    simpa using e

/-- A world that holds what the rows list. -/
noncomputable def wlA (os : Os) : World := World.laidAll Tryz.prog os Rows.asmBackRow.laid
theorem wl_met (os : Os) (args : Array Value) : laidMetH Tryz.prog Rows.asmBackRow.laid ((wlA os).forCall (fun _ _ => 0) ⟨#[], args, []⟩).memory := by
  rw [MakeChecks.laidMetH_plain _ _ _ (by kernel_rfl)]
  exact laidMet_laidAll _ (by kernel_rfl) (by kernel_rfl)
theorem wl_shaped (os : Os) (args : Array Value) : ((wlA os).forCall (fun _ _ => 0) ⟨#[], args, []⟩).Shaped Tryz.prog :=
  World.shaped_of_ZipB (by kernel_rfl) (by kernel_rfl)

/-- 'There is an input that fits', in that world. -/
theorem witness_wl {H : Type} {enc : TypeId × Value → H} {os : Os} {f : FuncId} {fn : Func} {s : OpenSpec} {conds : List PathCond} {apart : Bool} {laid : List (String × DataW Unit)} (args : Array Value)
    (hok : Input.okWideB Tryz.prog ((wlA os).forCall (fun _ _ => 0) ⟨#[], args, []⟩) f ⟨#[], args, []⟩ = true)
    (hrow : s.preRow enc Tryz.prog fn conds apart laid ((wlA os).forCall (fun _ _ => 0) ⟨#[], args, []⟩).memory args) :
    ∃ (w : World) (tape : Tape) (i : Input), w.os = os ∧ (w.forCall tape i).Shaped Tryz.prog ∧ i.vars = [] ∧ Input.okWide Tryz.prog (w.forCall tape i) .any w.heap.size f i ∧
      s.preRow enc Tryz.prog fn conds apart laid (w.forCall tape i).memory i.args ∧ ({} : Assume).holds Tryz.prog (lone (Frame.enter Tryz.prog f i.args .normal) [] (w.forCall tape i)) :=
  ⟨wlA os, fun _ _ => 0, ⟨#[], args, []⟩, World.laidAll_os _ _ _, wl_shaped os args, rfl, (Input.okWide_of_okWideB hok).2, hrow, by
    simp only [Assume.holds]
    exact ⟨by simp, by simp, by simp, by simp, by simp⟩⟩

end Go.Proofs.YtgcmnkanjcfndaaGreatDoor
