import Derived.Test.YtgcmnkanjcfndaaGreatDoorTxt1
import Derived.Test.YtgcmnkanjcfndaaGreatDoorTxt18
import Derived.Test.YtgcmnkanjcfndaaGreatDoorTxt8
import Derived.OrdersHeld
import Derived.Deep.DeepCutAuto
import Derived.Lib.AppendStr
import Derived.Lib.Builder
import Derived.Laws.Externs
import Derived.Lib.MakeNoZero
import Derived.Lib.UnsafeStr
import Derived.Laws.IdiomCopy
namespace Go.Proofs.YtgcmnkanjcfndaaGreatDoor
open Go.RowKit
set_option linter.unusedVariables false
set_option linter.unusedSimpArgs false
theorem Own4.mono {E E' : Nat} {w : World} {u0 u1 u2 u3 : Value} {c : Cd} (h : Own4 E w u0 u1 u2 u3 c) (hE : E' ≤ E) : Own4 E' w u0 u1 u2 u3 c := ⟨own_mono h.sign hE, own_mono h.regs hE, own_mono h.slots hE, own_mono h.list hE⟩
theorem Own4.putLow {E C : Nat} {w w' : World} {u0 u1 u2 u3 : Value} {c : Cd} (h : Own4 E w u0 u1 u2 u3 c) (p : PutR C w w') (hC : C < E) : Own4 E w' u0 u1 u2 u3 c :=
 ⟨own_keep h.sign fun b hb => p.oth b (by have := (h.sign.lt b hb).1; omega), own_keep h.regs fun b hb => p.oth b (by have := (h.regs.lt b hb).1; omega), own_keep h.slots fun b hb => p.oth b (by have := (h.slots.lt b hb).1; omega), own_keep h.list fun b hb => p.oth b (by have := (h.list.lt b hb).1; omega)⟩
theorem Own4.nil (E : Nat) (w : World) : Own4 E w (.slice none 0 0) (.slice none 0 0) (.slice none 0 0) (.slice none 0 0) noC := ⟨⟨rfl, .inl ⟨rfl, rfl⟩⟩, ⟨rfl, .inl ⟨rfl, rfl⟩⟩, ⟨rfl, .inl ⟨rfl, rfl⟩⟩, ⟨rfl, .inl ⟨rfl, rfl⟩⟩⟩
theorem Own4.cdv {E : Nat} {w : World} {u0 u1 u2 u3 : Value} {c : Cd} (h : Own4 E w u0 u1 u2 u3 c) : CdV w u0 u1 u2 u3 c := ⟨own_row parC_len h.sign, own_row tyC_len h.regs, own_row slC_len h.slots, own_row inC_len h.list⟩
def ParT (w : World) (r : Cd × Int × Int) (e : Ending) (w' : World) : Prop :=
 ∃ v0 v1 v2 v3 : Value, e = .returned (.tuple #[.agg #[v0, v1, v2, v3], .int .i64 r.2.1, .int .i64 r.2.2]) ∧ Own4 w.heap.size w' v0 v1 v2 v3 r.1 ∧ Below w.heap.size w w' ∧ OkC r.1 4194304
set_option maxRecDepth 100000 in
set_option maxHeartbeats 16000000 in
theorem aparse_any (T : ByteArray) (w : World) (hL : Laid w) : Calls Tryz.prog 11 #[.string T] w (ParT w (parseA (bs T))) := by
 have HNO : Hid (∀ n, OkC noC n) := fun n => ⟨Nat.zero_le _, OkC.none.sign, OkC.none.slots, OkC.none.list⟩
 obtain ⟨W0, hW0⟩ : ∃ W, w.alloc (.cells #[.slice none 0 0, .slice none 0 0, .slice none 0 0, .slice none 0 0] 27) = W := ⟨_, rfl⟩
 have hb0 : Below w.heap.size w W0 := by rw [← hW0]; exact bel_alloc _ _
 obtain ⟨X, hX⟩ : ∃ X, w.heap.size = X := ⟨_, rfl⟩
 have hr0 : W0.rowIs X 27 4 (f4 (.slice none 0 0) (.slice none 0 0) (.slice none 0 0) (.slice none 0 0)) := by rw [← hW0, ← hX]; exact q4_new _ _ _ _ _ _
 have HWX := hidC hX
 have HB0 := hidC hb0
 have HR0 := hidC hr0
 have HL0 := hidC (hL.below hb0)
 by_cases hbig : 4194304 < T.size
 ·have e1 : (4194304 : Int) < (T.size : Int) := by omega
  have HP : Hid (parseA (bs T) = (noC, 2, 0)) := by show _ = _; unfold parseA; rw [if_pos (by rw [bs_length]; exact hbig)]
  obtain ⟨x0, x1, x2, x3⟩ := c4 hr0
  obtain ⟨f0, f1, f2, f3⟩ := z4 hr0
  obtain ⟨hp1, hp2⟩ := put4 hr0 (.slice none 0 0) (.slice none 0 0) (.slice none 0 0) (.slice none 0 0)
  obtain ⟨W1, hW1⟩ : ∃ W, (((W0.setCell ⟨X, 0, none⟩ (.slice none 0 0)).setCell ⟨X, 1, none⟩ (.slice none 0 0)).setCell ⟨X, 2, none⟩ (.slice none 0 0)).setCell ⟨X, 3, none⟩ (.slice none 0 0) = W := ⟨_, rfl⟩
  rw [hW1] at hp1 hp2
  obtain ⟨y0, y1, y2, y3⟩ := c4 hp1
  have HP2 := hidC hp2
  rw [HP.out]
  clear hb0 hr0 hL hbig hp1 hp2
  go_enter Tryz.func11, Tryz.ntmps11
  go_upto_region 1 with fail
  try rw [hW0]
  try rw [hX]
  go_upto_region 3 with fail
  refine bodyPost_ret (by simp [results, Tryz.results11, go_sem, *]; try rfl) rfl ?_
  refine ⟨_, _, _, _, rfl, Own4.nil _ _, ?_, HNO.out _⟩
  exact HB0.out.trans (HP2.out.bel _ (Nat.le_of_eq HWX.out))
 have HTS : Hid (T.size ≤ 4194304) := by show _ ≤ _; omega
 have e1 : ¬ (4194304 : Int) < (T.size : Int) := by omega
 have HP : Hid (parseA (bs T) = afterA (cutN [] (bs T)).2 (cutN [] (bs T)).1) := by show _ = _; unfold parseA; rw [if_neg (by rw [bs_length]; omega)]
 obtain ⟨r, hr⟩ : ∃ r, parseA (bs T) = r := ⟨_, rfl⟩
 rw [hr] at HP ⊢
 have HTL : Hid ((bs T).length ≤ 4194304) := by show _ ≤ _; rw [bs_length]; exact HTS.out
 obtain ⟨E, hE⟩ : ∃ E, W0.heap.size = E := ⟨_, rfl⟩
 have HEX : Hid (W0.heap.size = E ∧ X < E) := ⟨hE, by rw [← hE]; exact hr0.lt⟩
 have hnr := newR_any W0
 rw [hE] at hnr
 have HNR := hidC hnr
 have HLW : Hid (LaidE E W0) := by show LaidE E W0; rw [← hE]; exact LaidE.start HL0.out
 clear hb0 hr0 hL hbig hr hE hnr
 go_enter Tryz.func11, Tryz.ntmps11
 go_upto_region 1 with fail
 try rw [hW0]
 try rw [hX]
 clear hW0 hX
 go_upto_if 16 with (first
   | (go_at_call 22; (with_reducible refine HNR.out.mono ?_); rintro e w1 ⟨B, m0, m1, m2, m3, m4, rfl, h1, b1⟩; have h1' : RdA E B m0 m1 m2 m3 m4 w1 noC 0 0 (.slice none 0 0) (.slice none 0 0) (.slice none 0 0) (.slice none 0 0) := h1; have H1 := hidC (And.intro h1' b1); clear h1 h1' b1)
   | (go_at_call 23; (with_reducible refine (aread_any E B m0 m1 m2 m3 m4 _ _ _ _ T HTS.out w1 (HLW.out.below H1.out.2) H1.out.1).mono ?_); rintro e w2 ⟨ok, c, ln, st, y0, y1, y2, y3, rfl, h2, b2, r2⟩; have H2 := hidC (And.intro h2 (And.intro b2 r2)); clear h2 b2 r2))
 have HB2 : Hid (Below E W0 w2) := H1.out.2.trans H2.out.2.1
 have HFIN : Hid (∀ w', Below E W0 w' → Below w.heap.size w w') := fun w' k => HB0.out.trans (k.mono (by have := HWX.out; have := HEX.out.2; omega))
 have HFIN2 : Hid (∀ v w', Below E W0 v → PutR X v w' → Below w.heap.size w w') := fun v w' k p => (HFIN.out v k).trans (p.bel _ (Nat.le_of_eq HWX.out))
 cases ok with
 | false =>
  have hrd : r = (noC, 250, (ln : Int)) := HP.out.trans H2.out.2.2
  have HRD := hidC hrd
  have hrx := HR0.out.of_block (HB2.out.block _ HEX.out.2)
  have v4 : w2.cell? ⟨B, 4, none⟩ = some (.int .i64 (ln : Int)) := H2.out.1.row.cell (i := 4) (by decide)
  have hxd := hrx.of_block (w' := w2.drew) rfl
  obtain ⟨x0, x1, x2, x3⟩ := c4 hrx
  obtain ⟨f0, f1, f2, f3⟩ := z4 hrx
  obtain ⟨hp1, hp2⟩ := put4 hxd (.slice none 0 0) (.slice none 0 0) (.slice none 0 0) (.slice none 0 0)
  obtain ⟨hq1, -⟩ := put4 hrx (.slice none 0 0) (.slice none 0 0) (.slice none 0 0) (.slice none 0 0)
  obtain ⟨y0, y1, y2, y3⟩ := c4 hq1
  have HP1 := hidC hp1
  have HP2 := hidC hp2
  have nXB : ¬ X = B := by have := H2.out.1.le; have := HEX.out.2; omega
  have nBX : ¬ B = X := by have := H2.out.1.le; have := HEX.out.2; omega
  clear hrd hrx hxd hp1 hp2 hq1
  go_upto_region 5 with fail
  refine wp_region_held_drew (S := (fun v => v.cell? ⟨B, 4, none⟩ = some (.int .i64 (ln : Int)))) (by kernel_rfl) ?_ (fun hHeld => ?_)
  ·((try dsimp only); go_keep)
  refine tkT 0 ?_
  refine tkT 1 ?_
  refine tkT 2 ?_
  refine tkT 3 ?_
  refine tkT 4 ?_
  clear hHeld
  refine wpAnyH_ready (rs := [5]) (by kernel_rfl) (by simp) ?_
  refine AllReadyH.cons (i := 5) (by simp only [List.getElem?_toArray, List.getElem?_cons_succ, List.getElem?_cons_zero]; rfl) (fun K hK => ?_) AllReadyH.nil
  go_simp
  refine hK.out _ _ ?_ (fun hHeld => ?_)
  ·((try dsimp only); go_keep)
  clear hK K
  try simp only [Act.put, List.setIfInBounds_toArray, List.set_cons_zero, List.set_cons_succ]
  refine tkT 6 ?_
  refine tkT 7 ?_
  refine wpAnyH_done (by kernel_rfl) ?_ _
  try go_wp2
  refine bodyPost_ret (by simp [results, Tryz.results11, go_sem, *]; try rfl) rfl ?_
  rw [HRD.out]
  refine ⟨_, _, _, _, rfl, Own4.nil _ _, ?_, HNO.out _⟩
  exact HFIN2.out _ _ (HB2.out.trans ((bel_d w2).mono (HLW.out.below HB2.out).le)) HP2.out
 | true =>
  obtain ⟨a0, b0, rfl⟩ := own_len H2.out.1.own.sign
  obtain ⟨a1, b1, rfl⟩ := own_len H2.out.1.own.regs
  obtain ⟨a2, b2, rfl⟩ := own_len H2.out.1.own.slots
  obtain ⟨a3, b3, rfl⟩ := own_len H2.out.1.own.list
  have hok : OkC c ln ∧ ln ≤ (bs T).length ∧ r = if (checkC c).1 ≠ 0 then (noC, 160, lineA (ln : Int) c (checkC c).2) else (c, 0, 0) := ⟨H2.out.2.2.1, H2.out.2.2.2.1, HP.out.trans H2.out.2.2.2.2⟩
  have HOK := hidC hok
  have hl1 : ln ≤ 4194304 := by have := HTL.out; omega
  have hl2 := hok.1.len
  obtain ⟨v0, v1, v2, v3, -⟩ := c11 H2.out.1.row
  have KC := check_any _ _ _ _ c (hok.1.cd (by omega)) w2 H2.out.1.own.cdv
  obtain ⟨e, he⟩ : ∃ e, (checkC c).1 = e := ⟨_, rfl⟩
  obtain ⟨p, hp⟩ : ∃ e, (checkC c).2 = e := ⟨_, rfl⟩
  rw [he, hp] at KC
  have HKC := hidC KC
  have HEP := hidC (And.intro he hp)
  have KLL := hidC (fun v (k : Below w2.heap.size w2 v) => alineOf_any E B m0 m1 m2 m3 m4 c ln st _ _ _ _ p v (H2.out.1.below k) hl1 (by omega))
  clear hok hl1 hl2 KC he hp
  by_cases q : e = 0
  ·subst q
   have HRD : Hid (r = (c, 0, 0)) := by show r = _; rw [HOK.out.2.2, if_neg (by rw [HEP.out.1]; exact fun h => h rfl)]
   go_upto_region 9 with (go_at_call 15; (with_reducible refine HKC.out.mono ?_); rintro e9 w3 ⟨rfl, hb3⟩; have HB3 := hidC hb3; clear hb3 v0 v1 v2 v3)
   have h3 := H2.out.1.below HB3.out
   obtain ⟨v0, v1, v2, v3, -⟩ := c11 h3.row
   have HBZ : Hid (Below E W0 w3) := HB2.out.trans (HB3.out.mono (HLW.out.below HB2.out).le)
   have hrx := HR0.out.of_block (HBZ.out.block _ HEX.out.2)
   obtain ⟨x0, x1, x2, x3⟩ := c4 hrx
   obtain ⟨f0, f1, f2, f3⟩ := z4 hrx
   obtain ⟨hp1, hp2⟩ := put4 hrx (.slice a0 c.sign.length b0) (.slice a1 c.regs.length b1) (.slice a2 c.slots.length b2) (.slice a3 c.list.length b3)
   obtain ⟨z0, z1, z2, z3⟩ := c4 hp1
   have HP2 := hidC hp2
   have H3 := hidC h3
   clear h3 hrx hp1 hp2
   go_wp2
   refine bodyPost_ret (by simp [results, Tryz.results11, go_sem, *]; try rfl) rfl ?_
   rw [HRD.out]
   refine ⟨_, _, _, _, rfl, ?_, ?_, ?_⟩
   ·exact (H3.out.own.putLow HP2.out HEX.out.2).mono (by have := HWX.out; have := HEX.out.2; omega)
   ·exact HFIN2.out _ _ HBZ.out HP2.out
   ·exact ⟨by show c.sign.length + c.regs.length + c.slots.length + c.list.length ≤ 4194304; have := HOK.out.1.len; have := HTL.out; have := HOK.out.2.1; omega, HOK.out.1.sign, HOK.out.1.slots, HOK.out.1.list⟩
  ·have HRD : Hid (r = (noC, 160, lineA (ln : Int) c p)) := by show r = _; rw [HOK.out.2.2, if_pos (by rw [HEP.out.1]; exact q), HEP.out.2]
   have e2 : (e != 0) = true := by simpa using q
   have e3 : (e == 0) = false := by simpa using q
   clear q
   go_upto_region 8 with (go_at_call 15; (with_reducible refine HKC.out.mono ?_); rintro e9 w3 ⟨rfl, hb3⟩; have HB3 := hidC hb3; clear hb3 v0 v1 v2 v3)
   have HBZ : Hid (Below E W0 w3) := HB2.out.trans (HB3.out.mono (HLW.out.below HB2.out).le)
   have hrx := HR0.out.of_block (HBZ.out.block _ HEX.out.2)
   obtain ⟨x0, x1, x2, x3⟩ := c4 hrx
   obtain ⟨f0, f1, f2, f3⟩ := z4 hrx
   obtain ⟨hp1, hp2⟩ := put4 hrx (.slice none 0 0) (.slice none 0 0) (.slice none 0 0) (.slice none 0 0)
   obtain ⟨z0, z1, z2, z3⟩ := c4 hp1
   have HP2 := hidC hp2
   clear hrx hp1 hp2
   go_wp2_with (go_at_call 24; (with_reducible refine (KLL.out _ HB3.out).mono ?_); rintro e9 w7 ⟨rfl, hw7⟩; have hw8 := hw7.symm; subst hw8)
   refine bodyPost_ret (by simp [results, Tryz.results11, go_sem, *]; try rfl) rfl ?_
   rw [HRD.out]
   refine ⟨_, _, _, _, rfl, Own4.nil _ _, ?_, HNO.out _⟩
   exact HFIN2.out _ _ HBZ.out HP2.out
end Go.Proofs.YtgcmnkanjcfndaaGreatDoor
namespace Go.Proofs.YtgcmnkanjcfndaaGreatDoor
open Go.RowKit
set_option linter.unusedVariables false
set_option linter.unusedSimpArgs false
theorem size_Builder : ∃ j, Tryz.prog.info? 99 = some j ∧ j.size = 2 := by
 obtain ⟨j, hj, h2⟩ := Option.map_eq_some_iff.1 (show (Tryz.prog.info? 99).map (·.size) = some 2 by kernel_rfl)
 exact ⟨j, hj, h2⟩
theorem info_byte : (Tryz.prog.info? 5).map (fun i => (i.zero, i.size, i.bytes)) = some (some (.int .u8 0), 1, 1) := by kernel_rfl
theorem bytes_app (l m : Bs) : Lib.byteCells (l ++ m) = Lib.byteCells l ++ Lib.byteCells m := by simp [Lib.byteCells]
structure BdT (E b : Nat) (T : TypeId) (n : Nat) (f : Nat → Value) (p v : Value) (l : Bs) (w : World) : Prop where
 le : E ≤ b
 row : w.rowIs b T (n + 2) (fun k => if k = 0 then p else if k = 1 then v else f k)
 own : w.ownsRow E 5 1 v l.length (Lib.byteCells l)
 ptr : p = .pointer none ∨ p = .pointer (some ⟨b, 0, none⟩)
structure LieT (T : TypeId) (n : Nat) : Prop where
 lies : liesAt Tryz.prog Tryz.prog.depth T ((n + 2) / Tryz.prog.cellsOf T) 0 99 1 = true
 ne : T ≠ 5
def KeepX (b : Nat) (w w' : World) : Prop := ∀ (g : Nat) (cs : Array Value) (t : TypeId) (fr : Nat × Nat), w.heap[g]? = some (.cells cs t fr) → t ≠ 5 → g ≠ b → w'.heap[g]? = some (.cells cs t fr)
theorem KeepX.trans {b : Nat} {w w' w'' : World} (h : KeepX b w w') (k : KeepX b w' w'') : KeepX b w w'' := fun g cs t fr h1 h2 h3 => k g cs t fr (h g cs t fr h1 h2 h3) h2 h3
theorem KeepX.of {b : Nat} {w w' : World} (k : Below w.heap.size w w') : KeepX b w w' := fun g cs t fr h1 _ _ => by
 have hl : g < w.heap.size := by
  rcases Nat.lt_or_ge g w.heap.size with c | c
  ·exact c
  ·rw [Array.getElem?_eq_none c] at h1; exact absurd h1 (by simp)
 exact (k.block g hl).trans h1
theorem KeepX.row {b g n : Nat} {w w' : World} {t : TypeId} {f : Nat → Value} (k : KeepX b w w') (h : w.rowIs g t n f) (ht : t ≠ 5) (hg : g ≠ b) : w'.rowIs g t n f := by
 obtain ⟨cs, h1, h2⟩ := h
 exact ⟨cs, k g cs t _ h1 ht hg, h2⟩
theorem row_shape {w : World} {b n : Nat} {t : TypeId} {f : Nat → Value} (h : w.rowIs b t n f) : w.shape? b = some (t, n) := by
 obtain ⟨cs, h1, h2, -⟩ := h
 simp [World.shape?, h1, h2]
theorem bt_set {E b n : Nat} {T : TypeId} {f : Nat → Value} {p v : Value} {l : Bs} {w : World} (h : BdT E b T n f p v l w) (hn : T ≠ 5) : BdT E b T n f (.pointer (some ⟨b, 0, none⟩)) v l (w.setCell ⟨b, 0, none⟩ (.pointer (some ⟨b, 0, none⟩))) ∧ PutR b w (w.setCell ⟨b, 0, none⟩ (.pointer (some ⟨b, 0, none⟩))) := by
 have hp := PutR.one b 0 w (.pointer (some ⟨b, 0, none⟩))
 refine ⟨⟨h.le, (h.row.set 0 (.pointer (some ⟨b, 0, none⟩))).congr fun j hj => ?_, own_putV h.own h.row (Ne.symm hn) hp, .inr rfl⟩, hp⟩
 by_cases q : j = 0
 ·simp [q]
 ·simp [q]
set_option maxRecDepth 100000 in
set_option maxHeartbeats 1000000 in
theorem copyT_any (E b : Nat) (T : TypeId) (n : Nat) (f : Nat → Value) (p v : Value) (l : Bs) (hl : LieT T n) (w : World) (h : BdT E b T n f p v l w) :
  Calls Tryz.prog 111 #[.pointer (some ⟨b, 0, none⟩)] w fun e w' => e = .returned (.tuple #[]) ∧ BdT E b T n f (.pointer (some ⟨b, 0, none⟩)) v l w' ∧ Below E w w' ∧ ∀ g, g ≠ b → w'.heap[g]? = w.heap[g]? := by
 obtain ⟨j, hj, hj2⟩ := size_Builder
 have HH := hidC h
 have HN := hidC hl.ne
 have h0 : w.cell? ⟨b, 0, none⟩ = some p := h.row.cell (i := 0) (by omega)
 have hfz := h.row.frozen 0
 have hsh := row_shape h.row
 rcases h.ptr with rfl | rfl
 ·have e1 := Lib.run_to_unsafe (P := Tryz.prog) w ⟨b, 0, none⟩ Tryz.underlying97 Tryz.underlying187 hj (by rw [hj2]; decide) hsh (by show 0 < n + 2; omega)
  have e2 : ∀ v : World, (callFunc 137 #[.pointer (some ⟨b, 0, none⟩)]).run Tryz.prog v = .ok (.value (.pointer (some ⟨b, 0, none⟩))) v := fun v => by
   rw [run_callFunc_extern Tryz.func137 (by kernel_rfl) (by kernel_rfl) (by kernel_rfl) (e := Extern.AbiNoEscape.same) (by kernel_rfl), Lib.run_noEscape]
   rfl
  have e3 := Lib.run_from_unsafe (P := Tryz.prog) w ⟨b, 0, none⟩ Tryz.underlying187 Tryz.underlying97 hj hsh hl.lies
  clear h hl
  go_enter Tryz.func111, Tryz.ntmps111
  go_wp2
  go_end0
  obtain ⟨k1, k2⟩ := bt_set HH.out HN.out
  exact ⟨rfl, k1, k2.bel E HH.out.le, fun g hg => k2.oth g hg⟩
 ·have e1 := Lib.run_neq_ptr_same (P := Tryz.prog) w ⟨b, 0, none⟩ Tryz.underlying97 hj
  clear h hl hsh
  go_enter Tryz.func111, Tryz.ntmps111
  go_wp2
  go_end0
  exact ⟨rfl, HH.out, Below.refl _ _, fun _ _ => rfl⟩
theorem own_strT {E : Nat} {V : World} {v : Value} {n : Nat} {xs : List Value} (h : V.ownsRow E 5 1 v n xs) (hE : E ≤ V.heap.size) (s : ByteArray) (hn : n + s.size ≤ 140737488355328) (ty : TypeId) :
  ∃ v' w', (Builtin.append_ #[55, 9] ty #[v, .string s]).run Tryz.prog V = .ok v' w' ∧ w'.ownsRow E 5 1 v' (n + s.size) (xs ++ Lib.strCells s) ∧ V.grownBy w' v.ownBlock := by
 obtain ⟨i0, hi0, hz0, hz1, hz2⟩ := info_parts info_byte
 have hmx : n + s.size ≤ maxLen := by unfold maxLen; omega
 obtain ⟨v', w', hr, ho, hg, hnn⟩ := Lib.run_append_own_string (P := Tryz.prog) V E _ _ ty _ i0 Tryz.underlying55 Tryz.underlying9 hi0 hz0 hz1 hz2 v n xs h s hmx (by omega) hE
 exact ⟨v', w', hr, ho, hg⟩
theorem appT_op {P : Program} {w w' : World} {ops : Array Oper} {rest : List Oper} {o : Oper} {a : Act} {Q : Exit → Act → World → Prop} (hgd : o.guard = none) (s x : Operand) (t u : TypeId)
  (ho : o.op = .call { callee := .builtin .append, args := #[s, x], argTypes := #[t, u] }) (v v2 v' : Value) (hs : a.eval s = v) (hx : a.eval x = v2) (hr : (Builtin.append_ #[t, u] o.type #[v, v2]).run P w = .ok v' w')
  (h : wpList P ops Q rest (a.put o.dst v') w') : wpList P ops Q (o :: rest) a w :=
 wpList_plain hgd fun _ hK => by
  unfold Oper.wp execOp
  simp only [ho, resolve, invoke, builtin, Sem.run_bind, Sem.run_pure, Result.andThen_ok, List.map_toArray, List.map_cons, List.map_nil, hs, hx, hr]
  exact hK _ _ h
theorem ready_bi1 {P : Program} {w w' : World} {o : Oper} {a : Act} {K : Act → World → Prop} {Q : Exit → Act → World → Prop} (x : Operand) {t : TypeId}
  (ho : o.op = .call { callee := .builtin .unsafeSliceData, args := #[x], argTypes := #[t] }) (v v' : Value) (hx : a.eval x = v) (hr : (Builtin.unsafeSliceData_ #[t] o.type #[v]).run P w = .ok v' w')
  (h : K (a.put o.dst v') w') (y' : Bool) (hy : y' = true) : if y' = true then Oper.wp P o a w K Q else K (a.put o.dst undef) w := by
 rw [if_pos hy]
 unfold Oper.wp execOp
 simp only [ho, resolve, invoke, builtin, Sem.run_bind, Sem.run_pure, Result.andThen_ok, List.map_toArray, List.map_cons, List.map_nil, hx, hr]
 exact h
theorem ready_bi2 {P : Program} {w w' : World} {o : Oper} {a : Act} {K : Act → World → Prop} {Q : Exit → Act → World → Prop} (s x : Operand) {t u : TypeId}
  (ho : o.op = .call { callee := .builtin .unsafeString, args := #[s, x], argTypes := #[t, u] }) (v v2 v' : Value) (hs : a.eval s = v) (hx : a.eval x = v2) (hr : (Builtin.unsafeString_ #[t, u] o.type #[v, v2]).run P w = .ok v' w')
  (h : K (a.put o.dst v') w') (y' : Bool) (hy : y' = true) : if y' = true then Oper.wp P o a w K Q else K (a.put o.dst undef) w := by
 rw [if_pos hy]
 unfold Oper.wp execOp
 simp only [ho, resolve, invoke, builtin, Sem.run_bind, Sem.run_pure, Result.andThen_ok, List.map_toArray, List.map_cons, List.map_nil, hs, hx, hr]
 exact h
theorem cell_freeze (w : World) (p a : Addr) (n : Nat) : (w.freeze p n).cell? a = w.cell? a := by
 unfold World.freeze
 split
 ·rfl
 ·unfold World.cell?
  simp only [Array.getElem?_modify]
  by_cases q : p.block = a.block
  ·rw [if_pos q]
   cases w.heap[a.block]? with
   | none => rfl
   | some o =>
    cases o with
    | cells c t fr => cases fr; rfl
    | _ => rfl
  ·rw [if_neg q]
theorem bt_put {E b n : Nat} {T : TypeId} {f : Nat → Value} {v v2 : Value} {l l2 : Bs} {w w2 : World} (h : BdT E b T n f (.pointer (some ⟨b, 0, none⟩)) v l w) (hn : T ≠ 5) (hg : w.grownBy w2 v.ownBlock) (ho : w2.ownsRow E 5 1 v2 l2.length (Lib.byteCells l2)) :
  w2.rowIs b T (n + 2) (fun k => if k = 0 then .pointer (some ⟨b, 0, none⟩) else if k = 1 then v else f k) ∧ BdT E b T n f (.pointer (some ⟨b, 0, none⟩)) v2 l2 (w2.setCell ⟨b, 1, none⟩ v2) ∧ Below E w (w2.setCell ⟨b, 1, none⟩ v2) ∧ KeepX b w (w2.setCell ⟨b, 1, none⟩ v2) := by
 have hb : v.ownBlock ≠ some b := own_rowV h.own h.row (Ne.symm hn)
 have hr := h.row.of_block (hg.block b h.row.lt (Ne.symm hb))
 have hp := PutR.one b 1 w2 v2
 have hE : E ≤ w.heap.size := by have := h.le; have := h.row.lt; omega
 refine ⟨hr, ⟨h.le, (hr.set 1 v2).congr fun j hj => ?_, own_putV ho hr (Ne.symm hn) hp, .inr rfl⟩, ((Below.refl E w).grown hg hE (fun k hk => (h.own.lt k hk).1)).trans (hp.bel E h.le), fun g cs t fr h1 h2 h3 => ?_⟩
 ·by_cases q : j = 1
  ·simp [q]
  ·simp [q]
 ·have hgl : g < w.heap.size := by
   rcases Nat.lt_or_ge g w.heap.size with c | c
   ·exact c
   ·rw [Array.getElem?_eq_none c] at h1; exact absurd h1 (by simp)
  refine (hp.oth g h3).trans ((hg.block g hgl fun e => ?_).trans h1)
  rcases h.own.2 with ⟨hv, _⟩ | ⟨g', cap, cur, hv, _, hg', _⟩
  ·rw [hv] at e; simp [Value.ownBlock] at e
  ·rw [hv] at e
   simp [Value.ownBlock] at e
   subst e
   rw [h1] at hg'
   simp at hg'
   exact h2 hg'.2.1
set_option maxRecDepth 100000 in
set_option maxHeartbeats 2000000 in
theorem writeT_any (E b : Nat) (T : TypeId) (n : Nat) (f : Nat → Value) (p v : Value) (l : Bs) (hl : LieT T n) (s : ByteArray) (hs : l.length + s.size ≤ 140737488355328) (w : World) (h : BdT E b T n f p v l w) :
  Calls Tryz.prog 77 #[.pointer (some ⟨b, 0, none⟩), .string s] w fun e w' => e = .returned (.tuple #[.int .i64 (s.size : Int), .nilIface]) ∧ ∃ v', BdT E b T n f (.pointer (some ⟨b, 0, none⟩)) v' (l ++ bs s) w' ∧ Below E w w' ∧ KeepX b w w' := by
 have HK := hidC (copyT_any E b T n f p v l hl w h)
 have HN := hidC hl.ne
 have HL := hidC hs
 clear h hl hs
 go_enter Tryz.func77, Tryz.ntmps77
 go_upto_region 2 with (go_at_call 111; (with_reducible refine HK.out.mono ?_); rintro e w1 ⟨rfl, h1, b1, k1⟩; have H1 := hidC (And.intro h1 (And.intro b1 k1)); clear h1 b1 k1)
 obtain ⟨v2, w2, hrun, ho, hg⟩ := own_strT H1.out.1.own (by have := H1.out.1.le; have := H1.out.1.row.lt; omega) s HL.out 55
 have e1 : Lib.byteCells l ++ Lib.strCells s = Lib.byteCells (l ++ bs s) := (bytes_app l (bs s)).symm
 have e2 : l.length + s.size = (l ++ bs s).length := by rw [List.length_append, bs_length]
 rw [e1, e2] at ho
 obtain ⟨p2, q2, rfl⟩ := own_len ho
 obtain ⟨r2, g1, g2, g3⟩ := bt_put H1.out.1 HN.out hg ho
 obtain ⟨N, hN⟩ : ∃ N, (l ++ bs s).length = N := ⟨_, rfl⟩
 rw [hN] at hrun g1 g2 g3
 have HR := hidC hrun
 have HG := hidC (And.intro g1 (And.intro g2 g3))
 have c1 : w1.cell? ⟨b, 1, none⟩ = some v := H1.out.1.row.cell (i := 1) (by omega)
 have c2 : w2.cell? ⟨b, 1, none⟩ = some v := r2.cell (i := 1) (by omega)
 have f2 := r2.frozen 1
 clear hrun ho hg e1 e2 r2 g1 g2 g3 hN
 go_wp2_with (at_builtin; refine appT_op (by rfl) _ _ _ _ (by rfl) _ _ _ (by rfl) (by rfl) HR.out ?_)
 go_ret2
 refine ⟨rfl, _, HG.out.1, H1.out.2.1.trans HG.out.2.1, fun g cs t fr a1 a2 a3 => HG.out.2.2 g cs t fr ((H1.out.2.2 g a3).trans a1) a2 a3⟩
set_option maxRecDepth 100000 in
set_option maxHeartbeats 2000000 in
theorem wbyteT_any (E b : Nat) (T : TypeId) (n : Nat) (f : Nat → Value) (p v : Value) (l : Bs) (hl : LieT T n) (hs : l.length + 1 ≤ 140737488355328) (w : World) (h : BdT E b T n f p v l w) :
  Calls Tryz.prog 79 #[.pointer (some ⟨b, 0, none⟩), .int .u8 10] w fun e w' => e = .returned .nilIface ∧ ∃ v', BdT E b T n f (.pointer (some ⟨b, 0, none⟩)) v' (l ++ [10]) w' ∧ Below E w w' ∧ KeepX b w w' := by
 have HK := hidC (copyT_any E b T n f p v l hl w h)
 have HN := hidC hl.ne
 have HL := hidC hs
 clear h hl hs
 go_enter Tryz.func79, Tryz.ntmps79
 go_upto_region 2 with (go_at_call 111; (with_reducible refine HK.out.mono ?_); rintro e w1 ⟨rfl, h1, b1, k1⟩; have H1 := hidC (And.intro h1 (And.intro b1 k1)); clear h1 b1 k1)
 have hE : E ≤ w1.heap.size := by have := H1.out.1.le; have := H1.out.1.row.lt; omega
 obtain ⟨p1, q1, rfl⟩ := own_len H1.out.1.own
 obtain ⟨g, c', w2, hrun, hb2, ho, hoth⟩ := own_app (t := 55) (e := 5) Tryz.underlying55 info_byte (by rfl) (by decide) H1.out.1.own hE #[.int .u8 10] rfl (by simp [Value.oneCell']) (by have := HL.out; unfold maxLen; omega) (by have := HL.out; omega) 55
 have e1 : Lib.byteCells l ++ (#[Value.int .u8 10] : Array Value).toList = Lib.byteCells (l ++ [10]) := (bytes_app l [10]).symm
 have HE2 : Hid (l.length + 1 = (l ++ [10] : Bs).length) := by show _ = _; simp
 rw [e1] at ho
 have HO := hidC ho
 have hnb : (Value.slice p1 l.length q1).ownBlock ≠ some b := own_rowV H1.out.1.own H1.out.1.row (Ne.symm HN.out)
 have r2 := H1.out.1.row.of_block (hoth b H1.out.1.row.lt hnb)
 have HB := hidC (And.intro hb2 hoth)
 have HR := hidC hrun
 have HR2 := hidC r2
 have c1 : w1.cell? ⟨b, 1, none⟩ = some (.slice p1 l.length q1) := H1.out.1.row.cell (i := 1) (by omega)
 have c2 : w2.cell? ⟨b, 1, none⟩ = some (.slice p1 l.length q1) := r2.cell (i := 1) (by omega)
 have c3' : (w1.alloc (.cells #[.int .u8 10] 5)).cell? ⟨b, 1, none⟩ = some (.slice p1 l.length q1) := kc (bel_alloc _ _) c1
 have f2 := r2.frozen 1
 clear hrun ho e1 r2 hb2 hoth hnb
 go_wp2_with (at_builtin; refine appT_op (by rfl) _ _ _ _ (by rfl) _ _ _ (by rfl) (by rfl) HR.out ?_; try simp only [Act.put, List.setIfInBounds_toArray, List.set_cons_zero, List.set_cons_succ])
 refine bodyPost_ret (by simp [results, Tryz.results79, go_sem, *]; try rfl) rfl ?_
 have hp := PutR.one b 1 w2 (.slice (some ⟨g, 0, none⟩) (l.length + 1) c')
 refine ⟨rfl, _, ⟨H1.out.1.le, (HR2.out.set 1 _).congr fun j hj => ?_, by rw [← HE2.out]; exact own_putV HO.out HR2.out (Ne.symm HN.out) hp, .inr rfl⟩, ?_, ?_⟩
 ·by_cases q : j = 1
  ·simp [q]
  ·simp [q]
 ·exact H1.out.2.1.trans (HB.out.1.trans (hp.bel E H1.out.1.le))
 ·intro g' cs t fr a1 a2 a3
  have a4 := (H1.out.2.2 g' a3).trans a1
  have hgl : g' < w1.heap.size := by
   rcases Nat.lt_or_ge g' w1.heap.size with c | c
   ·exact c
   ·rw [Array.getElem?_eq_none c] at a4; exact absurd a4 (by simp)
  refine (hp.oth g' a3).trans ((HB.out.2 g' hgl fun e => ?_).trans a4)
  rcases H1.out.1.own.2 with ⟨hv, _⟩ | ⟨g2, cap, cur, hv, _, hg2, _⟩
  ·rw [hv] at e; simp [Value.ownBlock] at e
  ·rw [hv] at e
   simp [Value.ownBlock] at e
   subst e
   rw [a4] at hg2
   simp at hg2
   exact a2 hg2.2.1
set_option maxRecDepth 100000 in
set_option maxHeartbeats 2000000 in
theorem stringT_any (E b : Nat) (T : TypeId) (n : Nat) (f : Nat → Value) (p v : Value) (l : Bs) (h0 : l ≠ []) (w : World) (h : BdT E b T n f p v l w) :
  Calls Tryz.prog 48 #[.pointer (some ⟨b, 0, none⟩)] w fun e w' => e = .returned (.string ⟨l.toArray⟩) ∧ Below E w w' := by
 have hl0 : l.length ≠ 0 := by simpa using h0
 have hown := h.own
 obtain ⟨g, cap, cur, rfl, hbg, hg, hnc, hcm, hcs, htake⟩ : ∃ g cap cur, v = .slice (some ⟨g, 0, none⟩) l.length cap ∧ E ≤ g ∧ w.heap[g]? = some (.cells cur 5 (0, 0)) ∧ l.length ≤ cap ∧ cap ≤ maxLen ∧ cur.size = cap * 1 ∧ cur.toList.take (l.length * 1) = Lib.byteCells l := by
  rcases hown.2 with ⟨_, hz⟩ | ⟨g, cap, cur, hv, r⟩
  ·exact absurd hz hl0
  ·exact ⟨g, cap, cur, hv, r⟩
 have c1 : w.cell? ⟨b, 1, none⟩ = some (.slice (some ⟨g, 0, none⟩) l.length cap) := h.row.cell (i := 1) (by omega)
 have c1' : w.drew.cell? ⟨b, 1, none⟩ = some (.slice (some ⟨g, 0, none⟩) l.length cap) := c1
 have hSD : (Builtin.unsafeSliceData_ #[55] 147 #[.slice (some ⟨g, 0, none⟩) l.length cap]).run Tryz.prog w.drew = .ok (.pointer (some ⟨g, 0, none⟩)) w.drew :=
  Lib.run_unsafeSliceData_row _ _ _ _ _ _ (by omega)
 have hUS : (Builtin.unsafeString_ #[147, 3] 9 #[.pointer (some ⟨g, 0, none⟩), .int .i64 l.length]).run Tryz.prog w.drew = .ok (.string ⟨l.toArray⟩) (w.drew.freeze ⟨g, 0, none⟩ l.length) := by
  refine Lib.run_unsafeString_row w.drew 147 3 9 5 Tryz.underlying147 (by kernel_rfl) g cur.size (by have hg' : w.drew.heap[g]? = some (.cells cur 5 (0, 0)) := hg; simp [World.shape?, hg']) l h0 (by omega) (by unfold maxLen at hcm; omega) ?_
  intro j x hx
  exact hown.cells (g := g) rfl j (.int .u8 x.toNat) (by simp [Lib.byteCells, hx])
 have HBG := hidC hbg
 have HSD := hidC hSD
 have HUS := hidC hUS
 have cz : (w.drew.freeze ⟨g, 0, none⟩ l.length).cell? ⟨b, 1, none⟩ = some (.slice (some ⟨g, 0, none⟩) l.length cap) := by rw [cell_freeze]; exact c1'
 obtain ⟨N, hN⟩ : ∃ N, l.length = N := ⟨_, rfl⟩
 rw [hN] at HSD HUS cz c1 c1'
 clear h hown hg hnc hcm hcs htake hl0 h0 hbg hSD hUS hN
 go_enter Tryz.func48, Tryz.ntmps48
 go_upto_region 1 with fail
 -- {R
 refine wp_region_held_drew (S := (fun v => v.cell? ⟨b, 1, none⟩ = some (.slice (some ⟨g, 0, none⟩) N cap))) (by kernel_rfl) ?_ (fun hHeld => ?_)
 ·((try dsimp only); go_keep)
 refine tkT 0 ?_
 refine tkT 1 ?_
 refine tkT 2 ?_
 refine tkT 3 ?_
 refine tkT 5 ?_
 refine tkT 6 ?_
 refine tkT 7 ?_
 refine tkT 8 ?_
 refine tkT 9 ?_
 clear hHeld
 refine wpAnyH_ready (rs := [4]) (by kernel_rfl) (by simp) ?_
 refine AllReadyH.cons (i := 4) (by simp only [List.getElem?_toArray, List.getElem?_cons_succ, List.getElem?_cons_zero]; rfl) (fun K hK => ?_) AllReadyH.nil
 refine ready_bi1 _ (by rfl) _ _ (by rfl) HSD.out ?_ _ (by rfl)
 refine hK.out _ _ ?_ (fun hHeld => ?_)
 ·((try dsimp only); go_keep)
 clear hK K
 try simp only [Act.put, List.setIfInBounds_toArray, List.set_cons_zero, List.set_cons_succ]
 clear hHeld
 refine wpAnyH_ready (rs := [10]) (by kernel_rfl) (by simp) ?_
 refine AllReadyH.cons (i := 10) (by simp only [List.getElem?_toArray, List.getElem?_cons_succ, List.getElem?_cons_zero]; rfl) (fun K hK => ?_) AllReadyH.nil
 refine ready_bi2 _ _ (by rfl) _ _ _ (by rfl) (by rfl) HUS.out ?_ _ (by rfl)
 refine hK.out _ _ ?_ (fun hHeld => ?_)
 ·((try dsimp only); go_keep)
 clear hK K
 try simp only [Act.put, List.setIfInBounds_toArray, List.set_cons_zero, List.set_cons_succ]
 refine tkT 11 ?_
 refine wpAnyH_done (by kernel_rfl) ?_ _
 -- }R
 try go_wp2
 refine bodyPost_ret (by simp [results, Tryz.results48, go_sem, *]; try rfl) rfl ?_
 exact ⟨rfl, Lib.below_freeze (Below.drew (Below.refl E w)) (p := ⟨g, 0, none⟩) HBG.out _⟩
end Go.Proofs.YtgcmnkanjcfndaaGreatDoor
namespace Go.Proofs.YtgcmnkanjcfndaaGreatDoor
open Go.RowKit
set_option linter.unusedVariables false
set_option linter.unusedSimpArgs false
theorem size_byte1 : (Tryz.prog.info? 5).map (·.size) = some 1 := by kernel_rfl
set_option maxRecDepth 1000000 in
set_option maxHeartbeats 2000000 in
theorem growT0_any (E b : Nat) (T : TypeId) (n : Nat) (f : Nat → Value) (hT : T ≠ 5) (N : Nat) (hN : N ≤ 281474976710656) (w : World) (h : BdT E b T n f (.pointer (some ⟨b, 0, none⟩)) (.slice none 0 0) [] w) :
  Calls Tryz.prog 138 #[.pointer (some ⟨b, 0, none⟩), .int .i64 N] w fun e w' => e = .returned (.tuple #[]) ∧ ∃ v', BdT E b T n f (.pointer (some ⟨b, 0, none⟩)) v' [] w' ∧ Below E w w' := by
 obtain ⟨cs, hrun, hle, hmax⟩ := Lib.run_makeNoZero (P := Tryz.prog) w.drew #[3] 55 5 Tryz.underlying55 N hN
 have hw : IntKind.i64.wrap (IntKind.i64.wrap 0 + (N : Int)) = N := by rw [IntKind.wrap_i64, IntKind.wrap_i64]; omega
 have hw2 : IntKind.i64.wrap (N : Int) = N := by rw [IntKind.wrap_i64]; omega
 have hcall0 : (callFunc 153 #[.int .i64 (N : Int)]).run Tryz.prog w.drew = .ok (.value (.slice (some ⟨w.drew.heap.size, 0, none⟩) N cs.size)) (w.drew.drew.drew.alloc (.cells cs 5)) := by
  rw [run_callFunc_extern Tryz.func153 (by kernel_rfl) (by kernel_rfl) (by kernel_rfl) (e := Extern.BytealgMakeNoZero.makeNoZero #[3] #[55]) (by kernel_rfl), hrun]
  rfl
 have hcall : (callFunc 153 #[.int .i64 (IntKind.i64.wrap (IntKind.i64.wrap 0 + (N : Int)))]).run Tryz.prog w.drew = .ok (.value (.slice (some ⟨w.drew.heap.size, 0, none⟩) N cs.size)) (w.drew.drew.drew.alloc (.cells cs 5)) := by rw [hw]; exact hcall0
 have hmx : cs.size ≤ maxLen := hmax (by unfold maxLen; omega)
 obtain ⟨W, hW⟩ : ∃ W, w.drew.drew.drew.alloc (.cells cs 5) = W := ⟨_, rfl⟩
 have hbl : Below w.heap.size w W := by rw [← hW]; exact ((((Below.refl _ w).drew).drew).drew).trans (show Below w.heap.size w.drew.drew.drew _ from bel_alloc w.drew.drew.drew _)
 have hsz : w.drew.heap.size = w.heap.size := rfl
 rw [hsz] at hcall hcall0
 rw [hW] at hcall hcall0
 have hb0 : b < w.heap.size := h.row.lt
 have hE : E ≤ w.heap.size := by have := h.le; omega
 have hr := h.row.of_block (hbl.block _ hb0)
 have c1 : w.cell? ⟨b, 1, none⟩ = some (.slice none 0 0) := h.row.cell (i := 1) (by omega)
 have c1' : w.drew.cell? ⟨b, 1, none⟩ = some (.slice none 0 0) := c1
 have c2 : W.cell? ⟨b, 1, none⟩ = some (.slice none 0 0) := hr.cell (i := 1) (by omega)
 have f2 := hr.frozen 1
 have hg : W.heap[w.heap.size]? = some (.cells cs 5 (0, 0)) := by rw [← hW]; exact heap_alloc_new _ _
 have hcopy : ∀ V : World, (Builtin.copy_ #[55, 55] 3 #[.slice (some ⟨w.heap.size, 0, none⟩) 0 cs.size, .slice none 0 0]).run Tryz.prog V = .ok (goInt 0) V :=
  fun V => run_copy_none V 55 55 3 5 _ _ 0 cs.size 0 0 Tryz.underlying55 size_byte1 rfl
 obtain ⟨g, hgg⟩ : ∃ g, w.heap.size = g := ⟨_, rfl⟩
 rw [hgg] at hg hcopy hcall hcall0
 have hlen0 : (0 : Nat) ≤ cs.size := Nat.zero_le _
 have hp := PutR.one b 1 W (.slice (some ⟨g, 0, none⟩) 0 cs.size)
 have HFIN : Hid (BdT E b T n f (.pointer (some ⟨b, 0, none⟩)) (.slice (some ⟨g, 0, none⟩) 0 cs.size) [] (W.setCell ⟨b, 1, none⟩ (.slice (some ⟨g, 0, none⟩) 0 cs.size)) ∧ Below E w (W.setCell ⟨b, 1, none⟩ (.slice (some ⟨g, 0, none⟩) 0 cs.size))) := by
  refine ⟨⟨h.le, (hr.set 1 _).congr fun j hj => ?_, ⟨rfl, .inr ⟨g, cs.size, cs, rfl, by omega, ?_, Nat.zero_le _, hmx, by omega, rfl⟩⟩, .inr rfl⟩, (hbl.mono hE).trans (hp.bel E h.le)⟩
  ·by_cases q : j = 1
   ·simp [q]
   ·simp [q]
  ·rw [hp.oth g (by omega)]; exact hg
 have HHC := hidC hcall
 have HHC0 := hidC hcall0
 have HHW := hidC hw
 have HHW2 := hidC hw2
 clear hrun hle hmax hbl hb0 hE hr hg hp h hW hmx hN hsz
 go_enter Tryz.func138, Tryz.ntmps138
 go_upto_region 0 with fail
 refine wp_region_held_drew (S := (fun v => v.cell? ⟨b, 1, none⟩ = some (.slice none 0 0))) (by kernel_rfl) ?_ (fun hHeld => ?_)
 ·((try dsimp only); go_keep)
 refine tkT 0 ?_
 refine tkT 1 ?_
 refine tkT 2 ?_
 refine tkT 3 ?_
 refine tkT 4 ?_
 refine tkT 5 ?_
 refine tkT 6 ?_
 refine tkT 7 ?_
 refine tkT 9 ?_
 refine tkT 10 ?_
 refine tkT 11 ?_
 refine tkT 12 ?_
 refine tkT 13 ?_
 clear hHeld
 refine wpAnyH_ready (rs := [8]) (by kernel_rfl) (by simp) ?_
 refine AllReadyH.cons (i := 8) (by simp only [List.getElem?_toArray, List.getElem?_cons_succ, List.getElem?_cons_zero]; rfl) (fun K hK => ?_) AllReadyH.nil
 go_simp
 skip
 try (go_wp2_with fail)
 refine hK.out _ _ ?_ (fun hHeld => ?_)
 ·((try dsimp only); go_keep)
 clear hK K
 try simp only [Act.put, List.setIfInBounds_toArray, List.set_cons_zero, List.set_cons_succ]
 refine tkT 14 ?_
 refine tkT 15 ?_
 refine wpAnyH_done (by kernel_rfl) ?_ _
 try go_wp2
 refine bodyPost_end (by simp [results, Tryz.results138, go_sem, *]; try rfl) rfl ?_
 exact ⟨rfl, _, HFIN.out.1, HFIN.out.2⟩
set_option maxRecDepth 1000000 in
set_option maxHeartbeats 2000000 in
theorem growT_any (E b : Nat) (T : TypeId) (n : Nat) (f : Nat → Value) (p : Value) (hl : LieT T n) (N : Nat) (h0 : 0 < N) (hN : N ≤ 281474976710656) (w : World) (h : BdT E b T n f p (.slice none 0 0) [] w) :
  Calls Tryz.prog 112 #[.pointer (some ⟨b, 0, none⟩), .int .i64 N] w fun e w' => e = .returned (.tuple #[]) ∧ ∃ v', BdT E b T n f (.pointer (some ⟨b, 0, none⟩)) v' [] w' ∧ Below E w w' := by
 have HK := hidC (copyT_any E b T n f p _ [] hl w h)
 have HG : Hid (∀ v, BdT E b T n f (.pointer (some ⟨b, 0, none⟩)) (.slice none 0 0) [] v → Calls Tryz.prog 138 #[.pointer (some ⟨b, 0, none⟩), .int .i64 N] v fun e w' => e = .returned (.tuple #[]) ∧ ∃ v', BdT E b T n f (.pointer (some ⟨b, 0, none⟩)) v' [] w' ∧ Below E v w') := fun v k => growT0_any E b T n f hl.ne N hN v k
 have e0 : ¬ (N : Int) < 0 := by omega
 have e1 : (0 : Int) < (N : Int) := by omega
 have e2 : IntKind.i64.wrap 0 < (N : Int) := by rw [IntKind.wrap_i64]; omega
 clear h hl hN h0
 go_enter Tryz.func112, Tryz.ntmps112
 go_upto_region 3 with (go_at_call 111; (with_reducible refine HK.out.mono ?_); rintro e w1 ⟨rfl, h1, b1, -⟩; have H1 := hidC (And.intro h1 b1); clear h1 b1)
 have c1 : w1.cell? ⟨b, 1, none⟩ = some (.slice none 0 0) := H1.out.1.row.cell (i := 1) (by omega)
 have c1' : w1.drew.cell? ⟨b, 1, none⟩ = some (.slice none 0 0) := c1
 have HD : Hid (BdT E b T n f (.pointer (some ⟨b, 0, none⟩)) (.slice none 0 0) [] w1.drew) := ⟨H1.out.1.le, H1.out.1.row.of_block rfl, own_keep H1.out.1.own (fun _ _ => rfl), H1.out.1.ptr⟩
 refine wp_region_held_drew (S := (fun v => v.cell? ⟨b, 1, none⟩ = some (.slice none 0 0))) (by kernel_rfl) ?_ (fun hHeld => ?_)
 ·((try dsimp only); go_keep)
 refine tkT 0 ?_
 refine tkT 1 ?_
 refine tkT 2 ?_
 refine tkT 3 ?_
 refine tkT 4 ?_
 refine tkT 5 ?_
 refine tkT 6 ?_
 refine tkT 7 ?_
 refine tkT 8 ?_
 refine tkT 9 ?_
 refine tkT 10 ?_
 refine tkT 11 ?_
 refine tkT 12 ?_
 refine wpAnyH_done (by kernel_rfl) ?_ _
 go_wp2_with (go_at_call 138; (with_reducible refine (HG.out _ HD.out).mono ?_); rintro e w2 ⟨rfl, v', h2, b2⟩; have H2 := hidC (And.intro h2 b2); clear h2 b2)
 refine bodyPost_end (by simp [results, Tryz.results112, go_sem, *]; try rfl) rfl ?_
 exact ⟨rfl, v', H2.out.1, (H1.out.2.trans ((bel_d w1).mono (by have := H1.out.1.le; have := H1.out.1.row.lt; omega))).trans H2.out.2⟩
end Go.Proofs.YtgcmnkanjcfndaaGreatDoor
namespace Go.Proofs.YtgcmnkanjcfndaaGreatDoor
open Go.RowKit
set_option linter.unusedVariables false
set_option linter.unusedSimpArgs false
theorem lie_Builder : LieT 99 0 := ⟨by kernel_rfl, by decide⟩
theorem join_snoc : ∀ (a : List Bs) (b : Bs), a ≠ [] → joinW (a ++ [b]) = joinW a ++ 32 :: b
 | [], _, h => absurd rfl h
 | [x], b, _ => rfl
 | x :: y :: r, b, _ => by
  have := join_snoc (y :: r) b (by simp)
  have e1 : joinW (x :: (y :: r ++ [b])) = x ++ 32 :: joinW (y :: r ++ [b]) := join_cons (by simp)
  have e2 : joinW (x :: y :: r) = x ++ 32 :: joinW (y :: r) := join_cons (by simp)
  show joinW (x :: (y :: r ++ [b])) = _
  rw [e1, this, e2]
  simp
theorem join_take {ws : List Bs} {j : Nat} (h : j + 1 < ws.length) : joinW (ws.take (j + 2)) = (joinW (ws.take (j + 1)) ++ [32]) ++ ws[j + 1] := by
 rw [show j + 2 = (j + 1) + 1 by omega, List.take_succ_eq_append_getElem h, join_snoc _ _ (by intro e; have := congrArg List.length e; rw [List.length_take, List.length_nil] at this; omega)]
 simp
def lenS (ws : List Bs) (j : Nat) : Nat := ((ws.take j).map List.length).sum
theorem lenS_succ {ws : List Bs} {j : Nat} (h : j < ws.length) : lenS ws (j + 1) = lenS ws j + ws[j].length := by
 unfold lenS
 rw [List.take_succ_eq_append_getElem h, List.map_append, List.sum_append]
 rfl
theorem lenS_le {ws : List Bs} {B : Nat} (h : ∀ x ∈ ws, x.length ≤ B) : ∀ j, lenS ws j ≤ B * j
 | 0 => by simp [lenS]
 | j + 1 => by
  by_cases q : j < ws.length
  ·rw [lenS_succ q, Nat.mul_succ]
   have := lenS_le h j
   have := h ws[j] (List.getElem_mem q)
   omega
  ·have h1 : lenS ws (j + 1) = lenS ws j := by unfold lenS; rw [List.take_of_length_le (by omega), List.take_of_length_le (by omega)]
   rw [h1, Nat.mul_succ]
   have := lenS_le h j
   omega
theorem joinB_len : ∀ (ws : List Bs) (B : Nat), (∀ x ∈ ws, x.length ≤ B) → (joinW ws).length ≤ (B + 1) * ws.length
 | [], _, _ => Nat.zero_le _
 | [a], B, h => by have := h a (by simp); simp [joinW]; omega
 | a :: b :: r, B, h => by
  have h1 := h a (by simp)
  have h2 := joinB_len (b :: r) B (fun x hx => h x (List.mem_cons_of_mem _ hx))
  rw [join_cons (by simp), List.length_append, List.length_cons]
  simp only [List.length_cons] at h2 ⊢
  rw [Nat.mul_succ]
  omega
theorem take_le (ws : List Bs) (B : Nat) (h : ∀ x ∈ ws, x.length ≤ B) (j : Nat) (hk : ws.length ≤ 6) : (joinW (ws.take j)).length ≤ (B + 1) * 6 :=
 Nat.le_trans (joinB_len _ B fun x hx => h x (List.mem_of_mem_take hx)) (Nat.mul_le_mul_left (B + 1) (show (ws.take j).length ≤ 6 by rw [List.length_take]; omega))
theorem join_some {ws : List Bs} (h : 2 ≤ ws.length) : joinW ws ≠ [] := by
 match ws, h with
 | a :: b :: r, _ => rw [join_cons (by simp)]; simp
set_option maxRecDepth 100000 in
set_option maxHeartbeats 4000000 in
theorem ajoin1_any (R : Nat) (U : ByteArray) (c : Nat) (w : World) (h : w.cell? ⟨R, 0, none⟩ = some (.string U)) :
  Calls Tryz.prog 78 #[.slice (some ⟨R, 0, none⟩) 1 c, .string ⟨#[32]⟩] w fun e w' => e = .returned (.string U) ∧ w' = w := by
 go_enter Tryz.func78, Tryz.ntmps78
 go_wp2
 go_ret
 exact ⟨rfl, rfl⟩
set_option maxRecDepth 100000 in
set_option maxHeartbeats 8000000 in
theorem ajoin_any (R : Nat) (ws : List Bs) (c : Nat) (w : World) (h2 : 2 ≤ ws.length) (h6 : ws.length ≤ 6) (hw : ∀ x ∈ ws, x.length ≤ 1000000) (hc : ∀ i (hi : i < ws.length), w.cell? ⟨R, i, none⟩ = some (.string (sof ws[i]))) (hcap : ws.length ≤ c) :
  Calls Tryz.prog 78 #[.slice (some ⟨R, 0, none⟩) ws.length c, .string ⟨#[32]⟩] w fun e w' => e = .returned (.string (sof (joinW ws))) ∧ Below w.heap.size w w' := by
 have HC := hidC hc
 have HLN := hidC (lenS_le hw)
 have HTL := hidC (take_le ws 1000000 hw · h6)
 have HSZ : Hid (∀ i (hi : i < ws.length), (sof ws[i]).size = ws[i].length ∧ ws[i].length ≤ 1000000) := fun i hi => ⟨by show (ws[i].toArray).size = _; simp, hw _ (List.getElem_mem hi)⟩
 obtain ⟨k, hk⟩ : ∃ k, ws.length = k := ⟨_, rfl⟩
 have HK := hidC hk
 rw [hk] at h2 h6 hcap ⊢
 have HR : Hid (R < w.heap.size) := by have := hc 0 (by omega); exact mcell_lt this
 have HBD := hidC (And.intro h2 h6)
 have e1 : ((k : Int) == 0) = false := by simp; omega
 have e2 : ((k : Int) == 1) = false := by simp; omega
 have w1 : IntKind.i64.wrap ((k : Int) - 1) = (k : Int) - 1 := by rw [IntKind.wrap_i64]; omega
 have e3 : ¬ (9223372036854775807 / ((k : Int) - 1) ≤ 1) := by
  rcases (show k = 2 ∨ k = 3 ∨ k = 4 ∨ k = 5 ∨ k = 6 by omega) with rfl | rfl | rfl | rfl | rfl <;> decide
 have e4 : ¬ (Int.tdiv 9223372036854775807 ((k : Int) - 1) ≤ 1) := by
  rcases (show k = 2 ∨ k = 3 ∨ k = 4 ∨ k = 5 ∨ k = 6 by omega) with rfl | rfl | rfl | rfl | rfl <;> decide
 have e5 : ((k : Int) - 1 == 0) = false := by simp; omega
 have e6 : ¬ (k : Int) - 1 = 0 := by omega
 have k1 : (0 : Int) ≤ 0 ∧ (0 : Int) < (k : Int) := by omega
 have k2 : 1 ≤ k := by omega
 clear hw hc
 go_enter Tryz.func78, Tryz.ntmps78
 go_wp2_with fail
 go_loopw [5, 41] (fun nv iv wx => ∃ j : Nat, j ≤ k ∧ iv = .int .i64 (j : Int) ∧ nv = .int .i64 ((k - 1 + lenS ws j : Nat) : Int) ∧ Hid (wx = w)) (fun _ iv _ => k - (intOf iv).toNat)
 case atStart => exact ⟨0, Nat.zero_le _, rfl, by rw [show lenS ws 0 = 0 from rfl]; congr 1; omega, rfl⟩
 case round =>
  obtain ⟨j, hj, rfl, rfl, HJ⟩ := hrel
  obtain rfl : wr = w := HJ.out
  by_cases hlt : j < k
  ·have hjl : j < ws.length := by rw [HK.out]; exact hlt
   have c0 := HC.out j hjl
   obtain ⟨s1, s2⟩ := HSZ.out j hjl
   have hs := lenS_succ hjl
   have hb := HLN.out j
   obtain ⟨U, hU⟩ : ∃ U, sof ws[j] = U := ⟨_, rfl⟩
   obtain ⟨A, hA⟩ : ∃ A, lenS ws j = A := ⟨_, rfl⟩
   rw [hU] at c0 s1
   rw [hA] at hs hb ⊢
   have i0 : (0 : Int) ≤ (j : Int) := by omega
   have i1 : (j : Int) < (k : Int) := by omega
   obtain ⟨N, hN⟩ : ∃ N, k - 1 + A = N := ⟨_, rfl⟩
   rw [hN]
   have g1 : IntKind.i64.wrap (9223372036854775807 - (N : Int)) = 9223372036854775807 - (N : Int) := by rw [IntKind.wrap_i64]; omega
   have g2 : ¬ (9223372036854775807 - (N : Int) < (U.size : Int)) := by omega
   have g3 : IntKind.i64.wrap ((N : Int) + (U.size : Int)) = ((N + U.size : Nat) : Int) := by rw [IntKind.wrap_i64]; omega
   have g4 : IntKind.i64.wrap ((j : Int) + 1) = ((j + 1 : Nat) : Int) := by rw [IntKind.wrap_i64]; omega
   have HNX : Hid (N + U.size = k - 1 + lenS ws (j + 1)) := by show _ = _; rw [hs, ← hN]; omega
   clear hjl s1 s2 hs hb hU hA hN HC HLN HSZ
   go_wp2
   go_roundw
   case rel => exact ⟨j + 1, by omega, by go_num, by congr 1; have := HNX.out; omega, (show Hid True from trivial)⟩
   case measure => simp [intOf]; omega
  ·obtain rfl : j = k := by omega
   have i1 : ¬ (j : Int) < (j : Int) := by omega
   obtain ⟨N, hN⟩ : ∃ N, j - 1 + lenS ws j = N := ⟨_, rfl⟩
   have hN1 : 0 < N ∧ N ≤ 281474976710656 := by have := HLN.out j; omega
   rw [hN]
   clear hN hlt hj
   obtain ⟨b, hb⟩ : ∃ b, wr.heap.size = b := ⟨_, rfl⟩
   obtain ⟨W, hW⟩ : ∃ W, wr.alloc (.cells #[.pointer none, .slice none 0 0] 99) = W := ⟨_, rfl⟩
   have hBd : BdT b b 99 0 (fun _ => undef) (.pointer none) (.slice none 0 0) [] W := by
    refine ⟨Nat.le_refl _, ?_, ⟨rfl, .inl ⟨rfl, rfl⟩⟩, .inl rfl⟩
    rw [← hW, ← hb]
    exact World.rowIs_alloc wr #[.pointer none, .slice none 0 0] _ _ (fun i hi => by
     rcases (show i = 0 ∨ i = 1 by have : i < 2 := hi; omega) with rfl | rfl <;> rfl)
   have HB0 : Hid (Below b wr W) := by show Below b wr W; rw [← hW, ← hb]; exact bel_alloc _ _
   have HG := hidC (growT_any b b _ 0 _ _ lie_Builder N hN1.1 hN1.2 W hBd)
   have HC0 : Hid (∀ (v : World), Below b wr v → ∀ i (hi : i < ws.length), v.cell? ⟨R, i, none⟩ = some (.string (sof ws[i]))) := fun v k i hi => by rw [← hb] at k; exact kc k (HC.out i hi)
   have HBS := hidC hb
   clear hBd hN1
   go_upto_region 20 with (go_at_call 112; (with_reducible refine HG.out.mono ?_); rintro e w1 ⟨rfl, v1, h1, b1⟩; have H1 := hidC (And.intro h1 (HB0.out.trans b1)); clear h1 b1)
   have hjl : 0 < ws.length := by rw [HK.out]; omega
   have c0 := HC0.out w1 H1.out.2 0 hjl
   obtain ⟨s1, s2⟩ := HSZ.out 0 hjl
   obtain ⟨U, hU⟩ : ∃ U, sof ws[0] = U := ⟨_, rfl⟩
   rw [hU] at c0 s1
   have HWS := hidC (writeT_any b b _ 0 _ _ _ [] lie_Builder U (by show 0 + U.size ≤ _; omega) w1 H1.out.1)
   have HU0 : Hid (bs U = joinW (ws.take 1)) := by
    show _ = _
    rw [← hU, bs_of]
    match ws, hjl with
    | a :: r, _ => rfl
   clear hjl s1 s2 hU
   go_upto_region 21 with (go_at_call 77; (with_reducible refine HWS.out.mono ?_); rintro e w2 ⟨rfl, v2, h2, b2, -⟩; have H2 := hidC (And.intro h2 (H1.out.2.trans b2)); clear h2 b2)
   clear c0
   have j1 : (1 : Int) ≤ (j : Int) ∧ 1 ≤ j := by omega
   have j2 : 1 ≤ j := by omega
   have j3 : (1 : Int) ≤ (j : Int) := by omega
   have j4 : (j : Int) ≤ (c : Int) := by omega
   have HEN : Hid (bs U = joinW (ws.take 1) ∧ Below b wr w2 ∧ ∃ v, BdT b b 99 0 (fun _ => undef) (.pointer (some ⟨b, 0, none⟩)) v (joinW (ws.take 1)) w2) := ⟨HU0.out, H2.out.2, v2, by have := H2.out.1; rw [HU0.out, List.nil_append] at this; exact this⟩
   go_wp2_with fail
   go_loopw [65] (fun iv wx => ∃ i : Nat, i ≤ j - 1 ∧ iv = .int .i64 (i : Int) ∧ Hid (Below b wr wx ∧ ∃ v, BdT b b 99 0 (fun _ => undef) (.pointer (some ⟨b, 0, none⟩)) v (joinW (ws.take (i + 1))) wx)) (fun iv _ => j - (intOf iv).toNat)
   case atStart => exact ⟨0, Nat.zero_le _, rfl, HEN.out.2.1, HEN.out.2.2⟩
   case round =>
    obtain ⟨i, hi, rfl, HJ2⟩ := hrel
    obtain ⟨b2, v3, h3⟩ := HJ2.out
    by_cases hlt : i < j - 1
    ·have hil : i + 1 < ws.length := by rw [HK.out]; omega
     have c1 := HC0.out _ b2 (i + 1) hil
     obtain ⟨s1, s2⟩ := HSZ.out (i + 1) hil
     have hjt := join_take hil
     obtain ⟨U2, hU2⟩ : ∃ U, sof ws[i + 1] = U := ⟨_, rfl⟩
     have hbU : bs U2 = ws[i + 1] := by rw [← hU2]; exact bs_of _
     rw [hU2] at c1 s1
     rw [← hbU] at hjt
     have c1' : wr.cell? ⟨R, 1 + i, none⟩ = some (.string U2) := by rw [Nat.add_comm]; exact c1
     have i0 : (0 : Int) ≤ (i : Int) := by omega
     have i1 : (i : Int) < ((j - 1 : Nat) : Int) := by omega
     have i2 : (i : Int) < (j : Int) - 1 := by omega
     have g4 : IntKind.i64.wrap ((i : Int) + 1) = ((i + 1 : Nat) : Int) := by rw [IntKind.wrap_i64]; omega
     have hl1 := HTL.out (i + 1)
     have HW1 := hidC (writeT_any b b _ 0 _ _ _ _ lie_Builder ⟨#[32]⟩ (by show _ + 1 ≤ _; omega) _ h3)
     have HW2 : Hid (∀ v4 x, BdT b b 99 0 (fun _ => undef) (.pointer (some ⟨b, 0, none⟩)) v4 (joinW (ws.take (i + 1)) ++ [32]) x → Calls Tryz.prog 77 #[.pointer (some ⟨b, 0, none⟩), .string U2] x fun e w' => e = .returned (.tuple #[.int .i64 (U2.size : Int), .nilIface]) ∧ ∃ v', BdT b b 99 0 (fun _ => undef) (.pointer (some ⟨b, 0, none⟩)) v' (joinW (ws.take (i + 2))) w' ∧ Below b x w' ∧ KeepX b x w') := fun v4 x k => by
      rw [hjt]
      exact writeT_any b b _ 0 _ _ _ _ lie_Builder U2 (by rw [List.length_append]; show _ + 1 + _ ≤ _; omega) _ k
     clear h3 hl1 hjt s1 s2 hU2 hbU hil hlt
     go_wp2_with (first
      | (go_at_call 77; (with_reducible refine HW1.out.mono ?_); rintro e w5 ⟨rfl, v5, h5, b5, -⟩; have H5 := hidC (And.intro h5 (b2.trans b5)); clear h5 b5 c1 c1')
      | (go_at_call 77; (with_reducible refine (HW2.out _ _ H5.out.1).mono ?_); rintro e w6 ⟨rfl, v6, h6, b6, -⟩; have H6 := hidC (And.intro (H5.out.2.trans b6) h6); clear h6 b6))
     go_roundw
     case rel => exact ⟨i + 1, by omega, by go_num, H6.out.1, v6, H6.out.2⟩
     case measure => simp [intOf]; omega
    ·obtain rfl : i = j - 1 := by omega
     have i1 : ¬ ((j - 1 : Nat) : Int) < ((j - 1 : Nat) : Int) := by omega
     have hall : ws.take (j - 1 + 1) = ws := List.take_of_length_le (by rw [HK.out]; omega)
     rw [hall] at h3
     have hne : joinW ws ≠ [] := join_some (by rw [HK.out]; omega)
     have HST := hidC (stringT_any b b _ 0 _ _ _ _ hne _ h3)
     clear h3 hall hne hlt
     go_wp2_with (go_at_call 48; (with_reducible refine HST.out.mono ?_); rintro e w6 ⟨rfl, b6⟩; have H6 := hidC (b2.trans b6); clear b6)
     refine bodyPost_ret (by simp [results, Tryz.results78, go_sem, *]; try rfl) rfl ?_
     exact ⟨rfl, by rw [HBS.out]; exact H6.out⟩
end Go.Proofs.YtgcmnkanjcfndaaGreatDoor
