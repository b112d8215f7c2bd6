import Derived.Test.YtmiidhgbdecdkaaPart3
import Derived.Test.YtmiidhgbdecdkaaPart4
import Derived.WalkKit
import Derived.Deep.QuietTactic
import Derived.BigQuiet
import Derived.LoopN
import Derived.Maps.AppendAt
import Derived.Deep.OwnRows
import Derived.Deep.DeepCutAuto
import Derived.OwnWalk
import Derived.Test.YtmiidhgbdecdkaaPart1
namespace Go.Proofs.Ytmiidhgbdecdkaa
open Go.RowKit
set_option linter.unusedVariables false
set_option linter.unusedSimpArgs false
theorem hdN {p : Prop} (h : p) : Hid p := h
def rowSm (r : Rw) : Bool := decide (0 < r.args.length) && decide (r.args.length ≤ 7) && decide (r.vals.length = r.args.length) && r.vals.all fun t => t.args.isEmpty && (t.kind != 2 || (decide (t.name = ⟨#[]⟩) && t.int_ == 0 && decide (t.key = ⟨#[]⟩) && t.at_ == 0))
theorem rows_sm : rowsA.all rowSm = true := by decide
theorem row_sm {r : Rw} (h : r ∈ rowsA) : 0 < r.args.length ∧ r.args.length ≤ 7 ∧ r.vals.length = r.args.length ∧ (∀ t ∈ r.vals, t.args = []) ∧ ∀ t ∈ r.vals, t.kind = 2 → t.name = ⟨#[]⟩ ∧ t.int_ = 0 ∧ t.key = ⟨#[]⟩ ∧ t.at_ = 0 := by
 have := List.all_eq_true.1 rows_sm r h
 unfold rowSm at this
 simp only [Bool.and_eq_true, decide_eq_true_eq, List.all_eq_true, List.isEmpty_iff, Bool.or_eq_true, bne_iff_ne, beq_iff_eq] at this
 refine ⟨this.1.1.1, this.1.1.2, this.1.2, fun t ht => (this.2 t ht).1, fun t ht hk => ?_⟩
 rcases (this.2 t ht).2 with h | ⟨⟨⟨h1, h2⟩, h3⟩, h4⟩
 ·exact absurd hk h
 ·exact ⟨h1, h2, h3, h4⟩
theorem bit_yes {G : Int} {n g i : Nat} (hg : gvn G n = g) (h : i < n) : (bits .and .i64 (G / 2 ^ i) 1 == 1) = g.testBit i := by
 rw [← hg, gvn_bit G h, and_one, Int.natCast_pow]
 rfl
theorem bit_no {G : Int} {n g i : Nat} (hg : gvn G n = g) (h : i < n) : (bits .and .i64 (G / 2 ^ i) 1 == 0) = !g.testBit i := by
 rw [← hg, gvn_bit G h, and_one, Int.natCast_pow]
 have h : G / ((2 : Nat) : Int) ^ i % 2 = 0 ∨ G / ((2 : Nat) : Int) ^ i % 2 = 1 := by omega
 show (G / ((2 : Nat) : Int) ^ i % 2 == 0) = _
 rcases h with h | h <;> rw [h] <;> rfl
set_option maxRecDepth 100000 in
set_option maxHeartbeats 8000000 in
theorem named_core (R : Int) (R0 : -9223372036854775808 ≤ R) (R1 : R ≤ 9223372036854775807) (G : Int) (G0 : -9223372036854775808 ≤ G) (G1 : G ≤ 9223372036854775807) (T : Int) (T0 : -9223372036854775808 ≤ T) (T1 : T ≤ 9223372036854775807) (w : World)
  (HRO : Hid (∀ x : World, Calls Try.prog 17 #[] x fun e w' => ∃ v, e = .returned v ∧ RowsAt x.heap.size w' v rowsA ∧ Below x.heap.size x w'))
  (HTW : Hid (∀ (t : Nd) (p : Option Addr) (c : Nat) (x : World), t.args = [] → Calls Try.prog 10 #[.agg #[.int .i64 t.kind, .string t.name, .int .u32 t.num, .int .i64 t.int_, .string t.key, .slice p 0 c, .int .i64 t.at_]] x fun e w' => ∃ p' c', e = .returned (.agg #[.int .i64 t.kind, .string t.name, .int .u32 t.num, .int .i64 t.int_, .string t.key, .slice p' 0 c', .int .i64 t.at_]) ∧ Below x.heap.size x w'))
  (HEX : Hid (∀ (r : Rw) (g : Nat), r ∈ rowsA → g < 2 ^ r.args.length → ∀ (l : List Nd), (l = (plA r g).take (lastG r.args.length g + 1) ∨ ∃ k, k < 10 ∧ l = rotA k (nmA r g)) → ∀ (p : Option Addr) (c : Nat) (x : World), Kids x anyH (.slice p l.length c) l → Calls Try.prog 9 #[.agg #[.int .i64 1, .string r.name, .int .u32 0, .int .i64 0, .string ⟨#[]⟩, .slice p l.length c, .int .i64 0]] x fun e w' => ∃ q d, e = .returned (.tuple #[.agg #[.int .i64 (becA r.name 0 (plA r g)).kind, .string (becA r.name 0 (plA r g)).name, .int .u32 (becA r.name 0 (plA r g)).num, .int .i64 (becA r.name 0 (plA r g)).int_, .string (becA r.name 0 (plA r g)).key, .slice q (becA r.name 0 (plA r g)).args.length d, .int .i64 (becA r.name 0 (plA r g)).at_], .int .i64 0, .int .i64 0]) ∧ Kids w' anyH (.slice q (becA r.name 0 (plA r g)).args.length d) (becA r.name 0 (plA r g)).args ∧ Below x.heap.size x w'))
  (HEQ : Hid (∀ (r : Rw) (g : Nat), r ∈ rowsA → g < 2 ^ r.args.length → ∀ (p q : Option Addr) (c d : Nat) (x : World), Kids x anyH (.slice p (becA r.name 0 (plA r g)).args.length c) (becA r.name 0 (plA r g)).args → Kids x anyH (.slice q (becA r.name 0 (plA r g)).args.length d) (becA r.name 0 (plA r g)).args → Calls Try.prog 16 #[.agg #[.int .i64 (becA r.name 0 (plA r g)).kind, .string (becA r.name 0 (plA r g)).name, .int .u32 (becA r.name 0 (plA r g)).num, .int .i64 (becA r.name 0 (plA r g)).int_, .string (becA r.name 0 (plA r g)).key, .slice p (becA r.name 0 (plA r g)).args.length c, .int .i64 (becA r.name 0 (plA r g)).at_], .agg #[.int .i64 (becA r.name 0 (plA r g)).kind, .string (becA r.name 0 (plA r g)).name, .int .u32 (becA r.name 0 (plA r g)).num, .int .i64 (becA r.name 0 (plA r g)).int_, .string (becA r.name 0 (plA r g)).key, .slice q (becA r.name 0 (plA r g)).args.length d, .int .i64 (becA r.name 0 (plA r g)).at_]] x fun e w' => e = .returned (.bool true) ∧ Below x.heap.size x w'))
  (HWK : Hid (∀ x : World, Calls Try.prog 8 #[] x fun e w' => e = .returned (.bool true) ∧ Below x.heap.size x w')) :
  Calls Try.prog 6 #[.agg #[.int .i64 R, .int .i64 G, .int .i64 T]] w fun e w' => e = .returned (.bool true) ∧ Below w.heap.size w w' := by
 obtain ⟨W0, hW0⟩ : ∃ x, w.alloc (.cells #[.int .i64 R, .int .i64 G, .int .i64 T] 39) = x := ⟨_, rfl⟩
 have hX0 : W0.heap[w.heap.size]? = some (.cells #[.int .i64 R, .int .i64 G, .int .i64 T] 39) := by rw [← hW0]; exact box_heapA _ _
 have hB0 : Below w.heap.size w W0 := by rw [← hW0]; exact bel_alloc _ _
 have HX0 : Hid (W0.heap[w.heap.size]? = some (.cells #[.int .i64 R, .int .i64 G, .int .i64 T] 39)) := hX0
 go_enter Try.func6, Try.ntmps6
 go_upto_region 2 with (go_at_call 17; (with_reducible refine (HRO.out _).mono ?_); rintro e v1 ⟨u, rfl, hr1, hb1⟩; have HR1 : Hid (RowsAt W0.heap.size v1 u rowsA) := hr1; have HB1 : Hid (Below W0.heap.size W0 v1) := hb1; clear hb1 hr1)
 obtain ⟨rb, hrb, rfl, hrow⟩ := HR1.out
 have hwr : wrap64 (R.tmod 17 + 17) = R.tmod 17 + 17 := by
  have h1 := Int.tmod_lt_of_pos R (b := 17) (by decide)
  have h2 := Int.lt_tmod_of_pos R (b := 17) (by decide)
  unfold wrap64
  omega
 obtain ⟨j, hj, hjl⟩ : ∃ j : Nat, (wrap64 (R.tmod 17 + 17)).tmod 17 = (j : Int) ∧ j < 17 := by
  rw [hwr]
  have h1 := Int.tmod_lt_of_pos R (b := 17) (by decide)
  have h2 := Int.lt_tmod_of_pos R (b := 17) (by decide)
  have h3 : 0 ≤ (R.tmod 17 + 17).tmod 17 := Int.tmod_nonneg 17 (by omega)
  have h4 := Int.tmod_lt_of_pos (R.tmod 17 + 17) (b := 17) (by decide)
  exact ⟨((R.tmod 17 + 17).tmod 17).toNat, by omega, by omega⟩
 clear hwr
 have hj1 : (0 : Int) ≤ (j : Int) := by omega
 have hj2 : (j : Int) < 17 := by omega
 have hlen : rowsA.length = 17 := rfl
 obtain ⟨⟨y0, z0⟩, ⟨y1, z1⟩, ⟨y2, z2⟩⟩ : (v1.cell? ⟨w.heap.size, 0, none⟩ = some (.int .i64 R) ∧ v1.frozen? ⟨w.heap.size, 0, none⟩ = false) ∧ (v1.cell? ⟨w.heap.size, 1, none⟩ = some (.int .i64 G) ∧ v1.frozen? ⟨w.heap.size, 1, none⟩ = false) ∧ (v1.cell? ⟨w.heap.size, 2, none⟩ = some (.int .i64 T) ∧ v1.frozen? ⟨w.heap.size, 2, none⟩ = false) := by
  have h := (HB1.out.block _ (hlt hX0)).trans hX0
  exact ⟨at_cellA h 0 rfl, at_cellA h 1 rfl, at_cellA h 2 rfl⟩
 obtain ⟨r, hrr⟩ : ∃ r, rowsA[j]'(by rw [hlen]; exact hjl) = r := ⟨_, rfl⟩
 obtain ⟨su, nu, c0, c1, c2, hs1, hn1⟩ := hrow j (by rw [hlen]; exact hjl)
 rw [hrr] at c0 hs1 hn1
 have hmem : r ∈ rowsA := by rw [← hrr]; exact List.getElem_mem _
 obtain ⟨hn0, hn7, hnv, hnl, hn2⟩ := row_sm hmem
 have HN22 : Hid (∀ t ∈ r.vals, t.kind = 2 → t.name = ⟨#[]⟩ ∧ t.int_ = 0 ∧ t.key = ⟨#[]⟩ ∧ t.at_ = 0) := hn2
 clear hn2
 obtain ⟨sb, hsb, rfl, hsc⟩ := hs1
 obtain ⟨nb, hnb, rfl, hnc⟩ := hn1
 obtain ⟨n, hn⟩ : ∃ n, r.args.length = n := ⟨_, rfl⟩
 rw [hnv, hn] at c2
 rw [hn] at c1
 obtain ⟨W2, hW2⟩ : ∃ x, v1.alloc (.cells #[.string r.name, .slice (some ⟨sb, 0, none⟩) n n, .slice (some ⟨nb, 0, none⟩) n n] 44) = x := ⟨_, rfl⟩
 have hX2 : W2.heap[v1.heap.size]? = some (.cells #[.string r.name, .slice (some ⟨sb, 0, none⟩) n n, .slice (some ⟨nb, 0, none⟩) n n] 44) := by rw [← hW2]; exact box_heapA _ _
 have hB2 : Below v1.heap.size v1 W2 := by rw [← hW2]; exact bel_alloc _ _
 go_upto_region 5 with fail
 try rw [hW2]
 have HV2 : Hid (W2.heap[w.heap.size]? = some (.cells #[.int .i64 R, .int .i64 G, .int .i64 T] 39)) := (hB2.block _ (by have := hlt hX0; have := HB1.out.size; omega)).trans ((HB1.out.block _ (hlt hX0)).trans hX0)
 have HS2 : Hid (∀ i (h : i < r.args.length), W2.cell? ⟨sb, i, none⟩ = some (.string r.args[i])) := fun i hi => (hB2.cell (mcell_lt (hsc i hi))).trans (hsc i hi)
 have HN2 : Hid (KA W2 anyH nb 0 r.vals) := hnc.below hB2
 have HB2 : Hid (Below w.heap.size w W2) := bel hB0 (bel HB1.out hB2)
 obtain ⟨RB, hRB⟩ : ∃ x, v1.heap.size = x := ⟨_, rfl⟩
 rw [hRB] at hX2 ⊢
 have HR2 : Hid (W2.heap[RB]? = some (.cells #[.string r.name, .slice (some ⟨sb, 0, none⟩) n n, .slice (some ⟨nb, 0, none⟩) n n] 44)) := hX2
 have HN : Hid (r.args.length = n) := hn
 have HMEM : Hid (r ∈ rowsA) := hmem
 have HNV : Hid (r.vals.length = n) := hnv.trans hn
 have HNL : Hid (∀ t ∈ r.vals, t.args = []) := hnl
 rw [hn] at hn0 hn7
 obtain ⟨g, hg⟩ : ∃ g, gvn G n = g := ⟨_, rfl⟩
 have HG : Hid (gvn G n = g) := hg
 clear hn hnv hnl hsc hnc hB2 hW2 hX0 hB0 HX0 HB1 HR1 hrow c0 c1 c2 y0 y1 y2 z0 z1 z2 hRB hrr hmem hj hjl hj1 hj2 hrb hsb hnb hg
 clear hX2
 go_loopw [5, 6] (fun lv iv wr => wr = W2 ∧ ∃ i : Nat, 1 ≤ i ∧ i ≤ n ∧ iv = .int .i64 i ∧ lv = .int .i64 (lastG i g : Nat)) (fun _ iv _ => n - (intOf iv).toNat)
 case atStart => exact ⟨rfl, 1, Nat.le_refl _, by omega, rfl, by rw [last_one]; rfl⟩
 case round =>
  obtain ⟨hwr, i, hi1, hi2, rfl, rfl⟩ := hrel
  rw [hwr]
  clear hwr wr
  have hv1 := (at_cellA HV2.out 1 rfl).1
  have hr1 := (at_cellA HR2.out 1 rfl).1
  by_cases hin : i < n
  ·have i1 : (i : Int) < (n : Int) := by omega
   have hbt := bit_yes HG.out hin
   by_cases hb : g.testBit i = true
   ·rw [hb] at hbt
    go_wp2
    go_roundw
    case rel => exact ⟨by first | trivial | rfl, i + 1, by omega, by omega, by go_num, by rw [last_succ, if_pos (by simp only [hb, Bool.and_true, decide_eq_true_eq]; simp; omega)]⟩
    case measure => simp [intOf]; omega
   ·have hb' : g.testBit i = false := by simpa using hb
    rw [hb'] at hbt
    go_wp2
    go_roundw
    case rel => exact ⟨by first | trivial | rfl, i + 1, by omega, by omega, by go_num, by rw [last_succ, if_neg (by rw [hb']; simp)]⟩
    case measure => simp [intOf]; omega
  ·obtain rfl : i = n := by omega
   have i1 : ¬ (i : Int) < (i : Int) := by omega
   go_upto_region 11 with fail
   clear hv1 hr1
   obtain ⟨la, hla⟩ : ∃ la, lastG i g = la := ⟨_, rfl⟩
   have hlan : la < i := by have := last_lt i g; omega
   have HLA : Hid (lastG i g = la) := hla
   rw [hla]
   clear hla
   obtain ⟨C, hC⟩ : ∃ C, W2.heap.size = C := ⟨_, rfl⟩
   have HC : Hid (W2.heap.size = C) := hC
   have HKV : Hid (Kids W2 anyH (.slice (some ⟨nb, 0, none⟩) r.vals.length i) r.vals) := ⟨_, _, rfl, trivial, .inr ⟨nb, 0, rfl, HN2.out⟩⟩
   clear hC
   go_loopw [7, 8, 9] (fun pv nv iv wr => Below C W2 wr ∧ C ≤ wr.heap.size ∧ ∃ (k : Nat) (pu nu : Value), pu = pv ∧ nu = nv ∧ k ≤ la + 1 ∧ iv = .int .i64 k ∧ Hid (LR wr C pu ((plA r g).take k) ∧ LR wr C nu (nmT r g k) ∧ ∀ b, pu.ownBlock = some b → nu.ownBlock ≠ some b)) (fun _ _ iv _ => la + 1 - (intOf iv).toNat)
   case atStart => exact ⟨by rw [← HC.out]; exact Below.refl _ _, by rw [← HC.out]; exact Nat.le_refl _, 0, _, _, rfl, rfl, Nat.zero_le _, rfl, by rw [List.take_zero]; exact ⟨LR.nil _ _, LR.nil _ _, fun b hb => by cases hb⟩⟩
   case round =>
    obtain ⟨hbt, hCt, k, pu, nu, rfl, rfl, hk, rfl, HL⟩ := hrel
    have HBT : Hid (Below C W2 wr) := hbt
    have HVt : Hid (wr.heap[w.heap.size]? = some (.cells #[.int .i64 R, .int .i64 G, .int .i64 T] 39)) := (hbt.block _ (by rw [← HC.out]; exact hlt HV2.out)).trans HV2.out
    have HRt : Hid (wr.heap[RB]? = some (.cells #[.string r.name, .slice (some ⟨sb, 0, none⟩) i i, .slice (some ⟨nb, 0, none⟩) i i] 44)) := (hbt.block _ (by rw [← HC.out]; exact hlt HR2.out)).trans HR2.out
    have hr2 : wr.cell? ⟨RB, 2, none⟩ = some (.slice (some ⟨nb, 0, none⟩) i i) := (at_cellA HRt.out 2 rfl).1
    by_cases hkl : k ≤ la
    ·have k1 : (k : Int) ≤ (la : Int) := by omega
     have k2 : (0 : Int) ≤ (k : Int) := by omega
     have k3 : (k : Int) < (i : Int) := by omega
     have hkv : k < r.vals.length := by rw [HNV.out]; omega
     obtain ⟨b1, o1, q1, d1, hp1, ⟨x0, x1, x2, x3, x4, x5, x6⟩, kx⟩ := kid_at HKV.out (by rw [HC.out]; exact hbt) hkv
     simp only [Option.some.injEq, Addr.mk.injEq] at hp1
     obtain ⟨rfl, rfl, -⟩ := hp1
     rw [Nat.zero_add] at x0 x1 x2 x3 x4 x5 x6
     obtain ⟨Y, hY⟩ : ∃ Y, r.vals[k] = Y := ⟨_, rfl⟩
     have hYa : Y.args = [] := by rw [← hY]; exact HNL.out _ (List.getElem_mem hkv)
     rw [hY] at x0 x1 x2 x3 x4 x5 x6
     rw [hYa] at x5
     have x5 : wr.cell? ⟨nb, k * 7 + 5, none⟩ = some (.slice q1 0 d1) := x5
     have HY : Hid (ix r.vals k = Y) := by show _ = _; unfold ix; rw [List.getD_eq_getElem?_getD, List.getElem?_eq_getElem hkv, hY]; rfl
     have HYA : Hid (Y.args = []) := hYa
     have HYM : Hid (Y ∈ r.vals) := by show _ ∈ _; rw [← hY]; exact List.getElem_mem hkv
     clear kx hY hYa hbt
     go_upto_region 13 with fail
     go_cut [10] (fun xv wx => ∃ O p c, xv = .pointer (some ⟨O, 0, none⟩) ∧ Hid (Below wr.heap.size wr wx ∧ wr.heap.size ≤ O ∧ wx.heap[O]? = some (.cells #[.int .i64 Y.kind, .string Y.name, .int .u32 Y.num, .int .i64 Y.int_, .string Y.key, .slice p 0 c, .int .i64 Y.at_] 26)))
     case first =>
      go_wp2_with (go_at_call 10; (with_reducible refine (HTW.out Y q1 d1 _ HYA.out).mono ?_); rintro e v3 ⟨p3, c3, rfl, hb3⟩; have HB3 : Hid (Below wr.heap.size wr v3) := hb3; clear hb3)
      go_meet
      exact ⟨v3.heap.size, p3, c3, rfl, bel HB3.out (bel_alloc _ _), HB3.out.size, box_heapA _ _⟩
     case rest =>
      obtain ⟨O, p3, c3, rfl, HX3⟩ := hcut
      clear x0 x1 x2 x3 x4 x5 x6
      obtain ⟨⟨m0, m1, m2, m3, m4, m5, m6⟩, f0, f1, f2, f3, f4, f5, f6⟩ := sevenA HX3.out.2.2
      by_cases hk0 : k = 0
      ·subst hk0
       go_upto_region 18 with fail
       obtain ⟨wx, hwx⟩ : ∃ x, ((((((((wc.setCell ⟨O, 0, none⟩ (.int .i64 2)).setCell ⟨O, 1, none⟩ (.string ⟨#[]⟩)).setCell ⟨O, 2, none⟩ (.int .u32 1056964608)).setCell ⟨O, 3, none⟩ (.int .i64 0)).setCell ⟨O, 4, none⟩ (.string ⟨#[]⟩)).setCell ⟨O, 5, none⟩ (.slice none 0 0)).setCell ⟨O, 6, none⟩ (.int .i64 0))) = x := ⟨_, rfl⟩
       have hxX : wx.heap[O]? = some (.cells #[.int .i64 2, .string ⟨#[]⟩, .int .u32 1056964608, .int .i64 0, .string ⟨#[]⟩, .slice none 0 0, .int .i64 0] 26) := by
        rw [← hwx]; exact put_sevenA HX3.out.2.2 _ _ _ _ _ _ _
       have hxo : Off O wc wx := by rw [← hwx]; exact (((((((Off.refl O wc).set 0 _).set 1 _).set 2 _).set 3 _).set 4 _).set 5 _).set 6 _
       have hxb : Below wr.heap.size wr wx := hxo.below HX3.out.1 HX3.out.2.1
       try rw [hwx]
       clear hwx hxo m0 m1 m2 m3 m4 m5 m6 f0 f1 f2 f3 f4 f5 f6
       try clear hv1
       obtain ⟨hLp, hLn, hDj⟩ := HL.out
       have hX : plX r g 0 = (⟨2, ⟨#[]⟩, 1056964608, 0, ⟨#[]⟩, [], 0⟩ : Nd) := rfl
       have hXa : ((⟨2, ⟨#[]⟩, 1056964608, 0, ⟨#[]⟩, [], 0⟩ : Nd)).args = [] := rfl
       have hpl : ((plA r g).take 0).length = 0 := by rw [List.length_take, pl_length, HN.out]; omega
       obtain ⟨g1, cap1, w1, hr1, hL1, hM1, hd1, hgO, hnO, hCO, hb1, hX1⟩ := step_place (t := (⟨2, ⟨#[]⟩, 1056964608, 0, ⟨#[]⟩, [], 0⟩ : Nd)) (Nat.le_of_eq HC.out.symm) HBT.out hCt hxb HX3.out.2.1 hxX hXa hLp hLn hDj (by rw [hpl]; omega) 24
       rw [hpl] at hr1 hL1
       have hsuc : (plA r g).take (0 + 1) = (plA r g).take 0 ++ [(⟨2, ⟨#[]⟩, 1056964608, 0, ⟨#[]⟩, [], 0⟩ : Nd)] := by rw [pl_succ r g 0 (by rw [HN.out]; omega), hX]
       rw [← hsuc] at hL1
       have HR1 := hdN hr1
       have HL1 := hdN hL1
       have HM1 := hdN hM1
       have HB1 := hdN hb1
       obtain ⟨⟨m0, m1, m2, m3, m4, m5, m6⟩, f0, f1, f2, f3, f4, f5, f6⟩ := sevenA hxX
       clear hr1 hL1 hM1 hb1 hLp hLn hDj hxX hsuc
       have hlC : C ≤ w1.heap.size := by have := (HL1.out.lt g1 rfl).2; have := (HL1.out.lt g1 rfl).1; omega
       obtain ⟨nl, hnl⟩ : ∃ x, (nmT r g 0).length = x := ⟨_, rfl⟩
       have hnl7 : nl ≤ 7 := by rw [← hnl]; have := nmT_len r g 0 (by rw [HN.out]; omega); omega
       have hka : 0 < r.args.length := by rw [HN.out]; omega
       obtain ⟨g2, cap2, w2, hr2', hL2, hM2, hd2, hb2⟩ := step_named (t := (⟨2, ⟨#[]⟩, 1056964608, 0, ⟨#[]⟩, [], 0⟩ : Nd)) r.args[0] hlC HB1.out hX1 hXa HL1.out HM1.out hd1 hgO hnO hCO (by rw [hnl]; omega) 24
       rw [hnl] at hr2' hL2
       have hns : nmT r g (0 + 1) = nmT r g 0 ++ [⟨2, ⟨#[]⟩, 1056964608, 0, r.args[0], [], 0⟩] := by rw [nmT_succ r g 0 hka, if_pos (by simp), hX]; rfl
       have hL2' : LR w2 C (.slice (some ⟨g2, 0, none⟩) (nl + 1) cap2) (nmT r g (0 + 1)) := by rw [hns]; exact hL2
       have HR2' := hdN hr2'
       have HL2 := hdN hL2'
       have HM2 := hdN hM2
       have HB2' := hdN hb2
       have hsk : w1.cell? ⟨sb, 0, none⟩ = some (.string r.args[0]) := by have h := HS2.out 0 hka; exact (World.cell?_of_block (HB1.out.block sb (by rw [← HC.out]; exact mcell_lt h))).trans h
       have hrk : w1.cell? ⟨RB, 1, none⟩ = some (.slice (some ⟨sb, 0, none⟩) i i) := by have h := (at_cellA HR2.out 1 rfl).1; exact (World.cell?_of_block (HB1.out.block RB (by rw [← HC.out]; exact hlt HR2.out))).trans h
       obtain ⟨⟨t0, t1, t2, t3, t4, t5, t6⟩, s0, s1, s2, s3, s4, s5, s6⟩ := sevenA hX1
       clear hr2' hL2 hL2' hM2 hb2 hns
       go_wp2_with (first
        | (at_builtin; refine wpList_appE rfl _ _ 24 rfl pu (.slice (some ⟨wx.heap.size, 0, none⟩) 1 1) _ rfl rfl HR1.out ?_)
        | (at_builtin; refine wpList_appE rfl _ _ 24 rfl nu (.slice (some ⟨w1.heap.size, 0, none⟩) 1 1) _ rfl rfl HR2'.out ?_))
       go_roundw
       case rel => exact ⟨HB2'.out, by have := (HM2.out.lt g1 rfl).2; have := (HM2.out.lt g1 rfl).1; omega, 0 + 1, _, _, rfl, rfl, by omega, by go_num, HM2.out, HL2.out, fun b hb hb2 => hd2 (by have h1 : g1 = b := Option.some.inj hb; have h2 : g2 = b := Option.some.inj hb2; omega)⟩
       case measure => simp [intOf]; try omega
      ·have e0 : ((k : Int) == 0) = false := by simp; omega
       have g0 : (0 : Int) < (k : Int) := by omega
       have hg1 : gvn G i = g := HG.out
       have hbt := bit_yes hg1 (show k < i by omega)
       have hbn := bit_no hg1 (show k < i by omega)
       clear hg1
       have hv1 : wc.cell? ⟨w.heap.size, 1, none⟩ = some (.int .i64 G) := (at_cellA ((HX3.out.1.block _ (hlt HVt.out)).trans HVt.out) 1 rfl).1
       by_cases hb : g.testBit k = true
       ·rw [hb] at hbt hbn
        by_cases hY2 : Y.kind = 2
        ·have e2 : (Y.kind == 2) = true := by simpa using hY2
         have HY2 : Hid (Y.kind = 2) := hY2
         clear hY2
         go_upto_region 18 with fail
         obtain ⟨wx, hwx⟩ : ∃ x, wc.setCell ⟨O, 2, none⟩ (.int .u32 1073741824) = x := ⟨_, rfl⟩
         have hxX : wx.heap[O]? = some (.cells #[.int .i64 Y.kind, .string Y.name, .int .u32 1073741824, .int .i64 Y.int_, .string Y.key, .slice p3 0 c3, .int .i64 Y.at_] 26) := by
          rw [← hwx]; have := put_oneA HX3.out.2.2 2 (.int .u32 1073741824); simpa using this
         have hxo : Off O wc wx := by rw [← hwx]; exact (Off.refl O wc).set 2 _
         have hxb : Below wr.heap.size wr wx := hxo.below HX3.out.1 HX3.out.2.1
         try rw [hwx]
         clear hwx hxo m0 m1 m2 m3 m4 m5 m6 f0 f1 f2 f3 f4 f5 f6
         try clear hv1
         obtain ⟨hLp, hLn, hDj⟩ := HL.out
         have hX : plX r g k = (⟨Y.kind, Y.name, 1073741824, Y.int_, Y.key, Y.args, Y.at_⟩ : Nd) := by obtain ⟨y1, y2, y3, y4⟩ := HN22.out Y HYM.out HY2.out; unfold plX; rw [if_neg hk0, HY.out, if_pos (by rw [hb]; simpa using HY2.out), HY2.out, y1, y2, y3, y4, HYA.out]
         have hXa : ((⟨Y.kind, Y.name, 1073741824, Y.int_, Y.key, Y.args, Y.at_⟩ : Nd)).args = [] := HYA.out
         have hpl : ((plA r g).take k).length = k := by rw [List.length_take, pl_length, HN.out]; omega
         obtain ⟨g1, cap1, w1, hr1, hL1, hM1, hd1, hgO, hnO, hCO, hb1, hX1⟩ := step_place (t := (⟨Y.kind, Y.name, 1073741824, Y.int_, Y.key, Y.args, Y.at_⟩ : Nd)) (Nat.le_of_eq HC.out.symm) HBT.out hCt hxb HX3.out.2.1 hxX hXa hLp hLn hDj (by rw [hpl]; omega) 24
         rw [hpl] at hr1 hL1
         have hsuc : (plA r g).take (k + 1) = (plA r g).take k ++ [(⟨Y.kind, Y.name, 1073741824, Y.int_, Y.key, Y.args, Y.at_⟩ : Nd)] := by rw [pl_succ r g k (by rw [HN.out]; omega), hX]
         rw [← hsuc] at hL1
         have HR1 := hdN hr1
         have HL1 := hdN hL1
         have HM1 := hdN hM1
         have HB1 := hdN hb1
         obtain ⟨⟨m0, m1, m2, m3, m4, m5, m6⟩, f0, f1, f2, f3, f4, f5, f6⟩ := sevenA hxX
         clear hr1 hL1 hM1 hb1 hLp hLn hDj hxX hsuc
         have hlC : C ≤ w1.heap.size := by have := (HL1.out.lt g1 rfl).2; have := (HL1.out.lt g1 rfl).1; omega
         obtain ⟨nl, hnl⟩ : ∃ x, (nmT r g k).length = x := ⟨_, rfl⟩
         have hnl7 : nl ≤ 7 := by rw [← hnl]; have := nmT_len r g k (by rw [HN.out]; omega); omega
         have hka : k < r.args.length := by rw [HN.out]; omega
         obtain ⟨g2, cap2, w2, hr2', hL2, hM2, hd2, hb2⟩ := step_named (t := (⟨Y.kind, Y.name, 1073741824, Y.int_, Y.key, Y.args, Y.at_⟩ : Nd)) r.args[k] hlC HB1.out hX1 hXa HL1.out HM1.out hd1 hgO hnO hCO (by rw [hnl]; omega) 24
         rw [hnl] at hr2' hL2
         have hns : nmT r g (k + 1) = nmT r g k ++ [⟨Y.kind, Y.name, 1073741824, Y.int_, r.args[k], Y.args, Y.at_⟩] := by rw [nmT_succ r g k hka, if_pos (by rw [hb]; simp), hX]; rfl
         have hL2' : LR w2 C (.slice (some ⟨g2, 0, none⟩) (nl + 1) cap2) (nmT r g (k + 1)) := by rw [hns]; exact hL2
         have HR2' := hdN hr2'
         have HL2 := hdN hL2'
         have HM2 := hdN hM2
         have HB2' := hdN hb2
         have hsk : w1.cell? ⟨sb, k, none⟩ = some (.string r.args[k]) := by have h := HS2.out k hka; exact (World.cell?_of_block (HB1.out.block sb (by rw [← HC.out]; exact mcell_lt h))).trans h
         have hrk : w1.cell? ⟨RB, 1, none⟩ = some (.slice (some ⟨sb, 0, none⟩) i i) := by have h := (at_cellA HR2.out 1 rfl).1; exact (World.cell?_of_block (HB1.out.block RB (by rw [← HC.out]; exact hlt HR2.out))).trans h
         have hvk : w1.cell? ⟨w.heap.size, 1, none⟩ = some (.int .i64 G) := by have h := (at_cellA HV2.out 1 rfl).1; exact (World.cell?_of_block (HB1.out.block _ (by rw [← HC.out]; exact hlt HV2.out))).trans h
         obtain ⟨⟨t0, t1, t2, t3, t4, t5, t6⟩, s0, s1, s2, s3, s4, s5, s6⟩ := sevenA hX1
         clear hr2' hL2 hL2' hM2 hb2 hns
         go_wp2_with (first
          | (at_builtin; refine wpList_appE rfl _ _ 24 rfl pu (.slice (some ⟨wx.heap.size, 0, none⟩) 1 1) _ rfl rfl HR1.out ?_)
          | (at_builtin; refine wpList_appE rfl _ _ 24 rfl nu (.slice (some ⟨w1.heap.size, 0, none⟩) 1 1) _ rfl rfl HR2'.out ?_))
         go_roundw
         case rel => exact ⟨HB2'.out, by have := (HM2.out.lt g1 rfl).2; have := (HM2.out.lt g1 rfl).1; omega, k + 1, _, _, rfl, rfl, by omega, by go_num, HM2.out, HL2.out, fun b hb hb2 => hd2 (by have h1 : g1 = b := Option.some.inj hb; have h2 : g2 = b := Option.some.inj hb2; omega)⟩
         case measure => simp [intOf]; try omega
        ·have e2 : (Y.kind == 2) = false := by simpa using hY2
         have HY2 : Hid (¬ Y.kind = 2) := hY2
         clear hY2
         go_upto_region 18 with fail
         obtain ⟨wx, hwx⟩ : ∃ x, wc = x := ⟨_, rfl⟩
         have hxX : wx.heap[O]? = some (.cells #[.int .i64 Y.kind, .string Y.name, .int .u32 Y.num, .int .i64 Y.int_, .string Y.key, .slice p3 0 c3, .int .i64 Y.at_] 26) := by
          rw [← hwx]; exact HX3.out.2.2
         have hxo : Off O wc wx := by rw [← hwx]; exact Off.refl O wc
         have hxb : Below wr.heap.size wr wx := hxo.below HX3.out.1 HX3.out.2.1
         try rw [hwx]
         clear hwx hxo m0 m1 m2 m3 m4 m5 m6 f0 f1 f2 f3 f4 f5 f6
         try clear hv1
         obtain ⟨hLp, hLn, hDj⟩ := HL.out
         have hX : plX r g k = Y := by unfold plX; rw [if_neg hk0, HY.out, if_neg (by rw [hb]; simpa using HY2.out)]
         have hXa : (Y).args = [] := HYA.out
         have hpl : ((plA r g).take k).length = k := by rw [List.length_take, pl_length, HN.out]; omega
         obtain ⟨g1, cap1, w1, hr1, hL1, hM1, hd1, hgO, hnO, hCO, hb1, hX1⟩ := step_place (t := Y) (Nat.le_of_eq HC.out.symm) HBT.out hCt hxb HX3.out.2.1 hxX hXa hLp hLn hDj (by rw [hpl]; omega) 24
         rw [hpl] at hr1 hL1
         have hsuc : (plA r g).take (k + 1) = (plA r g).take k ++ [Y] := by rw [pl_succ r g k (by rw [HN.out]; omega), hX]
         rw [← hsuc] at hL1
         have HR1 := hdN hr1
         have HL1 := hdN hL1
         have HM1 := hdN hM1
         have HB1 := hdN hb1
         obtain ⟨⟨m0, m1, m2, m3, m4, m5, m6⟩, f0, f1, f2, f3, f4, f5, f6⟩ := sevenA hxX
         clear hr1 hL1 hM1 hb1 hLp hLn hDj hxX hsuc
         have hlC : C ≤ w1.heap.size := by have := (HL1.out.lt g1 rfl).2; have := (HL1.out.lt g1 rfl).1; omega
         obtain ⟨nl, hnl⟩ : ∃ x, (nmT r g k).length = x := ⟨_, rfl⟩
         have hnl7 : nl ≤ 7 := by rw [← hnl]; have := nmT_len r g k (by rw [HN.out]; omega); omega
         have hka : k < r.args.length := by rw [HN.out]; omega
         obtain ⟨g2, cap2, w2, hr2', hL2, hM2, hd2, hb2⟩ := step_named (t := Y) r.args[k] hlC HB1.out hX1 hXa HL1.out HM1.out hd1 hgO hnO hCO (by rw [hnl]; omega) 24
         rw [hnl] at hr2' hL2
         have hns : nmT r g (k + 1) = nmT r g k ++ [⟨Y.kind, Y.name, Y.num, Y.int_, r.args[k], Y.args, Y.at_⟩] := by rw [nmT_succ r g k hka, if_pos (by rw [hb]; simp), hX]; rfl
         have hL2' : LR w2 C (.slice (some ⟨g2, 0, none⟩) (nl + 1) cap2) (nmT r g (k + 1)) := by rw [hns]; exact hL2
         have HR2' := hdN hr2'
         have HL2 := hdN hL2'
         have HM2 := hdN hM2
         have HB2' := hdN hb2
         have hsk : w1.cell? ⟨sb, k, none⟩ = some (.string r.args[k]) := by have h := HS2.out k hka; exact (World.cell?_of_block (HB1.out.block sb (by rw [← HC.out]; exact mcell_lt h))).trans h
         have hrk : w1.cell? ⟨RB, 1, none⟩ = some (.slice (some ⟨sb, 0, none⟩) i i) := by have h := (at_cellA HR2.out 1 rfl).1; exact (World.cell?_of_block (HB1.out.block RB (by rw [← HC.out]; exact hlt HR2.out))).trans h
         have hvk : w1.cell? ⟨w.heap.size, 1, none⟩ = some (.int .i64 G) := by have h := (at_cellA HV2.out 1 rfl).1; exact (World.cell?_of_block (HB1.out.block _ (by rw [← HC.out]; exact hlt HV2.out))).trans h
         obtain ⟨⟨t0, t1, t2, t3, t4, t5, t6⟩, s0, s1, s2, s3, s4, s5, s6⟩ := sevenA hX1
         clear hr2' hL2 hL2' hM2 hb2 hns
         go_wp2_with (first
          | (at_builtin; refine wpList_appE rfl _ _ 24 rfl pu (.slice (some ⟨wx.heap.size, 0, none⟩) 1 1) _ rfl rfl HR1.out ?_)
          | (at_builtin; refine wpList_appE rfl _ _ 24 rfl nu (.slice (some ⟨w1.heap.size, 0, none⟩) 1 1) _ rfl rfl HR2'.out ?_))
         go_roundw
         case rel => exact ⟨HB2'.out, by have := (HM2.out.lt g1 rfl).2; have := (HM2.out.lt g1 rfl).1; omega, k + 1, _, _, rfl, rfl, by omega, by go_num, HM2.out, HL2.out, fun b hb hb2 => hd2 (by have h1 : g1 = b := Option.some.inj hb; have h2 : g2 = b := Option.some.inj hb2; omega)⟩
         case measure => simp [intOf]; try omega
       ·have hb' : g.testBit k = false := by simpa using hb
        rw [hb'] at hbt hbn
        go_upto_region 18 with fail
        obtain ⟨wx, hwx⟩ : ∃ x, wc = x := ⟨_, rfl⟩
        have hxX : wx.heap[O]? = some (.cells #[.int .i64 Y.kind, .string Y.name, .int .u32 Y.num, .int .i64 Y.int_, .string Y.key, .slice p3 0 c3, .int .i64 Y.at_] 26) := by
         rw [← hwx]; exact HX3.out.2.2
        have hxo : Off O wc wx := by rw [← hwx]; exact Off.refl O wc
        have hxb : Below wr.heap.size wr wx := hxo.below HX3.out.1 HX3.out.2.1
        try rw [hwx]
        clear hwx hxo m0 m1 m2 m3 m4 m5 m6 f0 f1 f2 f3 f4 f5 f6
        try clear hv1
        obtain ⟨hLp, hLn, hDj⟩ := HL.out
        have hX : plX r g k = Y := by unfold plX; rw [if_neg hk0, HY.out, if_neg (by rw [hb']; simp)]
        have hXa : (Y).args = [] := HYA.out
        have hpl : ((plA r g).take k).length = k := by rw [List.length_take, pl_length, HN.out]; omega
        obtain ⟨g1, cap1, w1, hr1, hL1, hM1, hd1, hgO, hnO, hCO, hb1, hX1⟩ := step_place (t := Y) (Nat.le_of_eq HC.out.symm) HBT.out hCt hxb HX3.out.2.1 hxX hXa hLp hLn hDj (by rw [hpl]; omega) 24
        rw [hpl] at hr1 hL1
        have hsuc : (plA r g).take (k + 1) = (plA r g).take k ++ [Y] := by rw [pl_succ r g k (by rw [HN.out]; omega), hX]
        rw [← hsuc] at hL1
        have HR1 := hdN hr1
        have HL1 := hdN hL1
        have HM1 := hdN hM1
        have HB1 := hdN hb1
        obtain ⟨⟨m0, m1, m2, m3, m4, m5, m6⟩, f0, f1, f2, f3, f4, f5, f6⟩ := sevenA hxX
        clear hr1 hL1 hM1 hb1 hLp hLn hDj hxX hsuc
        have hns : nmT r g (k + 1) = nmT r g k := by rw [nmT_succ r g k (by rw [HN.out]; omega), if_neg (by rw [hb']; simp; omega), List.append_nil]
        have HM1' : Hid (LR w1 C nu (nmT r g (k + 1))) := by show LR _ _ _ _; rw [hns]; exact HM1.out
        have hvk : w1.cell? ⟨w.heap.size, 1, none⟩ = some (.int .i64 G) := by have h := (at_cellA HV2.out 1 rfl).1; exact (World.cell?_of_block (HB1.out.block _ (by rw [← HC.out]; exact hlt HV2.out))).trans h
        clear hns
        go_wp2_with (at_builtin; refine wpList_appE rfl _ _ 24 rfl pu (.slice (some ⟨wx.heap.size, 0, none⟩) 1 1) _ rfl rfl HR1.out ?_)
        go_roundw
        case rel => exact ⟨HB1.out, by have := (HL1.out.lt g1 rfl).2; have := (HL1.out.lt g1 rfl).1; omega, k + 1, _, _, rfl, rfl, by omega, by go_num, HL1.out, HM1'.out, fun b hb hb2 => hd1 (by have h1 : g1 = b := Option.some.inj hb; rw [h1]; exact hb2)⟩
        case measure => simp [intOf]; omega
    ·obtain rfl : k = la + 1 := by omega
     have k1 : ¬ ((la + 1 : Nat) : Int) ≤ (la : Int) := by omega
     obtain ⟨hLp, hLn, -⟩ := HL.out
     have hend := nmT_end r g (by rw [HN.out]; omega)
     rw [HN.out, HLA.out] at hend
     rw [hend] at hLn
     have hL0 : 0 < (nmA r g).length := by rw [← hend]; exact nmT_pos r g la (by rw [HN.out]; omega)
     have hL7 : (nmA r g).length ≤ 8 := by rw [← hend]; have := nmT_len r g (la + 1) (by rw [HN.out]; omega); omega
     obtain ⟨gn, cn, -, -, rfl, hcn, -⟩ := hLn.node hL0
     obtain ⟨pp, cp, hpv⟩ := hLp.len
     subst hpv
     obtain ⟨PL, hPL⟩ : ∃ x, (plA r g).take (la + 1) = x := ⟨_, rfl⟩
     obtain ⟨M, hM⟩ : ∃ x, nmA r g = x := ⟨_, rfl⟩
     have hgl : g < 2 ^ r.args.length := by rw [HN.out, ← HG.out]; exact gvn_lt _ _
     have HE : Hid (∀ (l : List Nd), (l = PL ∨ ∃ k, k < 10 ∧ l = rotA k M) → ∀ (p : Option Addr) (c : Nat) (x : World), Kids x anyH (.slice p l.length c) l → Calls Try.prog 9 #[.agg #[.int .i64 1, .string r.name, .int .u32 0, .int .i64 0, .string ⟨#[]⟩, .slice p l.length c, .int .i64 0]] x fun e w' => ∃ q d, e = .returned (.tuple #[.agg #[.int .i64 (becA r.name 0 (plA r g)).kind, .string (becA r.name 0 (plA r g)).name, .int .u32 (becA r.name 0 (plA r g)).num, .int .i64 (becA r.name 0 (plA r g)).int_, .string (becA r.name 0 (plA r g)).key, .slice q (becA r.name 0 (plA r g)).args.length d, .int .i64 (becA r.name 0 (plA r g)).at_], .int .i64 0, .int .i64 0]) ∧ Kids w' anyH (.slice q (becA r.name 0 (plA r g)).args.length d) (becA r.name 0 (plA r g)).args ∧ Below x.heap.size x w') := fun l hl => HEX.out r g HMEM.out hgl l (by rw [HN.out, HLA.out, hPL, hM]; exact hl)
     have HQ := hdN (HEQ.out r g HMEM.out hgl)
     rw [hPL] at hLp ⊢
     rw [hM] at hLn hL0 hL7 hcn ⊢
     obtain ⟨A, hA⟩ : ∃ A, becA r.name 0 (plA r g) = A := ⟨_, rfl⟩
     rw [hA] at HE HQ
     obtain ⟨na, hna⟩ : ∃ x, A.args.length = x := ⟨_, rfl⟩
     rw [hna] at HE HQ
     obtain ⟨L, hL⟩ : ∃ x, M.length = x := ⟨_, rfl⟩
     rw [hL] at hLn hL0 hL7 hcn ⊢
     obtain ⟨np, hnp⟩ : ∃ x, PL.length = x := ⟨_, rfl⟩
     rw [hnp] at hLp ⊢
     have HLP : Hid (LR wr C (.slice pp np cp) PL) := hLp
     have HLN : Hid (LR wr C (.slice (some ⟨gn, 0, none⟩) L cn) M) := hLn
     have HNP : Hid (PL.length = np) := hnp
     have HML : Hid (M.length = L) := hL
     have HCW : Hid (C ≤ wr.heap.size) := hCt
     have HBW : Hid (Below w.heap.size w wr) := by
      have h1 := HB2.out
      rw [← HC.out] at hbt
      exact bel h1 hbt
     have HVr : Hid (wr.heap[w.heap.size]? = some (.cells #[.int .i64 R, .int .i64 G, .int .i64 T] 39)) := HVt.out
     have HRr : Hid (wr.heap[RB]? = some (.cells #[.string r.name, .slice (some ⟨sb, 0, none⟩) i i, .slice (some ⟨nb, 0, none⟩) i i] 44)) := HRt.out
     clear hLp hLn hend HEX HEQ hPL hM hA hna hL hnp hr2 hbt HL HBT HVt HRt HB2 HV2 HR2 HS2 HN2 HKV HTW HRO hCt hgl HLA HC
     go_upto_region 23 with fail
     obtain ⟨V0, hV0⟩ : ∃ x, wr = x := ⟨_, rfl⟩
     rw [hV0] at HLP HLN HCW HBW HVr HRr ⊢
     clear hV0 wr
     go_loopw [8, 11] (fun nv iv wt => Below V0.heap.size V0 wt ∧ ∃ (k gg cap : Nat), nv = .slice (some ⟨gg, 0, none⟩) L cap ∧ L ≤ cap ∧ k ≤ 9 ∧ iv = .int .i64 k ∧ Hid (LR wt C (.slice (some ⟨gg, 0, none⟩) L cap) (rotA k M))) (fun _ iv _ => 9 - (intOf iv).toNat)
     case atStart => exact ⟨Below.refl _ _, 0, gn, cn, rfl, hcn, by omega, rfl, HLN.out⟩
     case round =>
      obtain ⟨hbV, k, gg, cap, rfl, hLc, hk9, rfl, HLk⟩ := hrel
      have HBV := hdN hbV
      have hlk : (rotA k M).length = L := by rw [rota_len, HML.out]
      have hv2 : wr.cell? ⟨w.heap.size, 2, none⟩ = some (.int .i64 T) := (at_cellA ((hbV.block _ (hlt HVr.out)).trans HVr.out) 2 rfl).1
      by_cases hgo : (k : Int) < T ∧ k < 9
      ·obtain ⟨k1', k2'⟩ := hgo
       have k3 : (k : Int) < 9 := by omega
       by_cases hcap1 : cap = 1
       ·obtain rfl : L = 1 := by omega
        subst hcap1
        have hturn := step_turn (wr := wr) (C := C) (g := gg) (cap := 1) (l := rotA k M) (Nat.le_trans HCW.out hbV.size) (by rw [hlk]; exact HLk.out) (by rw [hlk]; exact hL0) (by rw [hlk]; omega) 0 0 (.inl (by rw [hlk])) 24 24
        obtain ⟨p1, n1, c1, w1, hr1, hb1, q1, d1, hc1, g2, cap2, w2, hr2, hL2, hb2⟩ := hturn
        obtain ⟨X, hX⟩ : ∃ X, (rotA k M)[0]'(by rw [hlk]; exact hL0) = X := ⟨_, rfl⟩
        simp only [hX] at hc1 hr2
        rw [hlk] at hr1 hr2 hL2
        rw [← rot_succ] at hL2
        have y0 := hc1 0 (by decide)
        have y1 := hc1 1 (by decide)
        have y2 := hc1 2 (by decide)
        have y3 := hc1 3 (by decide)
        have y4 := hc1 4 (by decide)
        have y5 := hc1 5 (by decide)
        have y6 := hc1 6 (by decide)
        simp only [nodeCells, List.getElem?_cons_zero, List.getElem?_cons_succ] at y0 y1 y2 y3 y4 y5 y6
        have hcap2 : 1 ≤ cap2 := by
         obtain ⟨g', cap', -, -, hv', hc', -⟩ := hL2.node (i := 0) (by rw [rota_len, HML.out]; exact hL0)
         rw [rota_len, HML.out] at hv' hc'
         simp only [Value.slice.injEq] at hv'
         omega
        have HR1 := hdN hr1
        have HR2 := hdN hr2
        have HL2 := hdN hL2
        have HB2 := hdN (bel hbV hb2)
        clear hr1 hr2 hL2 hb1 hb2 hc1 hX HQ HE HWK
        go_wp2_with (first
         | (at_builtin; refine wpList_appE rfl _ _ 24 rfl (.slice none 0 0) (.slice (some ⟨gg, 0, none⟩) 0 0) _ rfl rfl HR1.out ?_)
         | (at_builtin; refine wpList_appE rfl _ _ 24 rfl (.slice p1 n1 c1) (.slice (some ⟨w1.heap.size, 0, none⟩) 1 1) _ rfl rfl HR2.out ?_))
        go_roundw
        case rel => exact ⟨HB2.out, k + 1, g2, cap2, rfl, hcap2, by omega, by go_num, HL2.out⟩
        case measure => simp [intOf]; omega
       ·have hcn1 : ¬ (cap : Int) = 1 := by omega
        have hturn := step_turn (wr := wr) (C := C) (g := gg) (cap := cap) (l := rotA k M) (Nat.le_trans HCW.out hbV.size) (by rw [hlk]; exact HLk.out) (by rw [hlk]; exact hL0) (by rw [hlk]; omega) 7 (cap - 1) (.inr rfl) 24 24
        obtain ⟨p1, n1, c1, w1, hr1, hb1, q1, d1, hc1, g2, cap2, w2, hr2, hL2, hb2⟩ := hturn
        obtain ⟨X, hX⟩ : ∃ X, (rotA k M)[0]'(by rw [hlk]; exact hL0) = X := ⟨_, rfl⟩
        simp only [hX] at hc1 hr2
        rw [hlk] at hr1 hr2 hL2
        rw [← rot_succ] at hL2
        have y0 := hc1 0 (by decide)
        have y1 := hc1 1 (by decide)
        have y2 := hc1 2 (by decide)
        have y3 := hc1 3 (by decide)
        have y4 := hc1 4 (by decide)
        have y5 := hc1 5 (by decide)
        have y6 := hc1 6 (by decide)
        simp only [nodeCells, List.getElem?_cons_zero, List.getElem?_cons_succ] at y0 y1 y2 y3 y4 y5 y6
        have hcap2 : L ≤ cap2 := by
         obtain ⟨g', cap', -, -, hv', hc', -⟩ := hL2.node (i := 0) (by rw [rota_len, HML.out]; exact hL0)
         rw [rota_len, HML.out] at hv' hc'
         simp only [Value.slice.injEq] at hv'
         omega
        have HR1 := hdN hr1
        have HR2 := hdN hr2
        have HL2 := hdN hL2
        have HB2 := hdN (bel hbV hb2)
        have l1 : (1 : Int) ≤ (L : Int) := by omega
        have l2 : (L : Int) ≤ (cap : Int) := by omega
        have l3 : 1 ≤ L := by omega
        have l4 : (0 : Int) < (L : Int) := by omega
        clear hr1 hr2 hL2 hb1 hb2 hc1 hX HQ HE HWK
        go_wp2_with (first
         | (at_builtin; refine wpList_appE rfl _ _ 24 rfl (.slice none 0 0) (.slice (some ⟨gg, 7, none⟩) (L - 1) (cap - 1)) _ rfl rfl HR1.out ?_)
         | (at_builtin; refine wpList_appE rfl _ _ 24 rfl (.slice p1 n1 c1) (.slice (some ⟨w1.heap.size, 0, none⟩) 1 1) _ rfl rfl HR2.out ?_))
        go_roundw
        case rel => exact ⟨HB2.out, k + 1, g2, cap2, rfl, hcap2, by omega, by go_num, HL2.out⟩
        case measure => simp [intOf]; omega
      ·by_cases hkT : (k : Int) < T
       ·have k3 : ¬ (k : Int) < 9 := by omega
        have hr0 : wr.cell? ⟨RB, 0, none⟩ = some (.string r.name) := (at_cellA ((HBV.out.block _ (hlt HRr.out)).trans HRr.out) 0 rfl).1
        have HKP : Hid (Kids wr anyH (.slice pp np cp) PL) := HLP.out.kids.below HBV.out
        have HKN : Hid (Kids wr anyH (.slice (some ⟨gg, 0, none⟩) L cap) (rotA k M)) := HLk.out.kids
        have HE1 : Hid (∀ (x : World), Kids x anyH (.slice pp np cp) PL → Calls Try.prog 9 #[.agg #[.int .i64 1, .string r.name, .int .u32 0, .int .i64 0, .string ⟨#[]⟩, .slice pp np cp, .int .i64 0]] x fun e w' => ∃ q d, e = .returned (.tuple #[.agg #[.int .i64 A.kind, .string A.name, .int .u32 A.num, .int .i64 A.int_, .string A.key, .slice q na d, .int .i64 A.at_], .int .i64 0, .int .i64 0]) ∧ Kids w' anyH (.slice q na d) A.args ∧ Below x.heap.size x w') := fun x hx => by
         have h := HE.out PL (.inl rfl) pp cp x (by rw [HNP.out]; exact hx)
         rw [HNP.out] at h
         exact h
        have HE2 : Hid (∀ (x : World), Kids x anyH (.slice (some ⟨gg, 0, none⟩) L cap) (rotA k M) → Calls Try.prog 9 #[.agg #[.int .i64 1, .string r.name, .int .u32 0, .int .i64 0, .string ⟨#[]⟩, .slice (some ⟨gg, 0, none⟩) L cap, .int .i64 0]] x fun e w' => ∃ q d, e = .returned (.tuple #[.agg #[.int .i64 A.kind, .string A.name, .int .u32 A.num, .int .i64 A.int_, .string A.key, .slice q na d, .int .i64 A.at_], .int .i64 0, .int .i64 0]) ∧ Kids w' anyH (.slice q na d) A.args ∧ Below x.heap.size x w') := fun x hx => by
         have h := HE.out (rotA k M) (.inr ⟨k, by omega, rfl⟩) (some ⟨gg, 0, none⟩) cap x (by rw [hlk]; exact hx)
         rw [hlk] at h
         exact h
        clear HE HLP HLN HLk hbV
        go_upto_region 29 with (go_at_call 9; (with_reducible refine (HE1.out _ HKP.out).mono ?_); rintro e x1 ⟨q1, d1, rfl, hk1, hb1⟩; have HK1 : Hid (Kids x1 anyH (.slice q1 na d1) A.args) := hk1; have HB1 : Hid (Below wr.heap.size wr x1) := hb1; clear hk1 hb1)
        obtain ⟨Z1, hZ1⟩ : ∃ x, x1.alloc (.cells #[.int .i64 A.kind, .string A.name, .int .u32 A.num, .int .i64 A.int_, .string A.key, .slice q1 na d1, .int .i64 A.at_] 26) = x := ⟨_, rfl⟩
        try rw [hZ1]
        have hz1 : Z1.heap[x1.heap.size]? = some (.cells #[.int .i64 A.kind, .string A.name, .int .u32 A.num, .int .i64 A.int_, .string A.key, .slice q1 na d1, .int .i64 A.at_] 26) := by rw [← hZ1]; exact box_heapA _ _
        have hzb : Below x1.heap.size x1 Z1 := by rw [← hZ1]; exact bel_alloc _ _
        have HK1z : Hid (Kids Z1 anyH (.slice q1 na d1) A.args) := HK1.out.below hzb
        have HBz1 : Hid (Below wr.heap.size wr Z1) := bel HB1.out hzb
        have HKNz : Hid (Kids Z1 anyH (.slice (some ⟨gg, 0, none⟩) L cap) (rotA k M)) := HKN.out.below HBz1.out
        have hr0z : Z1.cell? ⟨RB, 0, none⟩ = some (.string r.name) := (HBz1.out.cell (mcell_lt hr0)).trans hr0
        obtain ⟨O1, hO1⟩ : ∃ x, x1.heap.size = x := ⟨_, rfl⟩
        rw [hO1] at hz1 ⊢
        have HZ1 := hdN hz1
        clear hz1 hzb hZ1 hO1 HK1 HB1 HKN HKP HE1 hr0
        go_upto_region 30 with (go_at_call 9; (with_reducible refine (HE2.out _ HKNz.out).mono ?_); rintro e x2 ⟨q2, d2, rfl, hk2, hb2⟩; have HK2 : Hid (Kids x2 anyH (.slice q2 na d2) A.args) := hk2; have HB2 : Hid (Below Z1.heap.size Z1 x2) := hb2; clear hk2 hb2)
        obtain ⟨Z2, hZ2⟩ : ∃ x, x2.alloc (.cells #[.int .i64 A.kind, .string A.name, .int .u32 A.num, .int .i64 A.int_, .string A.key, .slice q2 na d2, .int .i64 A.at_] 26) = x := ⟨_, rfl⟩
        try rw [hZ2]
        have hz2 : Z2.heap[x2.heap.size]? = some (.cells #[.int .i64 A.kind, .string A.name, .int .u32 A.num, .int .i64 A.int_, .string A.key, .slice q2 na d2, .int .i64 A.at_] 26) := by rw [← hZ2]; exact box_heapA _ _
        have hzb2 : Below Z1.heap.size Z1 Z2 := bel HB2.out (by rw [← hZ2]; exact bel_alloc _ _)
        have HKa : Hid (Kids Z2 anyH (.slice q1 na d1) A.args) := HK1z.out.below hzb2
        have HKb : Hid (Kids Z2 anyH (.slice q2 na d2) A.args) := HK2.out.below (by rw [← hZ2]; exact bel_alloc _ _)
        have HBf : Hid (Below w.heap.size w Z2) := bel HBW.out (bel HBV.out (bel HBz1.out hzb2))
        obtain ⟨⟨t0, t1, t2, t3, t4, t5, t6⟩, -⟩ := sevenA ((hzb2.block _ (hlt HZ1.out)).trans HZ1.out)
        obtain ⟨⟨s0, s1, s2, s3, s4, s5, s6⟩, -⟩ := sevenA hz2
        obtain ⟨O2, hO2⟩ : ∃ x, x2.heap.size = x := ⟨_, rfl⟩
        rw [hO2] at s0 s1 s2 s3 s4 s5 s6 ⊢
        clear hz2 hzb2 hZ2 hO2 HK1z HBz1 HKNz hr0z HE2 HB2 HK2 HZ1
        go_wp2_with (first
         | (go_at_call 16; (with_reducible refine (HQ.out _ _ _ _ _ HKa.out HKb.out).mono ?_); rintro e v8 ⟨rfl, hb8⟩; have HB8 : Hid (Below w.heap.size w v8) := bel HBf.out hb8; clear hb8)
         | (go_at_call 8; (with_reducible refine (HWK.out _).mono ?_); rintro e v9 ⟨rfl, hb9⟩; have HB9 : Hid (Below w.heap.size w v9) := bel HB8.out hb9; clear hb9))
        refine bodyPost_ret (by simp [results, Try.results6, go_sem]; try rfl) rfl ?_
        exact ⟨rfl, HB9.out⟩
       ·have k3 : ¬ (k : Int) < T := hkT
        have hr0 : wr.cell? ⟨RB, 0, none⟩ = some (.string r.name) := (at_cellA ((HBV.out.block _ (hlt HRr.out)).trans HRr.out) 0 rfl).1
        have HKP : Hid (Kids wr anyH (.slice pp np cp) PL) := HLP.out.kids.below HBV.out
        have HKN : Hid (Kids wr anyH (.slice (some ⟨gg, 0, none⟩) L cap) (rotA k M)) := HLk.out.kids
        have HE1 : Hid (∀ (x : World), Kids x anyH (.slice pp np cp) PL → Calls Try.prog 9 #[.agg #[.int .i64 1, .string r.name, .int .u32 0, .int .i64 0, .string ⟨#[]⟩, .slice pp np cp, .int .i64 0]] x fun e w' => ∃ q d, e = .returned (.tuple #[.agg #[.int .i64 A.kind, .string A.name, .int .u32 A.num, .int .i64 A.int_, .string A.key, .slice q na d, .int .i64 A.at_], .int .i64 0, .int .i64 0]) ∧ Kids w' anyH (.slice q na d) A.args ∧ Below x.heap.size x w') := fun x hx => by
         have h := HE.out PL (.inl rfl) pp cp x (by rw [HNP.out]; exact hx)
         rw [HNP.out] at h
         exact h
        have HE2 : Hid (∀ (x : World), Kids x anyH (.slice (some ⟨gg, 0, none⟩) L cap) (rotA k M) → Calls Try.prog 9 #[.agg #[.int .i64 1, .string r.name, .int .u32 0, .int .i64 0, .string ⟨#[]⟩, .slice (some ⟨gg, 0, none⟩) L cap, .int .i64 0]] x fun e w' => ∃ q d, e = .returned (.tuple #[.agg #[.int .i64 A.kind, .string A.name, .int .u32 A.num, .int .i64 A.int_, .string A.key, .slice q na d, .int .i64 A.at_], .int .i64 0, .int .i64 0]) ∧ Kids w' anyH (.slice q na d) A.args ∧ Below x.heap.size x w') := fun x hx => by
         have h := HE.out (rotA k M) (.inr ⟨k, by omega, rfl⟩) (some ⟨gg, 0, none⟩) cap x (by rw [hlk]; exact hx)
         rw [hlk] at h
         exact h
        clear HE HLP HLN HLk hbV
        go_upto_region 29 with (go_at_call 9; (with_reducible refine (HE1.out _ HKP.out).mono ?_); rintro e x1 ⟨q1, d1, rfl, hk1, hb1⟩; have HK1 : Hid (Kids x1 anyH (.slice q1 na d1) A.args) := hk1; have HB1 : Hid (Below wr.heap.size wr x1) := hb1; clear hk1 hb1)
        obtain ⟨Z1, hZ1⟩ : ∃ x, x1.alloc (.cells #[.int .i64 A.kind, .string A.name, .int .u32 A.num, .int .i64 A.int_, .string A.key, .slice q1 na d1, .int .i64 A.at_] 26) = x := ⟨_, rfl⟩
        try rw [hZ1]
        have hz1 : Z1.heap[x1.heap.size]? = some (.cells #[.int .i64 A.kind, .string A.name, .int .u32 A.num, .int .i64 A.int_, .string A.key, .slice q1 na d1, .int .i64 A.at_] 26) := by rw [← hZ1]; exact box_heapA _ _
        have hzb : Below x1.heap.size x1 Z1 := by rw [← hZ1]; exact bel_alloc _ _
        have HK1z : Hid (Kids Z1 anyH (.slice q1 na d1) A.args) := HK1.out.below hzb
        have HBz1 : Hid (Below wr.heap.size wr Z1) := bel HB1.out hzb
        have HKNz : Hid (Kids Z1 anyH (.slice (some ⟨gg, 0, none⟩) L cap) (rotA k M)) := HKN.out.below HBz1.out
        have hr0z : Z1.cell? ⟨RB, 0, none⟩ = some (.string r.name) := (HBz1.out.cell (mcell_lt hr0)).trans hr0
        obtain ⟨O1, hO1⟩ : ∃ x, x1.heap.size = x := ⟨_, rfl⟩
        rw [hO1] at hz1 ⊢
        have HZ1 := hdN hz1
        clear hz1 hzb hZ1 hO1 HK1 HB1 HKN HKP HE1 hr0
        go_upto_region 30 with (go_at_call 9; (with_reducible refine (HE2.out _ HKNz.out).mono ?_); rintro e x2 ⟨q2, d2, rfl, hk2, hb2⟩; have HK2 : Hid (Kids x2 anyH (.slice q2 na d2) A.args) := hk2; have HB2 : Hid (Below Z1.heap.size Z1 x2) := hb2; clear hk2 hb2)
        obtain ⟨Z2, hZ2⟩ : ∃ x, x2.alloc (.cells #[.int .i64 A.kind, .string A.name, .int .u32 A.num, .int .i64 A.int_, .string A.key, .slice q2 na d2, .int .i64 A.at_] 26) = x := ⟨_, rfl⟩
        try rw [hZ2]
        have hz2 : Z2.heap[x2.heap.size]? = some (.cells #[.int .i64 A.kind, .string A.name, .int .u32 A.num, .int .i64 A.int_, .string A.key, .slice q2 na d2, .int .i64 A.at_] 26) := by rw [← hZ2]; exact box_heapA _ _
        have hzb2 : Below Z1.heap.size Z1 Z2 := bel HB2.out (by rw [← hZ2]; exact bel_alloc _ _)
        have HKa : Hid (Kids Z2 anyH (.slice q1 na d1) A.args) := HK1z.out.below hzb2
        have HKb : Hid (Kids Z2 anyH (.slice q2 na d2) A.args) := HK2.out.below (by rw [← hZ2]; exact bel_alloc _ _)
        have HBf : Hid (Below w.heap.size w Z2) := bel HBW.out (bel HBV.out (bel HBz1.out hzb2))
        obtain ⟨⟨t0, t1, t2, t3, t4, t5, t6⟩, -⟩ := sevenA ((hzb2.block _ (hlt HZ1.out)).trans HZ1.out)
        obtain ⟨⟨s0, s1, s2, s3, s4, s5, s6⟩, -⟩ := sevenA hz2
        obtain ⟨O2, hO2⟩ : ∃ x, x2.heap.size = x := ⟨_, rfl⟩
        rw [hO2] at s0 s1 s2 s3 s4 s5 s6 ⊢
        clear hz2 hzb2 hZ2 hO2 HK1z HBz1 HKNz hr0z HE2 HB2 HK2 HZ1
        go_wp2_with (first
         | (go_at_call 16; (with_reducible refine (HQ.out _ _ _ _ _ HKa.out HKb.out).mono ?_); rintro e v8 ⟨rfl, hb8⟩; have HB8 : Hid (Below w.heap.size w v8) := bel HBf.out hb8; clear hb8)
         | (go_at_call 8; (with_reducible refine (HWK.out _).mono ?_); rintro e v9 ⟨rfl, hb9⟩; have HB9 : Hid (Below w.heap.size w v9) := bel HB8.out hb9; clear hb9))
        refine bodyPost_ret (by simp [results, Try.results6, go_sem]; try rfl) rfl ?_
        exact ⟨rfl, HB9.out⟩
end Go.Proofs.Ytmiidhgbdecdkaa
namespace Go.Proofs.Ytmiidhgbdecdkaa
open Go.RowKit
set_option linter.unusedVariables false
set_option linter.unusedSimpArgs false
set_option maxRecDepth 100000 in
set_option maxHeartbeats 2000000 in
theorem rows_any (w : World) :
  Calls Try.prog 17 #[] w fun e w' => ∃ v, e = .returned v ∧ RowsAt w.heap.size w' v rowsA ∧ Below w.heap.size w w' := by
 obtain ⟨W, hW, hX, hB, hs⟩ := new_box w
 obtain ⟨⟨g0, g1, g2, g3, g4, g5, g6⟩, f0, f1, f2, f3, f4, f5, f6⟩ := sevenA hX
 go_enter Try.func17, Try.ntmps17
 go_upto_region 3 with fail
 obtain ⟨V, hV⟩ : ∃ V, ((((((((W.setCell ⟨w.heap.size, 0, none⟩ (.int .i64 0)).setCell ⟨w.heap.size, 1, none⟩ (.string ⟨#[]⟩)).setCell ⟨w.heap.size, 2, none⟩ (.int .u32 0)).setCell ⟨w.heap.size, 3, none⟩ (.int .i64 0)).setCell ⟨w.heap.size, 4, none⟩ (.string ⟨#[]⟩)).setCell ⟨w.heap.size, 5, none⟩ (.slice none 0 0)).setCell ⟨w.heap.size, 6, none⟩ (.int .i64 0))) = V := ⟨_, rfl⟩
 have hN : V.heap[w.heap.size]? = some (.cells #[.int .i64 0, .string ⟨#[]⟩, .int .u32 0, .int .i64 0, .string ⟨#[]⟩, .slice none 0 0, .int .i64 0] 26) := by rw [← hV]; exact put_sevenA hX _ _ _ _ _ _ _
 have hVs : V.heap.size = w.heap.size + 1 := by rw [← hV]; simp [hs]
 have hBV : Below w.heap.size w V := by rw [← hV]; exact below_seven hB _ _ _ _ _ _ _
 rw [hV]
 have hbA := (Below.refl V.heap.size V).alloc (Nat.le_refl _) (.cells (([⟨#[114, 97, 116, 101]⟩, ⟨#[98, 49]⟩, ⟨#[98, 50]⟩, ⟨#[101, 112, 115]⟩, ⟨#[101, 112, 115, 95, 114, 111, 111, 116]⟩] : List ByteArray).map Value.string).toArray 9)
 have hA := strs_new (B := w.heap.size) V (by omega) [⟨#[114, 97, 116, 101]⟩, ⟨#[98, 49]⟩, ⟨#[98, 50]⟩, ⟨#[101, 112, 115]⟩, ⟨#[101, 112, 115, 95, 114, 111, 111, 116]⟩] 9
 have hN2 : (V.alloc (.cells (([⟨#[114, 97, 116, 101]⟩, ⟨#[98, 49]⟩, ⟨#[98, 50]⟩, ⟨#[101, 112, 115]⟩, ⟨#[101, 112, 115, 95, 114, 111, 111, 116]⟩] : List ByteArray).map Value.string).toArray 9)).heap[w.heap.size]? = _ := (hbA.block _ (Array.getElem?_eq_some_iff.1 hN).1).trans hN
 have hB2 := bel hBV hbA
 obtain ⟨U, hU⟩ : ∃ U, V.alloc (.cells (([⟨#[114, 97, 116, 101]⟩, ⟨#[98, 49]⟩, ⟨#[98, 50]⟩, ⟨#[101, 112, 115]⟩, ⟨#[101, 112, 115, 95, 114, 111, 111, 116]⟩] : List ByteArray).map Value.string).toArray 9) = U := ⟨_, rfl⟩
 rw [hU] at hA hN2 hB2
 rw [hVs] at hA
 change Code.wp Try.prog (Code.region 3 opsR true) _ _ (V.alloc (.cells (([⟨#[114, 97, 116, 101]⟩, ⟨#[98, 49]⟩, ⟨#[98, 50]⟩, ⟨#[101, 112, 115]⟩, ⟨#[101, 112, 115, 95, 114, 111, 111, 116]⟩] : List ByteArray).map Value.string).toArray 9))
 rw [hU]
 refine wp_region_each (by kernel_rfl) (baseR w.heap.size (w.heap.size + 1)) (PostR w.heap.size) opsR_early (show eachOk opsR 135 [1, 2] = true from opsR_each) (PostR.stable _) ?_ (fun i o ho a v hd hb hF => step_all i o ho a v (by have := hb.size; have := hB2.size; omega) ((hb.block _ (Array.getElem?_eq_some_iff.1 hN2).1).trans hN2) (hA.below hb) hF _ (fun x w' h1 h2 => ⟨x, rfl, h1, h2⟩)) ?_
 ·intro p hp
  simp [baseR] at hp
  rcases hp with rfl | rfl <;> rfl
 ·intro a v hd hs hb hrest hposts
  have h130 : (opsR[130]?).map (·.dst) = some (some 0) := by kernel_rfl
  cases ho : opsR[130]? with
  | none => rw [ho] at h130; simp at h130
  | some o =>
   rw [ho] at h130
   obtain ⟨x, hx, hp⟩ := hposts 130 o 0 ho (by simpa using h130)
   have hr : RowsAt w.heap.size v x rowsA := hp
   clear hposts hrest
   go_wp2
   refine bodyPost_ret (results_tmp rfl _ _ _) hd ?_
   rw [show a.tmps.getD 0 undef = x by rw [Array.getD_eq_getD_getElem?, hx]; rfl]
   exact ⟨x, rfl, hr, bel hB2 hb⟩
end Go.Proofs.Ytmiidhgbdecdkaa
namespace Go.Proofs.Ytmiidhgbdecdkaa
open Go.RowKit
set_option linter.unusedVariables false
set_option linter.unusedSimpArgs false
end Go.Proofs.Ytmiidhgbdecdkaa
namespace Go.Proofs.Ytmiidhgbdecdkaa
open Go.RowKit
set_option linter.unusedVariables false
set_option linter.unusedSimpArgs false
end Go.Proofs.Ytmiidhgbdecdkaa
namespace Go.Proofs.Ytmiidhgbdecdkaa
open Go.RowKit
set_option linter.unusedVariables false
set_option linter.unusedSimpArgs false
theorem take_succA {α : Type} {l : List α} {i : Nat} (h : i < l.length) : l.take (i + 1) = l.take i ++ [l[i]] := by simp
end Go.Proofs.Ytmiidhgbdecdkaa
namespace Go.Proofs.Ytmiidhgbdecdkaa
open Go.RowKit
set_option linter.unusedVariables false
set_option linter.unusedSimpArgs false
end Go.Proofs.Ytmiidhgbdecdkaa
namespace Go.Proofs.Ytmiidhgbdecdkaa
open Go.RowKit
set_option linter.unusedVariables false
set_option linter.unusedSimpArgs false
theorem rows_len : ∀ r ∈ rowsA, r.args.length ≤ 7 ∧ r.vals.length = r.args.length := by
 intro r hr
 simp only [rowsA, List.mem_cons, List.not_mem_nil, or_false] at hr
 rcases hr with rfl | rfl | rfl | rfl | rfl | rfl | rfl | rfl | rfl | rfl | rfl | rfl | rfl | rfl | rfl | rfl | rfl <;> exact ⟨by decide, rfl⟩
end Go.Proofs.Ytmiidhgbdecdkaa
namespace Go.Proofs.Ytmiidhgbdecdkaa
open Go.RowKit
set_option linter.unusedVariables false
set_option linter.unusedSimpArgs false
end Go.Proofs.Ytmiidhgbdecdkaa
