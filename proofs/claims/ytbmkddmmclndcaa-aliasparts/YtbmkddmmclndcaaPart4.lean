import Derived.Test.YtbmkddmmclndcaaPart3
import Derived.Deep.QuietTactic
import Derived.BigQuiet
import Derived.LoopN
import Derived.Maps.AppendAt
import Derived.Deep.OwnRows
import Derived.Deep.DeepCutAuto
import Derived.OwnWalk
import Derived.Test.YtbmkddmmclndcaaPart1
/- The reference: Rows, the walk. -/
namespace Go.Proofs.Ytbmkddmmclndcaa
open Go.RowKit
set_option linter.unusedVariables false
set_option linter.unusedSimpArgs false

set_option maxRecDepth 100000 in
set_option maxHeartbeats 2000000 in
theorem rows_any (w : World) :
    Calls Try.prog 17 #[] w fun e w' => ∃ v, e = .returned v ∧ RowsAt w.heap.size w' v rowsA ∧ Below w.heap.size w w' := by
  obtain ⟨W, hW, hX, hB, hs⟩ := new_box w
  obtain ⟨⟨g0, g1, g2, g3, g4, g5, g6⟩, f0, f1, f2, f3, f4, f5, f6⟩ := sevenA hX
  go_enter Try.func17, Try.ntmps17
  go_upto_region 3 with fail
  obtain ⟨V, hV⟩ : ∃ V, ((((((((W.setCell ⟨w.heap.size, 0, none⟩ (.int .i64 0)).setCell ⟨w.heap.size, 1, none⟩ (.string ⟨#[]⟩)).setCell ⟨w.heap.size, 2, none⟩ (.int .u32 0)).setCell ⟨w.heap.size, 3, none⟩ (.int .i64 0)).setCell ⟨w.heap.size, 4, none⟩ (.string ⟨#[]⟩)).setCell ⟨w.heap.size, 5, none⟩ (.slice none 0 0)).setCell ⟨w.heap.size, 6, none⟩ (.int .i64 0))) = V := ⟨_, rfl⟩
  have hN : V.heap[w.heap.size]? = some (.cells #[.int .i64 0, .string ⟨#[]⟩, .int .u32 0, .int .i64 0, .string ⟨#[]⟩, .slice none 0 0, .int .i64 0] 26) := by rw [← hV]; exact put_sevenA hX _ _ _ _ _ _ _
  have hVs : V.heap.size = w.heap.size + 1 := by rw [← hV]; simp [hs]
  have hBV : Below w.heap.size w V := by rw [← hV]; exact below_seven hB _ _ _ _ _ _ _
  rw [hV]
  have hbA := (Below.refl V.heap.size V).alloc (Nat.le_refl _) (.cells (([⟨#[114, 97, 116, 101]⟩, ⟨#[98, 49]⟩, ⟨#[98, 50]⟩, ⟨#[101, 112, 115]⟩, ⟨#[101, 112, 115, 95, 114, 111, 111, 116]⟩] : List ByteArray).map Value.string).toArray 9)
  have hA := strs_new (B := w.heap.size) V (by omega) [⟨#[114, 97, 116, 101]⟩, ⟨#[98, 49]⟩, ⟨#[98, 50]⟩, ⟨#[101, 112, 115]⟩, ⟨#[101, 112, 115, 95, 114, 111, 111, 116]⟩] 9
  have hN2 : (V.alloc (.cells (([⟨#[114, 97, 116, 101]⟩, ⟨#[98, 49]⟩, ⟨#[98, 50]⟩, ⟨#[101, 112, 115]⟩, ⟨#[101, 112, 115, 95, 114, 111, 111, 116]⟩] : List ByteArray).map Value.string).toArray 9)).heap[w.heap.size]? = _ := (hbA.block _ (Array.getElem?_eq_some_iff.1 hN).1).trans hN
  have hB2 := bel hBV hbA
  obtain ⟨U, hU⟩ : ∃ U, V.alloc (.cells (([⟨#[114, 97, 116, 101]⟩, ⟨#[98, 49]⟩, ⟨#[98, 50]⟩, ⟨#[101, 112, 115]⟩, ⟨#[101, 112, 115, 95, 114, 111, 111, 116]⟩] : List ByteArray).map Value.string).toArray 9) = U := ⟨_, rfl⟩
  rw [hU] at hA hN2 hB2
  rw [hVs] at hA
  change Code.wp Try.prog (Code.region 3 opsR true) _ _ (V.alloc (.cells (([⟨#[114, 97, 116, 101]⟩, ⟨#[98, 49]⟩, ⟨#[98, 50]⟩, ⟨#[101, 112, 115]⟩, ⟨#[101, 112, 115, 95, 114, 111, 111, 116]⟩] : List ByteArray).map Value.string).toArray 9))
  rw [hU]
  refine wp_region_each (by kernel_rfl) (baseR w.heap.size (w.heap.size + 1)) (PostR w.heap.size) opsR_early (show eachOk opsR 135 [1, 2] = true from opsR_each) (PostR.stable _) ?_ (fun i o ho a v hd hb hF => step_all i o ho a v (by have := hb.size; have := hB2.size; omega) ((hb.block _ (Array.getElem?_eq_some_iff.1 hN2).1).trans hN2) (hA.below hb) hF _ (fun x w' h1 h2 => ⟨x, rfl, h1, h2⟩)) ?_
  · intro p hp
    simp [baseR] at hp
    rcases hp with rfl | rfl <;> rfl
  · intro a v hd hs hb hrest hposts
    have h130 : (opsR[130]?).map (·.dst) = some (some 0) := by kernel_rfl
    cases ho : opsR[130]? with
    | none => rw [ho] at h130; simp at h130
    | some o =>
      rw [ho] at h130
      obtain ⟨x, hx, hp⟩ := hposts 130 o 0 ho (by simpa using h130)
      have hr : RowsAt w.heap.size v x rowsA := hp
      clear hposts hrest
      go_wp2
      refine bodyPost_ret (results_tmp rfl _ _ _) hd ?_
      rw [show a.tmps.getD 0 undef = x by rw [Array.getD_eq_getD_getElem?, hx]; rfl]
      exact ⟨x, rfl, hr, bel hB2 hb⟩

end Go.Proofs.Ytbmkddmmclndcaa
/- The reference: find, place. -/
namespace Go.Proofs.Ytbmkddmmclndcaa
open Go.RowKit
set_option linter.unusedVariables false
set_option linter.unusedSimpArgs false

end Go.Proofs.Ytbmkddmmclndcaa
/- The reference: place. -/
namespace Go.Proofs.Ytbmkddmmclndcaa
open Go.RowKit
set_option linter.unusedVariables false
set_option linter.unusedSimpArgs false

end Go.Proofs.Ytbmkddmmclndcaa
/- The reference: given. -/
namespace Go.Proofs.Ytbmkddmmclndcaa
open Go.RowKit
set_option linter.unusedVariables false
set_option linter.unusedSimpArgs false

theorem take_succA {α : Type} {l : List α} {i : Nat} (h : i < l.length) : l.take (i + 1) = l.take i ++ [l[i]] := by simp
end Go.Proofs.Ytbmkddmmclndcaa
/- The reference: given, the walk. -/
namespace Go.Proofs.Ytbmkddmmclndcaa
open Go.RowKit
set_option linter.unusedVariables false
set_option linter.unusedSimpArgs false

end Go.Proofs.Ytbmkddmmclndcaa
/- The reference: fault. -/
namespace Go.Proofs.Ytbmkddmmclndcaa
open Go.RowKit
set_option linter.unusedVariables false
set_option linter.unusedSimpArgs false

theorem rows_len : ∀ r ∈ rowsA, r.args.length ≤ 7 ∧ r.vals.length = r.args.length := by
  intro r hr
  simp only [rowsA, List.mem_cons, List.not_mem_nil, or_false] at hr
  rcases hr with rfl | rfl | rfl | rfl | rfl | rfl | rfl | rfl | rfl | rfl | rfl | rfl | rfl | rfl | rfl | rfl | rfl <;> exact ⟨by decide, rfl⟩
end Go.Proofs.Ytbmkddmmclndcaa
/- The reference: placed. (tool/layer12/gentwin.py) -/
namespace Go.Proofs.Ytbmkddmmclndcaa
open Go.RowKit
set_option linter.unusedVariables false
set_option linter.unusedSimpArgs false

end Go.Proofs.Ytbmkddmmclndcaa
/- The statements' own twin. (tool/layer12/gentwin.py) -/
namespace Go.Proofs.Ytbmkddmmclndcaa
open Go.RowKit
set_option linter.unusedVariables false
set_option linter.unusedSimpArgs false

def idN (t : Nd) : Nd := ⟨t.kind, t.name, t.num, t.int_, t.key, t.args, t.at_⟩
theorem idN_eq (t : Nd) : idN t = t := by cases t; rfl
theorem idN_args (t : Nd) : (idN t).args = t.args.map (fun x => idN x) := by
  show t.args = _
  rw [show (fun x => idN x) = id from funext idN_eq, List.map_id]
def TwinA (N : Nat) : Prop := ∀ (t : Nd) (p : Option Addr) (c : Nat) (w : World), dep t ≤ N → cnt t ≤ 40000 → Kids w anyH (.slice p t.args.length c) t.args →
  Calls Try.prog 10 #[nv t (.slice p t.args.length c)] w fun e w' => ∃ p' n' c', e = .returned (nv (idN t) (.slice p' n' c')) ∧ Kids w' (kidH w.heap.size w'.heap.size none) (.slice p' n' c') (idN t).args ∧ Below w.heap.size w w'
set_option maxRecDepth 100000 in
set_option maxHeartbeats 4000000 in
theorem twinA_to : ∀ N, TwinA N := by
  intro N
  induction N with
  | zero => intro t p c w hd; unfold dep at hd; omega
  | succ N ih =>
    intro t p c w hd hc hk
    have hlen : t.args.length ≤ 40000 := by have := cntL_len t.args; unfold cnt at hc; omega
    obtain ⟨n, hn⟩ : ∃ n, t.args.length = n := ⟨_, rfl⟩
    have HN : Hid (t.args.length = n) := hn
    have HK : Hid (Kids w anyH (.slice p t.args.length c) t.args) := hk
    have HIH : Hid (TwinA N) := ih
    have HFA : Hid ((idN t).args = t.args.map (fun x => idN x)) := idN_args t
    obtain ⟨i0, hi0, hz0, hz1, hz2⟩ := info_parts info_Node
    rw [show nv t (.slice p t.args.length c) = .agg #[.int .i64 t.kind, .string t.name, .int .u32 t.num, .int .i64 t.int_, .string t.key, .slice p t.args.length c, .int .i64 t.at_] from rfl]
    rw [hn] at hlen ⊢
    obtain ⟨W2, hW2, hB2, hX2, hZ2, hs2⟩ : ∃ W2, (w.alloc (.cells #[.int .i64 t.kind, .string t.name, .int .u32 t.num, .int .i64 t.int_, .string t.key, .slice p n c, .int .i64 t.at_] 26)).alloc (.cells #[.int .i64 0, .string ⟨#[]⟩, .int .u32 0, .int .i64 0, .string ⟨#[]⟩, .slice none 0 0, .int .i64 0] 26) = W2 ∧ Below w.heap.size w W2 ∧ W2.heap[w.heap.size]? = some (.cells #[.int .i64 t.kind, .string t.name, .int .u32 t.num, .int .i64 t.int_, .string t.key, .slice p n c, .int .i64 t.at_] 26) ∧ W2.heap[w.heap.size + 1]? = some (.cells #[.int .i64 0, .string ⟨#[]⟩, .int .u32 0, .int .i64 0, .string ⟨#[]⟩, .slice none 0 0, .int .i64 0] 26) ∧ w.heap.size + 2 ≤ W2.heap.size := ⟨_, rfl, bel (bel_alloc _ _) (bel_alloc _ _), heap_old _ _ (box_heap _ _), two_heap _ _ _, by simp⟩
    obtain ⟨⟨g0, g1, g2, g3, g4, g5, g6⟩, f0, f1, f2, f3, f4, f5, f6⟩ := seven hX2
    have HBX : Hid (Below w.heap.size w W2 ∧ W2.heap[w.heap.size]? = some (.cells #[.int .i64 t.kind, .string t.name, .int .u32 t.num, .int .i64 t.int_, .string t.key, .slice p n c, .int .i64 t.at_] 26) ∧ W2.heap[w.heap.size + 1]? = some (.cells #[.int .i64 0, .string ⟨#[]⟩, .int .u32 0, .int .i64 0, .string ⟨#[]⟩, .slice none 0 0, .int .i64 0] 26) ∧ w.heap.size + 2 ≤ W2.heap.size) := ⟨hB2, hX2, hZ2, hs2⟩
    clear hn hk ih hB2 hX2 hZ2 hs2
    go_enter Try.func10, Try.ntmps10
    go_wp2
    clear g0 g1 g2 g3 g4 g5 g6 f0 f1 f2 f3 f4 f5 f6 hW2
    go_loopw [3, 4] (fun lv iv wr => Below w.heap.size w wr ∧ ∃ (j : Nat) (ov : Value), ov = lv ∧ j ≤ n ∧ iv = .int .i64 j ∧ w.heap.size + 2 ≤ wr.heap.size ∧ wr.heap[w.heap.size]? = some (.cells #[.int .i64 t.kind, .string t.name, .int .u32 t.num, .int .i64 t.int_, .string t.key, .slice p n c, .int .i64 t.at_] 26) ∧ wr.heap[w.heap.size + 1]? = some (.cells #[.int .i64 0, .string ⟨#[]⟩, .int .u32 0, .int .i64 0, .string ⟨#[]⟩, .slice none 0 0, .int .i64 0] 26) ∧ Hid (∃ R, RowN wr (w.heap.size + 2) ov ((t.args.take j).map (fun x => idN x)) R)) (fun _ iv _ => n - (intOf iv).toNat)
    case atStart => exact ⟨HBX.out.1, 0, _, rfl, Nat.zero_le _, rfl, HBX.out.2.2.2, HBX.out.2.1, HBX.out.2.2.1, [], by rw [List.take_zero]; exact RowN.nil _ _⟩
    case round =>
      obtain ⟨hb, j, ov, rfl, hj, rfl, hsz, hx, hz, R, hR⟩ := hrel
      have h5 := cell5 hx
      have HX : Hid (wr.heap[w.heap.size]? = some (.cells #[.int .i64 t.kind, .string t.name, .int .u32 t.num, .int .i64 t.int_, .string t.key, .slice p n c, .int .i64 t.at_] 26)) := hx
      have HZ : Hid (wr.heap[w.heap.size + 1]? = some (.cells #[.int .i64 0, .string ⟨#[]⟩, .int .u32 0, .int .i64 0, .string ⟨#[]⟩, .slice none 0 0, .int .i64 0] 26)) := hz
      by_cases hlt0 : j < n
      · have hll : j < t.args.length := by rw [HN.out]; exact hlt0
        obtain ⟨b1, o1, q1, d1, rfl, ⟨x0, x1, x2, x3, x4, x5, x6⟩, kx⟩ := kid_at HK.out hb hll
        have hjl : ((t.args.take j).map (fun x => idN x)).length = j := by rw [List.length_map, List.length_take]; omega
        have hw := HIH.out t.args[j] q1 d1 wr (by have := dep_get hll; unfold dep at hd ⊢; unfold dep at this; omega) (by have := cnt_get hll; unfold cnt at hc; omega) kx
        obtain ⟨Y, hY⟩ : ∃ Y, idN t.args[j] = Y := ⟨_, rfl⟩
        have HYM : Hid ((t.args.take (j + 1)).map (fun x => idN x) = (t.args.take j).map (fun x => idN x) ++ [Y]) := by
          show _ = _
          rw [ntake_succ hll, List.map_append, ← hY]
          rfl
        rw [hY] at hw
        have HW : Hid (Calls Try.prog 10 #[.agg #[.int .i64 t.args[j].kind, .string t.args[j].name, .int .u32 t.args[j].num, .int .i64 t.args[j].int_, .string t.args[j].key, .slice q1 t.args[j].args.length d1, .int .i64 t.args[j].at_]] wr fun e v' => ∃ p3 n3 c3, e = .returned (.agg #[.int .i64 Y.kind, .string Y.name, .int .u32 Y.num, .int .i64 Y.int_, .string Y.key, .slice p3 n3 c3, .int .i64 Y.at_]) ∧ Kids v' (kidH wr.heap.size v'.heap.size none) (.slice p3 n3 c3) Y.args ∧ Below wr.heap.size wr v') := hw
        have HR : Hid (RowN wr (w.heap.size + 2) ov ((t.args.take j).map (fun x => idN x)) R) := hR
        have i1 : (0 : Int) ≤ (j : Int) := by omega
        have i2 : (j : Int) < (n : Int) := by omega
        clear kx HIH HK hR hx hz HBX hw hY
        go_wp2_with (first
          | (go_at_call 10; (with_reducible refine HW.out.mono ?_); rintro e w3 ⟨p3, n3, c3, rfl, hk3, hb3⟩; have HK3 : Hid (Kids w3 (kidH wr.heap.size w3.heap.size none) (.slice p3 n3 c3) Y.args) := hk3; have HR3 : Hid (RowN w3 (w.heap.size + 2) ov ((t.args.take j).map (fun x => idN x)) R) := HR.out.below hb3; have hs3 := hb3.size; clear hk3)
          | (at_builtin; refine wpList_append_lies _ rfl _ _ 24 rfl (w.heap.size + 2) 26 i0 _ 7 88 Try.underlying24 hi0 hz0 hz1 hz2 rfl (by decide) ov j (cellsN R) rfl (World.ownsRow.alloc (by have := HR3.out.2.1; rw [hjl] at this; exact this) _) ⟨w3.heap.size, 0, none⟩ 1 1 [.int .i64 Y.kind, .string Y.name, .int .u32 Y.num, .int .i64 Y.int_, .string Y.key, .slice p3 n3 c3, .int .i64 Y.at_] rfl rfl (World.news_of_block (cs := #[.int .i64 Y.kind, .string Y.name, .int .u32 Y.num, .int .i64 Y.int_, .string Y.key, .slice p3 n3 c3, .int .i64 Y.at_]) (t := 26) (fr := (0, 0)) (box_heap w3 _)) (by simp [Value.oneCell']) (by decide) (by unfold maxLen; omega) (by omega) (by simp; omega) (w3.heap.size + 1) (by simp) ?_; intro g cap w4 hown4 hgrow hat hlt4; have HO4 : Hid (w4.ownsRow (w.heap.size + 2) 26 7 (.slice (some ⟨g, 0, none⟩) (j + 1) cap) (j + 1) (cellsN R ++ [.int .i64 Y.kind, .string Y.name, .int .u32 Y.num, .int .i64 Y.int_, .string Y.key, .slice p3 n3 c3, .int .i64 Y.at_])) := hown4; have HG4 : Hid ((w3.alloc (.cells #[.int .i64 Y.kind, .string Y.name, .int .u32 Y.num, .int .i64 Y.int_, .string Y.key, .slice p3 n3 c3, .int .i64 Y.at_] 26)).grownBy w4 ov.ownBlock) := hgrow; have HA4 : Hid (ov.ownBlock = some g ∨ g = w3.heap.size + 1) := hat; clear hown4 hgrow hat))
        have hro : ∀ k, ov.ownBlock = some k → w.heap.size + 2 ≤ k ∧ k < wr.heap.size := fun k hk => HR.out.2.1.lt k hk
        have hb4 : Below w.heap.size w w4 := Below.grown (bel (bel hb hb3) (bel_alloc _ _)) HG4.out (by simp; omega) (fun k hk => by have := (hro k hk).1; omega)
        have hr4 : RowN w4 (w.heap.size + 2) (.slice (some ⟨g, 0, none⟩) (j + 1) cap) ((t.args.take (j + 1)).map (fun x => idN x)) (R ++ [(Y, .slice p3 n3 c3)]) := by
          have := RowN.push (t := Y) (s := .slice p3 n3 c3) HR3.out (bel_alloc w3 (.cells #[.int .i64 Y.kind, .string Y.name, .int .u32 Y.num, .int .i64 Y.int_, .string Y.key, .slice p3 n3 c3, .int .i64 Y.at_] 26)) (HK3.out.weak fun p n c hq b o hp => ⟨by have := (hq b o hp).1; omega, (hq b o hp).2.1, fun e => by have h1 := (hro b e.symm).2; have h2 := (hq b o hp).1; omega⟩) HG4.out (by simpa using HA4.out) (by rw [hjl]; exact HO4.out)
          rw [hjl] at this
          rw [HYM.out]
          exact this
        have kk : ∀ q (x : Obj), q < w.heap.size + 2 → wr.heap[q]? = some x → w4.heap[q]? = some x := fun q x hq hx => by
          have h1 : (w3.alloc (.cells #[.int .i64 Y.kind, .string Y.name, .int .u32 Y.num, .int .i64 Y.int_, .string Y.key, .slice p3 n3 c3, .int .i64 Y.at_] 26)).heap[q]? = some x := by rw [(bel hb3 (bel_alloc w3 (.cells #[.int .i64 Y.kind, .string Y.name, .int .u32 Y.num, .int .i64 Y.int_, .string Y.key, .slice p3 n3 c3, .int .i64 Y.at_] 26))).block q (hlt hx)]; exact hx
          rw [HG4.out.block q (hlt h1) (fun e => by have := (hro q e.symm).1; omega)]
          exact h1
        have HF : Hid (Below w.heap.size w w4 ∧ w.heap.size + 2 ≤ w4.heap.size ∧ w4.heap[w.heap.size]? = some (.cells #[.int .i64 t.kind, .string t.name, .int .u32 t.num, .int .i64 t.int_, .string t.key, .slice (some ⟨b1, o1, none⟩) n c, .int .i64 t.at_] 26) ∧ w4.heap[w.heap.size + 1]? = some (.cells #[.int .i64 0, .string ⟨#[]⟩, .int .u32 0, .int .i64 0, .string ⟨#[]⟩, .slice none 0 0, .int .i64 0] 26) ∧ ∃ R, RowN w4 (w.heap.size + 2) (.slice (some ⟨g, 0, none⟩) (j + 1) cap) ((t.args.take (j + 1)).map (fun x => idN x)) R) := ⟨hb4, by have := HG4.out.size; simp at this; omega, kk _ _ (by omega) HX.out, kk _ _ (by omega) HZ.out, _, hr4⟩
        clear hro hb4 hr4 kk
        go_wp2
        go_roundw
        case rel => exact ⟨HF.out.1, j + 1, _, rfl, by omega, by go_num, HF.out.2.1, HF.out.2.2.1, HF.out.2.2.2.1, HF.out.2.2.2.2⟩
        case measure => simp [intOf]; omega
      · have : j = n := by omega
        subst this
        have e : t.args.take j = t.args := List.take_of_length_le (by rw [HN.out]; exact Nat.le_refl _)
        rw [e, ← HFA.out] at hR
        have hkk := hR.kids
        obtain ⟨pv, cv, hov, -⟩ := id hkk
        rw [hov] at hkk
        subst hov
        obtain ⟨L, hL⟩ : ∃ L, (idN t).args.length = L := ⟨_, rfl⟩
        have HKK : Hid (Kids wr (kidH (w.heap.size + 2) wr.heap.size none) (.slice pv L cv) (idN t).args) := by rw [← hL]; exact hkk
        rw [hL]
        obtain ⟨⟨r0, r1, r2, r3, r4, r5, r6⟩, q0, q1, q2, q3, q4, q5, q6⟩ := seven hz
        obtain ⟨⟨o0, o1, o2, o3, o4, o5, o6⟩, f0, f1, f2, f3, f4, f5, f6⟩ := seven hx
        clear hkk hR hx hz HIH HK HBX e hL
        go_wp2
        refine bodyPost_ret (by simp [results, Try.results10, go_sem, *]; try rfl) rfl ?_
        have hoff1 := (Off.refl w.heap.size wr).set 5 (.slice pv L cv)
        have hoff2 := ((((((((Off.refl (w.heap.size + 1) (wr.setCell ⟨w.heap.size, 5, none⟩ (.slice pv L cv))).set 0 (.int .i64 t.kind)).set 1 (.string t.name)).set 2 (.int .u32 t.num)).set 3 (.int .i64 t.int_)).set 4 (.string t.key)).set 5 (.slice pv L cv)).set 6 (.int .i64 t.at_))
        refine ⟨_, _, _, rfl, ((HKK.out.off fun b hb => ?_).weak fun p n c hq b o hp => ⟨?_, ?_, by simp⟩), hoff2.below (hoff1.below hb (Nat.le_refl _)) (by omega)⟩
        · rw [hoff2.2.2.2.2 b (by omega)]; exact hoff1.2.2.2.2 b (by omega)
        · have := (hq b o hp).1; omega
        · have h1 := (hq b o hp).2.1; have h2 := hoff1.2.2.2.1; have h3 := hoff2.2.2.2.1; omega

end Go.Proofs.Ytbmkddmmclndcaa
/- The statements' own count, great, same. -/
namespace Go.Proofs.Ytbmkddmmclndcaa
open Go.RowKit
set_option linter.unusedVariables false
set_option linter.unusedSimpArgs false

def CountA (N : Nat) : Prop := ∀ (t : Nd) (m : Nat) (p : Option Addr) (c : Nat) (w : World), dep t ≤ N → m ≤ 9000 → Kids w anyH (.slice p t.args.length c) t.args →
  Calls Try.prog 14 #[nv t (.slice p t.args.length c), .int .i64 m] w fun e w' => e = .returned (.int .i64 (min (cnt t) (m + 1) : Nat)) ∧ Below w.heap.size w w'
set_option maxRecDepth 100000 in
set_option maxHeartbeats 2000000 in
theorem countA_to : ∀ N, CountA N := by
  intro N
  induction N with
  | zero => intro t m p c w hd; unfold dep at hd; omega
  | succ N ih =>
    intro t m p c w hd hm hk
    obtain ⟨n, hn⟩ : ∃ n, t.args.length = n := ⟨_, rfl⟩
    have HN : Hid (t.args.length = n) := hn
    have HK : Hid (Kids w anyH (.slice p t.args.length c) t.args) := hk
    have HIH : Hid (CountA N) := ih
    have hbx := box_heap w (.cells #[.int .i64 t.kind, .string t.name, .int .u32 t.num, .int .i64 t.int_, .string t.key, .slice p t.args.length c, .int .i64 t.at_] 26)
    have hb0 := bel_alloc w (.cells #[.int .i64 t.kind, .string t.name, .int .u32 t.num, .int .i64 t.int_, .string t.key, .slice p t.args.length c, .int .i64 t.at_] 26)
    rw [show nv t (.slice p t.args.length c) = .agg #[.int .i64 t.kind, .string t.name, .int .u32 t.num, .int .i64 t.int_, .string t.key, .slice p t.args.length c, .int .i64 t.at_] from rfl]
    obtain ⟨D, hD⟩ : ∃ D, min (cnt t) (m + 1) = D := ⟨_, rfl⟩
    have HD : Hid (min (1 + cntL t.args) (m + 1) = D) := hD
    rw [hD]
    rw [hn] at hbx hb0 ⊢
    obtain ⟨W, hW⟩ : ∃ W, w.alloc (.cells #[.int .i64 t.kind, .string t.name, .int .u32 t.num, .int .i64 t.int_, .string t.key, .slice p n c, .int .i64 t.at_] 26) = W := ⟨_, rfl⟩
    rw [hW] at hbx hb0
    have HBX : Hid (W.heap[w.heap.size]? = some (.cells #[.int .i64 t.kind, .string t.name, .int .u32 t.num, .int .i64 t.int_, .string t.key, .slice p n c, .int .i64 t.at_] 26)) := hbx
    clear hn hk ih hbx hD
    go_enter Try.func14, Try.ntmps14
    go_wp2
    go_loopw [5, 6] (fun kv iv wr => Below w.heap.size w wr ∧ ∃ (j k : Nat), j ≤ n ∧ iv = .int .i64 j ∧ kv = .int .i64 k ∧ j + 1 ≤ k ∧ k ≤ m + 1 ∧ Hid (k = min (1 + cntL (t.args.take j)) (m + 1)) ∧ wr.heap[w.heap.size]? = some (.cells #[.int .i64 t.kind, .string t.name, .int .u32 t.num, .int .i64 t.int_, .string t.key, .slice p n c, .int .i64 t.at_] 26)) (fun _ iv _ => n - (intOf iv).toNat)
    case atStart => exact ⟨hb0, 0, 1, Nat.zero_le _, rfl, rfl, Nat.le_refl _, by omega, (by show 1 = _; rw [List.take_zero, cntL_nil]; omega), HBX.out⟩
    case round =>
      obtain ⟨hb, j, k, hj, rfl, rfl, hjk, hkm, HS, hx⟩ := hrel
      have h5 := cell5 hx
      have HX : Hid (wr.heap[w.heap.size]? = some (.cells #[.int .i64 t.kind, .string t.name, .int .u32 t.num, .int .i64 t.int_, .string t.key, .slice p n c, .int .i64 t.at_] 26)) := hx
      clear hx hb0
      by_cases hlt0 : j < n
      · have hll : j < t.args.length := by rw [HN.out]; exact hlt0
        have j1 : (j : Int) < (n : Int) := by omega
        by_cases hkl : k ≤ m
        · have k1 : (k : Int) ≤ (m : Int) := by omega
          obtain ⟨b1, o1, q1, d1, rfl, ⟨x0, x1, x2, x3, x4, x5, x6⟩, kx⟩ := kid_at HK.out hb hll
          have hcl := HIH.out t.args[j] (m - k) q1 d1 wr (by have := dep_get hll; unfold dep at hd ⊢; unfold dep at this; omega) (by omega) kx
          have hct := cntL_take hll
          obtain ⟨C, hC⟩ : ∃ C, min (cnt t.args[j]) (m - k + 1) = C := ⟨_, rfl⟩
          have hC1 : 1 ≤ C := by rw [← hC]; have : 1 ≤ cnt t.args[j] := (by unfold cnt; omega); omega
          have hC2 : k + C ≤ m + 1 := by rw [← hC]; omega
          have HS2 : Hid (k + C = min (1 + cntL (t.args.take (j + 1))) (m + 1)) := by
            show _ = _
            have := HS.out
            rw [hct, ← hC]
            omega
          rw [hC] at hcl
          have hmk : ((m - k : Nat) : Int) = (m : Int) - (k : Int) := by omega
          rw [hmk] at hcl
          have HW : Hid (Calls Try.prog 14 #[.agg #[.int .i64 t.args[j].kind, .string t.args[j].name, .int .u32 t.args[j].num, .int .i64 t.args[j].int_, .string t.args[j].key, .slice q1 t.args[j].args.length d1, .int .i64 t.args[j].at_], .int .i64 ((m : Int) - (k : Int))] wr fun e v' => e = .returned (.int .i64 (C : Nat)) ∧ Below wr.heap.size wr v') := hcl
          have w1 : IntKind.i64.wrap ((m : Int) - (k : Int)) = (m : Int) - (k : Int) := by rw [IntKind.wrap_i64]; omega
          have w2 : IntKind.i64.wrap ((k : Int) + (C : Int)) = (k : Int) + (C : Int) := by rw [IntKind.wrap_i64]; omega
          have i1 : (0 : Int) ≤ (j : Int) := by omega
          clear hcl kx HIH HS hC hmk hct
          go_wp2_with (go_at_call 14; (with_reducible refine HW.out.mono ?_); rintro e w3 ⟨rfl, hb3⟩)
          go_roundw
          case rel => exact ⟨bel hb hb3, j + 1, k + C, by omega, by go_num, by go_num, by omega, by omega, HS2.out, by rw [hb3.block _ (hlt HX.out)]; exact HX.out⟩
          case measure => simp [intOf]; omega
        · have k1 : ¬ (k : Int) ≤ (m : Int) := by omega
          have HE : Hid ((k : Int) = (D : Int)) := by
            show (k : Int) = D
            have h1 := HS.out
            have h2 := HD.out
            have h3 := cntL_take_le t.args j
            omega
          clear HS HIH HK HD
          go_wp2
          go_ret
          exact ⟨ret_int HE.out, hb⟩
      · have : j = n := by omega
        subst this
        have HE : Hid ((k : Int) = (D : Int)) := by
          show (k : Int) = D
          have h1 := HS.out
          have h2 := HD.out
          rw [List.take_of_length_le (by rw [HN.out]; exact Nat.le_refl _)] at h1
          omega
        clear HS HIH HK HD
        go_wp2
        go_ret
        exact ⟨ret_int HE.out, hb⟩

set_option maxRecDepth 100000 in
set_option maxHeartbeats 1000000 in
theorem great_any (t : Nd) (p : Option Addr) (c : Nat) (w : World) (hk : Kids w anyH (.slice p t.args.length c) t.args) :
    Calls Try.prog 7 #[nv t (.slice p t.args.length c)] w fun e w' => e = .returned (.bool (decide (9000 < cnt t))) ∧ Below w.heap.size w w' := by
  have hbx := box_heap w (.cells #[.int .i64 t.kind, .string t.name, .int .u32 t.num, .int .i64 t.int_, .string t.key, .slice p t.args.length c, .int .i64 t.at_] 26)
  have hb0 := bel_alloc w (.cells #[.int .i64 t.kind, .string t.name, .int .u32 t.num, .int .i64 t.int_, .string t.key, .slice p t.args.length c, .int .i64 t.at_] 26)
  obtain ⟨W, hW⟩ : ∃ W, w.alloc (.cells #[.int .i64 t.kind, .string t.name, .int .u32 t.num, .int .i64 t.int_, .string t.key, .slice p t.args.length c, .int .i64 t.at_] 26) = W := ⟨_, rfl⟩
  rw [hW] at hbx hb0
  have hcl := countA_to (dep t) t 9000 p c W (Nat.le_refl _) (Nat.le_refl _) (hk.below hb0)
  obtain ⟨C, hC⟩ : ∃ C, min (cnt t) (9000 + 1) = C := ⟨_, rfl⟩
  rw [hC] at hcl
  have HC : Hid (decide ((9000 : Int) < (C : Int)) = decide (9000 < cnt t)) := by
    show _ = _
    rw [decide_eq_decide]
    omega
  have HW : Hid (Calls Try.prog 14 #[.agg #[.int .i64 t.kind, .string t.name, .int .u32 t.num, .int .i64 t.int_, .string t.key, .slice p t.args.length c, .int .i64 t.at_], .int .i64 9000] W fun e v' => e = .returned (.int .i64 (C : Nat)) ∧ Below W.heap.size W v') := hcl
  obtain ⟨⟨g0, g1, g2, g3, g4, g5, g6⟩, -⟩ := seven hbx
  rw [show nv t (.slice p t.args.length c) = .agg #[.int .i64 t.kind, .string t.name, .int .u32 t.num, .int .i64 t.int_, .string t.key, .slice p t.args.length c, .int .i64 t.at_] from rfl, ← HC.out]
  clear hcl hC hk hbx HC
  go_enter Try.func7, Try.ntmps7
  go_wp2_with (go_at_call 14; (with_reducible refine HW.out.mono ?_); rintro e w3 ⟨rfl, hb3⟩)
  go_ret
  exact ⟨rfl, bel hb0 hb3⟩

/-- Two trees that read as one. -/
def SameA (N : Nat) : Prop := ∀ (t : Nd) (p : Option Addr) (c : Nat) (p' : Option Addr) (c' : Nat) (w : World), dep t ≤ N → cnt t ≤ 100000 → Kids w anyH (.slice p t.args.length c) t.args → Kids w anyH (.slice p' t.args.length c') t.args →
  Calls Try.prog 11 #[nv t (.slice p t.args.length c), nv t (.slice p' t.args.length c')] w fun e w' => e = .returned (.bool true) ∧ Below w.heap.size w w'
set_option maxRecDepth 100000 in
set_option maxHeartbeats 4000000 in
theorem sameA_to : ∀ N, SameA N := by
  intro N
  induction N with
  | zero => intro t p c p' c' w hd; unfold dep at hd; omega
  | succ N ih =>
    intro t p c p' c' w hd hc hk hk'
    have hlen : t.args.length ≤ 100000 := by have := cntL_len t.args; unfold cnt at hc; omega
    obtain ⟨n, hn⟩ : ∃ n, t.args.length = n := ⟨_, rfl⟩
    have HN : Hid (t.args.length = n) := hn
    have HK : Hid (Kids w anyH (.slice p t.args.length c) t.args) := hk
    have HK' : Hid (Kids w anyH (.slice p' t.args.length c') t.args) := hk'
    have HIH : Hid (SameA N) := ih
    rw [show nv t (.slice p t.args.length c) = .agg #[.int .i64 t.kind, .string t.name, .int .u32 t.num, .int .i64 t.int_, .string t.key, .slice p t.args.length c, .int .i64 t.at_] from rfl, show nv t (.slice p' t.args.length c') = .agg #[.int .i64 t.kind, .string t.name, .int .u32 t.num, .int .i64 t.int_, .string t.key, .slice p' t.args.length c', .int .i64 t.at_] from rfl]
    rw [hn] at hlen ⊢
    obtain ⟨W2, hW2, hB2, hX2, hZ2⟩ : ∃ W2, (w.alloc (.cells #[.int .i64 t.kind, .string t.name, .int .u32 t.num, .int .i64 t.int_, .string t.key, .slice p n c, .int .i64 t.at_] 26)).alloc (.cells #[.int .i64 t.kind, .string t.name, .int .u32 t.num, .int .i64 t.int_, .string t.key, .slice p' n c', .int .i64 t.at_] 26) = W2 ∧ Below w.heap.size w W2 ∧ W2.heap[w.heap.size]? = some (.cells #[.int .i64 t.kind, .string t.name, .int .u32 t.num, .int .i64 t.int_, .string t.key, .slice p n c, .int .i64 t.at_] 26) ∧ W2.heap[w.heap.size + 1]? = some (.cells #[.int .i64 t.kind, .string t.name, .int .u32 t.num, .int .i64 t.int_, .string t.key, .slice p' n c', .int .i64 t.at_] 26) := ⟨_, rfl, bel (bel_alloc _ _) (bel_alloc _ _), heap_old _ _ (box_heap _ _), two_heap _ _ _⟩
    obtain ⟨⟨g0, g1, g2, g3, g4, g5, g6⟩, -⟩ := seven hX2
    obtain ⟨⟨h0, h1, h2, h3, h4, h5, h6⟩, -⟩ := seven hZ2
    have HX : Hid (W2.heap[w.heap.size]? = some (.cells #[.int .i64 t.kind, .string t.name, .int .u32 t.num, .int .i64 t.int_, .string t.key, .slice p n c, .int .i64 t.at_] 26)) := hX2
    have HZ : Hid (W2.heap[w.heap.size + 1]? = some (.cells #[.int .i64 t.kind, .string t.name, .int .u32 t.num, .int .i64 t.int_, .string t.key, .slice p' n c', .int .i64 t.at_] 26)) := hZ2
    have HB2 : Hid (Below w.heap.size w W2) := hB2
    clear hn hk hk' ih hX2 hZ2 hB2
    go_enter Try.func11, Try.ntmps11
    go_wp2
    clear g0 g1 g2 g3 g4 g5 g6 h0 h1 h2 h3 h4 h5 h6 hW2
    go_loopw [5] (fun iv wr => Below W2.heap.size W2 wr ∧ ∃ j : Nat, j ≤ n ∧ iv = .int .i64 j) (fun iv _ => n - (intOf iv).toNat)
    case atStart => exact ⟨Below.refl _ _, 0, Nat.zero_le _, rfl⟩
    case round =>
      obtain ⟨hb, j, hj, rfl⟩ := hrel
      have g5 := cell5 ((hb.block _ (Array.getElem?_eq_some_iff.1 HX.out).1).trans HX.out)
      have h5 := cell5 ((hb.block _ (Array.getElem?_eq_some_iff.1 HZ.out).1).trans HZ.out)
      by_cases hlt0 : j < n
      · have hll : j < t.args.length := by rw [HN.out]; exact hlt0
        have hbw := bel HB2.out hb
        obtain ⟨b1, o1, q1, d1, rfl, ⟨x0, x1, x2, x3, x4, x5, x6⟩, kx⟩ := kid_at HK.out hbw hll
        obtain ⟨b2, o2, q2, d2, rfl, ⟨y0, y1, y2, y3, y4, y5, y6⟩, ky⟩ := kid_at HK'.out hbw hll
        have HW : Hid (∀ v, Below wr.heap.size wr v → Calls Try.prog 11 #[.agg #[.int .i64 t.args[j].kind, .string t.args[j].name, .int .u32 t.args[j].num, .int .i64 t.args[j].int_, .string t.args[j].key, .slice q1 t.args[j].args.length d1, .int .i64 t.args[j].at_], .agg #[.int .i64 t.args[j].kind, .string t.args[j].name, .int .u32 t.args[j].num, .int .i64 t.args[j].int_, .string t.args[j].key, .slice q2 t.args[j].args.length d2, .int .i64 t.args[j].at_]] v fun e v' => e = .returned (.bool true) ∧ Below v.heap.size v v') := fun v hv => HIH.out t.args[j] q1 d1 q2 d2 v (by have := dep_get hll; unfold dep at hd ⊢; unfold dep at this; omega) (by have := cnt_get hll; unfold cnt at hc; omega) (kx.below hv) (ky.below hv)
        have i1 : (0 : Int) ≤ (j : Int) := by omega
        have i2 : (j : Int) < (n : Int) := by omega
        clear kx ky HIH HK HK' hbw
        go_wp2
        go_region_held3 (fun w' => w'.cell? ⟨w.heap.size, 5, none⟩ = some (.slice (some ⟨b1, o1, none⟩) n c) ∧ w'.cell? ⟨w.heap.size + 1, 5, none⟩ = some (.slice (some ⟨b2, o2, none⟩) n c') ∧ w'.cell? ⟨b1, o1 + j * 7, none⟩ = some (.int .i64 t.args[j].kind) ∧ w'.cell? ⟨b1, o1 + j * 7 + 1, none⟩ = some (.string t.args[j].name) ∧ w'.cell? ⟨b1, o1 + j * 7 + 2, none⟩ = some (.int .u32 t.args[j].num) ∧ w'.cell? ⟨b1, o1 + j * 7 + 3, none⟩ = some (.int .i64 t.args[j].int_) ∧ w'.cell? ⟨b1, o1 + j * 7 + 4, none⟩ = some (.string t.args[j].key) ∧ w'.cell? ⟨b1, o1 + j * 7 + 5, none⟩ = some (.slice q1 t.args[j].args.length d1) ∧ w'.cell? ⟨b1, o1 + j * 7 + 6, none⟩ = some (.int .i64 t.args[j].at_) ∧ w'.cell? ⟨b2, o2 + j * 7, none⟩ = some (.int .i64 t.args[j].kind) ∧ w'.cell? ⟨b2, o2 + j * 7 + 1, none⟩ = some (.string t.args[j].name) ∧ w'.cell? ⟨b2, o2 + j * 7 + 2, none⟩ = some (.int .u32 t.args[j].num) ∧ w'.cell? ⟨b2, o2 + j * 7 + 3, none⟩ = some (.int .i64 t.args[j].int_) ∧ w'.cell? ⟨b2, o2 + j * 7 + 4, none⟩ = some (.string t.args[j].key) ∧ w'.cell? ⟨b2, o2 + j * 7 + 5, none⟩ = some (.slice q2 t.args[j].args.length d2) ∧ w'.cell? ⟨b2, o2 + j * 7 + 6, none⟩ = some (.int .i64 t.args[j].at_)) (go_keep) (first | (go_at_call 11; (with_reducible refine (HW.out _ (bel_d _)).mono ?_); rintro e w3 ⟨rfl, hb3⟩; have kg5 := (bel (bel_d _) hb3).cell (mcell_lt g5) |>.trans g5; have kh5 := (bel (bel_d _) hb3).cell (mcell_lt h5) |>.trans h5; have kx0 := (bel (bel_d _) hb3).cell (mcell_lt x0) |>.trans x0; have kx1 := (bel (bel_d _) hb3).cell (mcell_lt x1) |>.trans x1; have kx2 := (bel (bel_d _) hb3).cell (mcell_lt x2) |>.trans x2; have kx3 := (bel (bel_d _) hb3).cell (mcell_lt x3) |>.trans x3; have kx4 := (bel (bel_d _) hb3).cell (mcell_lt x4) |>.trans x4; have kx5 := (bel (bel_d _) hb3).cell (mcell_lt x5) |>.trans x5; have kx6 := (bel (bel_d _) hb3).cell (mcell_lt x6) |>.trans x6; have ky0 := (bel (bel_d _) hb3).cell (mcell_lt y0) |>.trans y0; have ky1 := (bel (bel_d _) hb3).cell (mcell_lt y1) |>.trans y1; have ky2 := (bel (bel_d _) hb3).cell (mcell_lt y2) |>.trans y2; have ky3 := (bel (bel_d _) hb3).cell (mcell_lt y3) |>.trans y3; have ky4 := (bel (bel_d _) hb3).cell (mcell_lt y4) |>.trans y4; have ky5 := (bel (bel_d _) hb3).cell (mcell_lt y5) |>.trans y5; have ky6 := (bel (bel_d _) hb3).cell (mcell_lt y6) |>.trans y6))
        all_goals go_wp2
        go_roundw
        case rel => exact ⟨bel hb (bel (bel_d _) hb3), j + 1, by omega, by go_num⟩
        case measure => simp [intOf]; omega
      · have : j = n := by omega
        subst this
        clear HIH HK HK'
        go_wp2
        go_ret
        exact ⟨rfl, bel HB2.out hb⟩

end Go.Proofs.Ytbmkddmmclndcaa
/- The reference: lets in memory, meant. -/
namespace Go.Proofs.Ytbmkddmmclndcaa
open Go.RowKit
set_option linter.unusedVariables false
set_option linter.unusedSimpArgs false

/-- The let that a name means, of the first so many. -/
def meantP (l : List (ByteArray × Nd)) (nm : ByteArray) : Nat → Option Nat
  | 0 => none
  | k + 1 => if (match l[k]? with | some x => sameB x.1 nm | none => false) then some k else meantP l nm k
def meantV (l : List (ByteArray × Nd)) (nm : ByteArray) (k : Nat) : Int := match meantP l nm k with | some i => (i : Int) | none => -1
theorem meantP_yes {l : List (ByteArray × Nd)} {nm : ByteArray} {k : Nat} (hk : k < l.length) (h : sameB l[k].1 nm = true) : meantP l nm (k + 1) = some k := by
  rw [meantP, List.getElem?_eq_getElem hk]
  simp [h]
theorem meantP_no {l : List (ByteArray × Nd)} {nm : ByteArray} {k : Nat} (hk : k < l.length) (h : sameB l[k].1 nm = false) : meantP l nm (k + 1) = meantP l nm k := by
  rw [meantP, List.getElem?_eq_getElem hk]
  simp [h]
theorem meantP_lt {l : List (ByteArray × Nd)} {nm : ByteArray} : ∀ {k i : Nat}, meantP l nm k = some i → i < k
  | 0, i, h => by simp [meantP] at h
  | k + 1, i, h => by
    rw [meantP] at h
    cases hc : (match l[k]? with | some x => sameB x.1 nm | none => false) with
    | true => rw [hc] at h; simp at h; omega
    | false =>
      rw [hc] at h
      have := meantP_lt (l := l) (nm := nm) (k := k) (i := i) (by simpa using h)
      omega
/-- What a name means, written out. -/
theorem look_meant {l : List (ByteArray × Nd)} {nm : ByteArray} : ∀ {k : Nat}, k ≤ l.length → lookE (envA (l.take k)) nm = match meantP l nm k with | some i => (l[i]?).map (fun x => wrN (envA (l.take i)) x.2) | none => none
  | 0, _ => by simp [meantP, lookE, envA]
  | k + 1, hk => by
    have hkl : k < l.length := by omega
    rw [take_succA hkl, envA_snoc]
    cases hs : sameB l[k].1 nm with
    | true =>
      rw [meantP_yes hkl hs]
      simp [lookE, hs, hkl]
    | false =>
      rw [meantP_no hkl hs, ← look_meant (by omega)]
      simp [lookE, hs]

end Go.Proofs.Ytbmkddmmclndcaa
/- Names and texts, the program's and the reference's. -/
namespace Go.Proofs.Ytbmkddmmclndcaa
open Go.RowKit
set_option linter.unusedVariables false
set_option linter.unusedSimpArgs false

def byteAt (s : ByteArray) (j : Nat) : Int := match s.data[j]? with | some c => (c.toNat : Int) | none => 0
def allAt (q : Nat → Int → Bool) (s : ByteArray) : Bool := (List.range s.size).all fun j => q j (byteAt s j)
theorem byteAt_eq {s : ByteArray} {j : Nat} (h : j < s.size) : byteAt s j = (s[j].toNat : Int) := by
  unfold byteAt
  rw [Array.getElem?_eq_getElem (show j < s.data.size from h)]
  rfl
theorem allAt_bad {q : Nat → Int → Bool} {s : ByteArray} {j : Nat} (h : j < s.size) (hq : q j (s[j].toNat : Int) = false) : allAt q s = false := by
  unfold allAt
  rw [List.all_eq_false]
  exact ⟨j, List.mem_range.2 h, by rw [byteAt_eq h, hq]; decide⟩
theorem allAt_good {q : Nat → Int → Bool} {s : ByteArray} (h : ∀ j (h : j < s.size), q j (s[j].toNat : Int) = true) : allAt q s = true := by
  unfold allAt
  rw [List.all_eq_true]
  intro j hj
  have := List.mem_range.1 hj
  rw [byteAt_eq this]
  exact h j this
def qName (j : Nat) (c : Int) : Bool := pLetter c || (j != 0 && pDigit c)
def qText (j : Nat) (c : Int) : Bool := pInText c
def nameP (s : ByteArray) : Bool := allAt qName s && s.size != 0
def textP (s : ByteArray) : Bool := allAt qText s
theorem nonempty (s : ByteArray) : (s.toList == []) = (s.size == 0) := by
  rw [Bool.eq_iff_iff]
  simp only [beq_iff_eq]
  constructor
  · intro h
    rw [ByteArray.toList_eq] at h
    show s.data.size = 0
    rw [← Array.length_toList, h]; rfl
  · intro h
    rw [ByteArray.toList_eq]
    exact List.eq_nil_of_length_eq_zero (by rw [Array.length_toList]; exact h)

theorem isEmpty_size (s : ByteArray) : s.toList.isEmpty = (s.size == 0) := by
  rw [← nonempty, Bool.eq_iff_iff]
  simp

set_option maxHeartbeats 400000 in
theorem isLetter_any (c : Int) (w : World) : Calls Try.prog 88 #[.int .u8 c] w fun e w' => e = .returned (.bool (pLetter c)) ∧ w' = w := by
  unfold pLetter
  go_enter Try.func88, Try.ntmps88
  go_wp2
  all_goals (go_ret; refine ⟨ret_bool ?_, rfl⟩; first | (simp_all; done) | (simp_all; omega) | (rw [Bool.eq_iff_iff]; simp_all; omega))

set_option maxHeartbeats 400000 in
theorem isDigit_any (c : Int) (w : World) : Calls Try.prog 89 #[.int .u8 c] w fun e w' => e = .returned (.bool (pDigit c)) ∧ w' = w := by
  unfold pDigit
  go_enter Try.func89, Try.ntmps89
  go_wp2
  all_goals (go_ret; refine ⟨ret_bool ?_, rfl⟩; first | (simp_all; done) | (simp_all; omega) | (rw [Bool.eq_iff_iff]; simp_all; omega))

set_option maxHeartbeats 1000000 in
theorem isName_any (s : ByteArray) (hs : s.size ≤ 140737488351232) (w : World) :
    Calls Try.prog 76 #[.string s] w fun e w' => e = .returned (.bool (nameP s)) ∧ w' = w := by
  go_enter Try.func76, Try.ntmps76
  go_wp2
  go_loopw [6] (fun iv wr => wr = w ∧ ∃ j : Nat, j ≤ s.size ∧ iv = .int .i64 j ∧ Hid (∀ i (h : i < s.size), i < j → qName i (s[i].toNat : Int) = true)) (fun iv _ => s.size - (intOf iv).toNat)
  case atStart => exact ⟨rfl, 0, Nat.zero_le _, rfl, fun i h hi => absurd hi (Nat.not_lt_zero _)⟩
  case round =>
    obtain ⟨rfl, j, hj, rfl, hp⟩ := hrel
    by_cases hlt : j < s.size
    · have i1 : (0 : Int) ≤ (j : Int) := by omega
      have i2 : (j : Int) < (s.size : Int) := by omega
      obtain ⟨c, hc⟩ : ∃ c : Int, c = (s[j].toNat : Int) := ⟨_, rfl⟩
      have KL := isLetter_any c
      have KD := isDigit_any c
      rw [hc] at KL KD
      have HQ : Hid (qName j (s[j].toNat : Int) = (pLetter (s[j].toNat : Int) || (j != 0 && pDigit (s[j].toNat : Int)))) := rfl
      have NX : Hid (qName j (s[j].toNat : Int) = true → ∀ i (h : i < s.size), i < j + 1 → qName i (s[i].toNat : Int) = true) := fun hq i h hi => by
        by_cases e : i = j
        · subst e; exact hq
        · exact hp.out i h (by omega)
      cases hL : pLetter (s[j].toNat : Int)
      · by_cases j0 : j = 0
        · rw [hL] at KL
          have HK : Hid (∀ w, Calls Try.prog 88 #[.int .u8 (s[j].toNat : Int)] w fun e w' => e = .returned (.bool false) ∧ w' = w) := KL
          have HL : Hid (pLetter (s[j].toNat : Int) = false) := hL
          have z1 : ((j : Int) == 0) = true := by simp [j0]
          have J0 : Hid (j = 0) := j0
          clear KL KD hL hc j0
          go_wp2_with (go_at_call 88; refine (HK.out _).mono ?_; rintro e w1 ⟨rfl, rfl⟩)
          go_ret
          exact ⟨ret_bool (by unfold nameP; rw [allAt_bad hlt (by rw [HQ.out, HL.out]; simp [J0.out])]; rfl), rfl⟩
        · cases hD : pDigit (s[j].toNat : Int)
          · rw [hL] at KL
            rw [hD] at KD
            have HK : Hid (∀ w, Calls Try.prog 88 #[.int .u8 (s[j].toNat : Int)] w fun e w' => e = .returned (.bool false) ∧ w' = w) := KL
            have HK2 : Hid (∀ w, Calls Try.prog 89 #[.int .u8 (s[j].toNat : Int)] w fun e w' => e = .returned (.bool false) ∧ w' = w) := KD
            have HL : Hid (pLetter (s[j].toNat : Int) = false) := hL
            have HD : Hid (pDigit (s[j].toNat : Int) = false) := hD
            have z1 : ((j : Int) == 0) = false := by simp [j0]
            clear KL KD hL hc hD
            go_wp2_with (first | (go_at_call 88; refine (HK.out _).mono ?_; rintro e w1 ⟨rfl, rfl⟩) | (go_at_call 89; refine (HK2.out _).mono ?_; rintro e w1 ⟨rfl, rfl⟩))
            go_ret
            exact ⟨ret_bool (by unfold nameP; rw [allAt_bad hlt (by rw [HQ.out, HL.out, HD.out]; simp)]; rfl), rfl⟩
          · rw [hL] at KL
            rw [hD] at KD
            have HK : Hid (∀ w, Calls Try.prog 88 #[.int .u8 (s[j].toNat : Int)] w fun e w' => e = .returned (.bool false) ∧ w' = w) := KL
            have HK2 : Hid (∀ w, Calls Try.prog 89 #[.int .u8 (s[j].toNat : Int)] w fun e w' => e = .returned (.bool true) ∧ w' = w) := KD
            have HG : Hid (qName j (s[j].toNat : Int) = true) := show qName j (s[j].toNat : Int) = true by rw [HQ.out, hL, hD]; simp [j0]
            have z1 : ((j : Int) == 0) = false := by simp [j0]
            clear KL KD hL hc hD
            go_wp2_with (first | (go_at_call 88; refine (HK.out _).mono ?_; rintro e w1 ⟨rfl, rfl⟩) | (go_at_call 89; refine (HK2.out _).mono ?_; rintro e w1 ⟨rfl, rfl⟩))
            go_roundw
            case rel => exact ⟨by trivial, j + 1, by omega, by go_num, NX.out HG.out⟩
            case measure => simp [intOf]; omega
      · rw [hL] at KL
        have HK : Hid (∀ w, Calls Try.prog 88 #[.int .u8 (s[j].toNat : Int)] w fun e w' => e = .returned (.bool true) ∧ w' = w) := KL
        have HG : Hid (qName j (s[j].toNat : Int) = true) := by rw [HQ.out, hL]; rfl
        clear KL KD hL hc
        go_wp2_with (go_at_call 88; refine (HK.out _).mono ?_; rintro e w1 ⟨rfl, rfl⟩)
        go_roundw
        case rel => exact ⟨by trivial, j + 1, by omega, by go_num, NX.out HG.out⟩
        case measure => simp [intOf]; omega
    · have : j = s.size := by omega
      subst this
      go_wp2
      go_ret
      refine ⟨ret_bool ?_, rfl⟩
      unfold nameP
      rw [allAt_good fun i h => hp.out i h h]
      have e := isEmpty_size s
      rw [Bool.true_and]
      first | (rw [e]; rfl) | (simp [e]; done)

set_option maxHeartbeats 1000000 in
theorem isText_any (s : ByteArray) (hs : s.size ≤ 140737488351232) (w : World) :
    Calls Try.prog 79 #[.string s] w fun e w' => e = .returned (.bool (textP s)) ∧ w' = w := by
  go_enter Try.func79, Try.ntmps79
  go_wp2
  go_loopw [7] (fun iv wr => wr = w ∧ ∃ j : Nat, j ≤ s.size ∧ iv = .int .i64 j ∧ Hid (∀ i (h : i < s.size), i < j → qText i (s[i].toNat : Int) = true)) (fun iv _ => s.size - (intOf iv).toNat)
  case atStart => exact ⟨rfl, 0, Nat.zero_le _, rfl, fun i h hi => absurd hi (Nat.not_lt_zero _)⟩
  case round =>
    obtain ⟨rfl, j, hj, rfl, hp⟩ := hrel
    by_cases hlt : j < s.size
    · have i1 : (0 : Int) ≤ (j : Int) := by omega
      have i2 : (j : Int) < (s.size : Int) := by omega
      have HQ : Hid (qText j (s[j].toNat : Int) = ((decide (32 ≤ (s[j].toNat : Int)) && decide ((s[j].toNat : Int) ≤ 126)) && (s[j].toNat : Int) != 34)) := rfl
      have NX : Hid (qText j (s[j].toNat : Int) = true → ∀ i (h : i < s.size), i < j + 1 → qText i (s[i].toNat : Int) = true) := fun hq i h hi => by
        by_cases e : i = j
        · subst e; exact hq
        · exact hp.out i h (by omega)
      by_cases g : 32 ≤ (s[j].toNat : Int) ∧ (s[j].toNat : Int) ≤ 126 ∧ ¬ ((s[j].toNat : Int) = 34)
      · have HG : Hid (qText j (s[j].toNat : Int) = true) := show qText j (s[j].toNat : Int) = true by rw [HQ.out]; simp [g.1, g.2.1, g.2.2]
        obtain ⟨g1, g2, g3⟩ := g
        have z1 : ¬ ((s[j].toNat : Int) < 32) := by omega
        have z2 : ¬ (126 < (s[j].toNat : Int)) := by omega
        clear g1 g2
        go_wp2
        go_roundw
        case rel => exact ⟨by trivial, j + 1, by omega, by go_num, NX.out HG.out⟩
        case measure => simp [intOf]; omega
      · have HG : Hid (qText j (s[j].toNat : Int) = false) := show qText j (s[j].toNat : Int) = false by
          rw [HQ.out, Bool.eq_false_iff]
          intro h
          simp only [Bool.and_eq_true, decide_eq_true_eq, bne_iff_ne] at h
          exact g ⟨h.1.1, h.1.2, h.2⟩
        by_cases z1 : (s[j].toNat : Int) < 32
        · clear g
          go_wp2
          go_ret
          exact ⟨ret_bool (allAt_bad hlt HG.out).symm, rfl⟩
        · by_cases z2 : 126 < (s[j].toNat : Int)
          · clear g
            go_wp2
            go_ret
            exact ⟨ret_bool (allAt_bad hlt HG.out).symm, rfl⟩
          · have z3 : ((s[j].toNat : Int) == 34) = true := by rw [beq_iff_eq]; omega
            clear g
            go_wp2
            go_ret
            exact ⟨ret_bool (allAt_bad hlt HG.out).symm, rfl⟩
    · have : j = s.size := by omega
      subst this
      go_wp2
      go_ret
      exact ⟨ret_bool (allAt_good fun i h => hp.out i h h).symm, rfl⟩

end Go.Proofs.Ytbmkddmmclndcaa
/- Package tree: which nodes may be. -/
namespace Go.Proofs.Ytbmkddmmclndcaa
open Go.RowKit
set_option linter.unusedVariables false
set_option linter.unusedSimpArgs false

def finP (a : Int) : Bool := decide (a % 2147483648 < 2139095040)
def novP (t : Nd) : Bool := t.num == 0 && t.int_ == 0
def bindsP : List Nd → Bool
  | [v, r] => v.kind != 6 && (r.kind == 6 || r.kind == 1) && v.key.toList.isEmpty && r.key.toList.isEmpty
  | _ => false
def kindP (t : Nd) : Bool :=
  if t.kind = 1 then nameP t.name && novP t
  else if t.kind = 2 then t.name.toList.isEmpty && finP t.num && t.int_ == 0 && (t.args.length : Int) == 0
  else if t.kind = 3 then t.name.toList.isEmpty && t.num == 0 && decide (-2147483647 ≤ t.int_) && decide (t.int_ ≤ 2147483647) && (t.args.length : Int) == 0
  else if t.kind = 4 then nameP t.name && novP t && (t.args.length : Int) == 0
  else if t.kind = 5 then textP t.name && novP t && (t.args.length : Int) == 0
  else if t.kind = 6 then nameP t.name && !(t.name.toList == [116, 114, 117, 101]) && !(t.name.toList == [102, 97, 108, 115, 101]) && novP t && bindsP t.args
  else false

set_option maxHeartbeats 400000 in
theorem hasNoValue_any (b o : Nat) (x i : Int) (w : World) (h2 : w.cell? ⟨b, o + 2, none⟩ = some (.int .u32 x)) (h3 : w.cell? ⟨b, o + 3, none⟩ = some (.int .i64 i)) :
    Calls Try.prog 77 #[.pointer (some ⟨b, o, none⟩)] w fun e w' => e = .returned (.bool (x == 0 && i == 0)) ∧ w' = w := by
  go_enter Try.func77, Try.ntmps77
  go_wp2
  all_goals (go_ret; refine ⟨ret_bool ?_, rfl⟩; simp_all)

set_option maxHeartbeats 400000 in
theorem isFinite_any (a : Int) (h0 : 0 ≤ a) (h1 : a < 4294967296) (w : World) :
    Calls Try.prog 78 #[.int .u32 a] w fun e w' => e = .returned (.bool (finP a)) ∧ w' = w := by
  have K : finP a = (cls a != 4 && cls a != 5) := by
    unfold finP cls
    rw [Bool.eq_iff_iff]
    split
    · split <;> simp <;> omega
    · split
      · split <;> simp <;> omega
      · simp; omega
  rw [K]
  obtain ⟨c, hc⟩ : ∃ c, cls a = c := ⟨_, rfl⟩
  have KC := class_any a h0 h1
  rw [hc] at KC ⊢
  have HK : Hid (∀ w, Calls Try.prog 90 #[.int .u32 a] w fun e w' => e = .returned (.int .i64 c) ∧ w' = w) := KC
  clear KC hc K
  go_enter Try.func78, Try.ntmps78
  go_wp2_with (go_at_call 90; refine (HK.out _).mono ?_; rintro e w1 ⟨rfl, rfl⟩)
  all_goals (go_ret; refine ⟨ret_bool ?_, rfl⟩; simp_all)

set_option maxHeartbeats 400000 in
theorem keyMayBe_none (s : ByteArray) (w : World) :
    Calls Try.prog 46 #[.string s, .pointer none] w fun e w' => e = .returned (.bool s.toList.isEmpty) ∧ w' = w := by
  go_enter Try.func46, Try.ntmps46
  go_wp2
  all_goals (go_ret; refine ⟨ret_bool ?_, rfl⟩; simp_all)

set_option maxHeartbeats 400000 in
theorem keyMayBe_some (s : ByteArray) (hs : s.size ≤ 140737488351232) (b o : Nat) (w : World) :
    Calls Try.prog 46 #[.string s, .pointer (some ⟨b, o, none⟩)] w fun e w' => e = .returned (.bool (s.toList.isEmpty || nameP s)) ∧ w' = w := by
  go_enter Try.func46, Try.ntmps46
  go_wp2_with (go_at_call 76; refine (isName_any _ hs _).mono ?_; rintro e w1 ⟨rfl, rfl⟩)
  all_goals (go_ret; refine ⟨ret_bool ?_, rfl⟩; simp_all)

set_option maxHeartbeats 400000 in
theorem standsWell_none (b o : Nat) (k : Int) (w : World) (h0 : w.cell? ⟨b, o, none⟩ = some (.int .i64 k)) :
    Calls Try.prog 48 #[.pointer (some ⟨b, o, none⟩), .pointer none] w fun e w' => e = .returned (.bool true) ∧ w' = w := by
  go_enter Try.func48, Try.ntmps48
  go_wp2
  all_goals (go_ret; refine ⟨ret_bool ?_, rfl⟩; simp_all)

set_option maxHeartbeats 400000 in
theorem standsWell_some (b o : Nat) (k : Int) (b' o' : Nat) (k' : Int) (w : World) (h0 : w.cell? ⟨b, o, none⟩ = some (.int .i64 k)) (h1 : w.cell? ⟨b', o', none⟩ = some (.int .i64 k')) :
    Calls Try.prog 48 #[.pointer (some ⟨b, o, none⟩), .pointer (some ⟨b', o', none⟩)] w fun e w' => e = .returned (.bool (k != 6 || k' == 6)) ∧ w' = w := by
  go_enter Try.func48, Try.ntmps48
  go_wp2
  all_goals (go_ret; refine ⟨ret_bool ?_, rfl⟩; simp_all)

set_option maxRecDepth 100000 in
set_option maxHeartbeats 1000000 in
theorem bindsWell_any (p : Option Addr) (c : Nat) (l : List Nd) (hl : l.length ≤ 99000) (w : World) (hk : Kids w anyH (.slice p l.length c) l) :
    Calls Try.prog 80 #[.slice p l.length c] w fun e w' => e = .returned (.bool (bindsP l)) ∧ Below w.heap.size w w' := by
  by_cases h2 : l.length = 2
  · obtain ⟨p', c', hv, -, hk⟩ := hk
    match l, h2, hk with
    | [v, r], _, hk0 =>
      rcases hk0 with hka | ⟨b, o, hp, hka⟩
      · cases hka
      simp only [Value.slice.injEq] at hv
      obtain ⟨rfl, -, -⟩ := hv
      subst hp
      have hk1 := KA_cons.1 hka
      have hk2 := KA_cons.1 hk1.2
      obtain ⟨v0, -, -, -, v4, -, -⟩ := hk1.1
      obtain ⟨r0, -, -, -, r4, -, -⟩ := hk2.1
      clear hka hk1 hk2
      obtain ⟨vk, vn, vx, vi, vy, vl, va⟩ := v
      obtain ⟨rk, rn, rx, ri, ry, rl, ra⟩ := r
      show Calls Try.prog 80 #[.slice (some ⟨b, o, none⟩) 2 c] w fun e w' => e = .returned (.bool (vk != 6 && (rk == 6 || rk == 1) && vy.toList.isEmpty && ry.toList.isEmpty)) ∧ Below w.heap.size w w'
      simp only at v0 v4 r0 r4
      go_enter Try.func80, Try.ntmps80
      go_wp2
      go_quiet (fail)
      go_wp2
      all_goals (go_ret; refine ⟨ret_bool ?_, bel_dn _ _⟩; simp_all)
  · have e : bindsP l = false := by
      unfold bindsP
      split
      · simp at h2
      · rfl
    rw [e]
    obtain ⟨n, hn⟩ : ∃ n, l.length = n := ⟨_, rfl⟩
    rw [hn] at hl h2 ⊢
    have z : ¬ ((n : Int) = 2) := by omega
    clear hk e hn
    go_enter Try.func80, Try.ntmps80
    go_wp2
    go_ret
    exact ⟨rfl, bel0 w⟩

/-- The error of one node, where none ahead of it has one. -/
def keyP (y : ByteArray) (u : Option Nd) : Bool := match u with | none => y.toList.isEmpty | some _ => y.toList.isEmpty || nameP y
def standsP (k : Int) (u : Option Nd) : Bool := match u with | none => true | some a => k != 6 || a.kind == 6
def judgeP (t : Nd) (u : Option Nd) : Int :=
  if 64 < t.name.size ∨ 64 < t.key.size then 2 else if keyP t.key u && kindP t && standsP t.kind u then 0 else 70

set_option maxRecDepth 100000 in
set_option maxHeartbeats 4000000 in
theorem kindMayBe_any (b o : Nat) (t : Nd) (w : World) (hc : cnt t ≤ 99000) (hok : ok1 t) (hn : NodeA w anyH b o t) :
    Calls Try.prog 47 #[.pointer (some ⟨b, o, none⟩)] w fun e w' => e = .returned (.bool (kindP t)) ∧ Below w.heap.size w w' := by
  obtain ⟨⟨s1, s2, x0, x1⟩, -⟩ := hok
  obtain ⟨e0, e1, e2, e3, e4, e6, sv, e5, hk⟩ := hn
  have hlen : t.args.length ≤ 99000 := by have := cntL_len t.args; unfold cnt at hc; omega
  obtain ⟨p, c, rfl, hq, hk'⟩ := hk
  have HB : Hid (∀ v, Below w.heap.size w v → Calls Try.prog 80 #[.slice p t.args.length c] v fun e v' => e = .returned (.bool (bindsP t.args)) ∧ Below v.heap.size v v') := fun v hv => bindsWell_any p c t.args hlen v (Kids.below ⟨p, c, rfl, hq, hk'⟩ hv)
  clear hk' hq hc
  obtain ⟨k, nm, x, i, y, l, a⟩ := t
  simp only at *
  unfold kindP novP
  simp only
  clear e4 e6
  obtain ⟨np, hnp⟩ : ∃ np, nameP nm = np := ⟨_, rfl⟩
  obtain ⟨tp, htp⟩ : ∃ tp, textP nm = tp := ⟨_, rfl⟩
  obtain ⟨fp, hfp⟩ : ∃ fp, finP x = fp := ⟨_, rfl⟩
  have K1 := isName_any nm s1
  have K2 := isText_any nm s1
  have K3 := isFinite_any x x0 x1
  rw [hnp] at K1 ⊢
  rw [htp] at K2 ⊢
  rw [hfp] at K3 ⊢
  have H1 : Hid (∀ w, Calls Try.prog 76 #[.string nm] w fun e w' => e = .returned (.bool np) ∧ w' = w) := K1
  have H2 : Hid (∀ w, Calls Try.prog 79 #[.string nm] w fun e w' => e = .returned (.bool tp) ∧ w' = w) := K2
  have H3 : Hid (∀ w, Calls Try.prog 78 #[.int .u32 x] w fun e w' => e = .returned (.bool fp) ∧ w' = w) := K3
  clear hnp htp hfp K1 K2 K3 s1 s2 x0 x1
  by_cases k1 : k = 1
  · subst k1
    rw [if_pos rfl]
    go_enter Try.func47, Try.ntmps47
    go_wp2_with (first | (go_at_call 76; refine (H1.out _).mono ?_; rintro e w1 ⟨rfl, rfl⟩) | (go_at_call 77; refine (hasNoValue_any b o x i _ e2 e3).mono ?_; rintro e w1 ⟨rfl, rfl⟩))
    all_goals (go_ret; refine ⟨ret_bool ?_, bel0 _⟩; simp_all)
  rw [if_neg k1]
  by_cases k2 : k = 2
  · subst k2
    rw [if_pos rfl]
    go_enter Try.func47, Try.ntmps47
    go_wp2_with (first | (go_at_call 78; refine (H3.out _).mono ?_; rintro e w1 ⟨rfl, rfl⟩))
    all_goals (go_ret; refine ⟨ret_bool ?_, bel0 _⟩; simp_all)
  rw [if_neg k2]
  by_cases k3 : k = 3
  · subst k3
    rw [if_pos rfl]
    go_enter Try.func47, Try.ntmps47
    go_wp2
    all_goals (go_ret; refine ⟨ret_bool ?_, bel0 _⟩; first | (simp_all; done) | (simp_all; intros; omega))
  rw [if_neg k3]
  by_cases k4 : k = 4
  · subst k4
    rw [if_pos rfl]
    go_enter Try.func47, Try.ntmps47
    go_wp2_with (first | (go_at_call 76; refine (H1.out _).mono ?_; rintro e w1 ⟨rfl, rfl⟩) | (go_at_call 77; refine (hasNoValue_any b o x i _ e2 e3).mono ?_; rintro e w1 ⟨rfl, rfl⟩))
    all_goals (go_ret; refine ⟨ret_bool ?_, bel0 _⟩; simp_all)
  rw [if_neg k4]
  by_cases k5 : k = 5
  · subst k5
    rw [if_pos rfl]
    go_enter Try.func47, Try.ntmps47
    go_wp2_with (first | (go_at_call 79; refine (H2.out _).mono ?_; rintro e w1 ⟨rfl, rfl⟩) | (go_at_call 77; refine (hasNoValue_any b o x i _ e2 e3).mono ?_; rintro e w1 ⟨rfl, rfl⟩))
    all_goals (go_ret; refine ⟨ret_bool ?_, bel0 _⟩; simp_all)
  rw [if_neg k5]
  by_cases k6 : k = 6
  · subst k6
    rw [if_pos rfl]
    go_enter Try.func47, Try.ntmps47
    go_wp2_with (first | (go_at_call 76; refine (H1.out _).mono ?_; rintro e w1 ⟨rfl, rfl⟩) | (go_at_call 77; refine (hasNoValue_any b o x i _ e2 e3).mono ?_; rintro e w1 ⟨rfl, rfl⟩) | (go_at_call 80; refine (HB.out _ (bel0 _)).mono ?_; rintro e w1 ⟨rfl, hb1⟩))
    all_goals (go_ret; refine ⟨ret_bool ?_, (by first | exact hb1 | exact bel0 _)⟩; simp_all)
  rw [if_neg k6]
  go_enter Try.func47, Try.ntmps47
  go_wp2
  go_ret
  exact ⟨rfl, bel0 _⟩

end Go.Proofs.Ytbmkddmmclndcaa
