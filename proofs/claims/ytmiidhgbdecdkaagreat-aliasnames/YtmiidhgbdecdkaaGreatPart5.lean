import Derived.Test.YtmiidhgbdecdkaaGreatPart4
import Derived.Test.YtmiidhgbdecdkaaGreatPart1
namespace Go.Proofs.YtmiidhgbdecdkaaGreat
open Go.RowKit
set_option linter.unusedVariables false
set_option linter.unusedSimpArgs false
theorem twoC {v : World} {R : Nat} {a0 a1 : Value} {t : TypeId} (h : v.heap[R]? = some (.cells #[a0, a1] t)) :
  (v.cell? ⟨R, 0, none⟩ = some a0 ∧ v.cell? ⟨R, 1, none⟩ = some a1) ∧ (v.frozen? ⟨R, 0, none⟩ = false ∧ v.frozen? ⟨R, 1, none⟩ = false) :=
 ⟨⟨(at_cell h 0 rfl).1, (at_cell h 1 rfl).1⟩, (at_cell h 0 rfl).2, (at_cell h 1 rfl).2⟩
theorem put_twoC {v : World} {R : Nat} {a0 a1 : Value} {t : TypeId} (h : v.heap[R]? = some (.cells #[a0, a1] t)) (b0 b1 : Value) : ((v.setCell ⟨R, 0, none⟩ b0).setCell ⟨R, 1, none⟩ b1).heap[R]? = some (.cells #[b0, b1] t) := by
 have := heap_setAt (heap_setAt h 0 b0) 1 b1
 simpa using this
theorem new_size (w : World) : ∃ W, w.alloc (.cells #[.int .i64 0, .int .i64 0] 84) = W ∧ W.heap[w.heap.size]? = some (.cells #[.int .i64 0, .int .i64 0] 84) ∧ Below w.heap.size w W :=
 ⟨_, rfl, box_heapA _ _, (Below.refl _ _).alloc (Nat.le_refl _) _⟩
theorem below_at {B : Nat} {w v : World} (h : Below B w v) {R : Nat} (hR : B ≤ R) (i : Nat) (x : Value) : Below B w (v.setCell ⟨R, i, none⟩ x) := h.setCell (p := ⟨R, i, none⟩) hR x
theorem other_at {v : World} {R Q : Nat} (h : Q ≠ R) (i : Nat) (x : Value) : (v.setCell ⟨R, i, none⟩ x).heap[Q]? = v.heap[Q]? := Below.heap_setCell _ _ _ _ h
theorem mcntL_place (a : Int) : ∀ l : List Nd, cntL (placeL a l) = cntL l := by
 apply forest (P := fun l => cntL (placeL a l) = cntL l)
 ·rw [placeL_nil]
 ·intro t r h1 h2
  rw [placeL_cons, cntL_cons, cntL_cons, h2]
  have : cnt (placeN t a) = cnt t := by unfold cnt; rw [show (placeN t a).args = placeL a t.args from rfl, h1]
  rw [this]
theorem mdepL_place (a : Int) : ∀ l : List Nd, depL (placeL a l) = depL l := by
 apply forest (P := fun l => depL (placeL a l) = depL l)
 ·rw [placeL_nil]
 ·intro t r h1 h2
  rw [placeL_cons, depL_cons, depL_cons, h2]
  have : dep (placeN t a) = dep t := by unfold dep; rw [show (placeN t a).args = placeL a t.args from rfl, h1]
  rw [this]
theorem mcnt_place (t : Nd) (a : Int) : cnt (placeN t a) = cnt t := by unfold cnt; rw [show (placeN t a).args = placeL a t.args from rfl, mcntL_place]
theorem mdep_place (t : Nd) (a : Int) : dep (placeN t a) = dep t := by unfold dep; rw [show (placeN t a).args = placeL a t.args from rfl, mdepL_place]
theorem wr_mnt {l : List (ByteArray × Nd)} {t : Nd} {i : Nat} (h : mntP l t = some i) : ∃ hi : i < l.length, wrN (envA l) t = keyN (placeN (wrN (envA (l.take i)) l[i].2) t.at_) t.key := by
 have hi := mntP_lt h
 refine ⟨hi, ?_⟩
 unfold mntP at h
 split at h
 ·rename_i hk
  have := look_meant (l := l) (nm := t.name) (Nat.le_refl l.length)
  rw [List.take_length, h] at this
  simp only [List.getElem?_eq_getElem hi, Option.map_some] at this
  unfold wrN wrOne
  rw [if_pos (by simpa using hk), this]
  rfl
 ·cases h
theorem wr_no {l : List (ByteArray × Nd)} {t : Nd} (h : mntP l t = none) : wrN (envA l) t = argsN t (t.args.map (wrN (envA l))) := by
 unfold mntP at h
 unfold wrN wrOne
 split at h
 ·rename_i hk
  have := look_meant (l := l) (nm := t.name) (Nat.le_refl l.length)
  rw [List.take_length, h] at this
  simp only at this
  rw [if_pos (by simpa using hk), this, wrL_map]
  rfl
 ·rename_i hk
  rw [if_neg (by simpa using hk), wrL_map]
  rfl
theorem sz_mnt {l : List (ByteArray × Nd)} {t : Nd} {i : Nat} (h : mntP l t = some i) : ∃ hi : i < l.length, szA (envA l) t = szA (envA (l.take i)) l[i].2 := by
 obtain ⟨hi, e⟩ := wr_mnt h
 refine ⟨hi, ?_⟩
 unfold szA
 rw [e]
 have h1 : ∀ (x : Nd) (k : ByteArray), cnt (keyN x k) = cnt x := fun _ _ => rfl
 have h2 : ∀ (x : Nd) (k : ByteArray), dep (keyN x k) = dep x := fun _ _ => rfl
 rw [h1, h2, mcnt_place, mdep_place]
def MsTo (l : List (ByteArray × Nd)) (N : Nat) : Prop := ∀ (t : Nd) (b o : Nat) (p : Option Addr) (c : Nat) (w : World), dep t ≤ N → cnt t ≤ 40000 → dep (wrN (envA l) t) ≤ 40000 → ScopeA w p l → NodeA w anyH b o t →
 Calls Tryz.prog 44 #[.slice p l.length c, .pointer (some ⟨b, o, none⟩)] w fun e w' => e = .returned (.agg #[.int .i64 (szA (envA l) t).1, .int .i64 (szA (envA l) t).2]) ∧ Below w.heap.size w w'
set_option maxRecDepth 100000 in
set_option maxHeartbeats 2000000 in
theorem ms_to (l : List (ByteArray × Nd)) (hl : l.length ≤ 40000) : ∀ N, MsTo l N := by
 intro N
 induction N with
 | zero => intro t b o p c w hd; unfold dep at hd; omega
 | succ N ih =>
  intro t b o p c w hd hc hdw hs hn
  have hme := fun (x : World) (k : Below w.heap.size w x) => smeant_any l p c b o t x hl (hs.below k) (hn.below k)
  have hlen : t.args.length ≤ 40000 := by have := cntL_len t.args; unfold cnt at hc; omega
  obtain ⟨n, hnn⟩ : ∃ n, t.args.length = n := ⟨_, rfl⟩
  have HN : Hid (t.args.length = n) := hnn
  have HSC : Hid (ScopeA w p l) := hs
  have HNO : Hid (NodeA w anyH b o t) := hn
  obtain ⟨W, hW, hX, hB⟩ := new_size w
  obtain ⟨Lk, hLk⟩ : ∃ Lk, l.length = Lk := ⟨_, rfl⟩
  have HLK : Hid (l.length = Lk) := hLk
  have HX : Hid (W.heap[w.heap.size]? = some (.cells #[.int .i64 0, .int .i64 0] 84)) := hX
  have HB : Hid (Below w.heap.size w W) := hB
  have HIH : Hid (∀ j (hj : j < t.args.length) (q r : Nat) (v : World), Below w.heap.size w v → NodeA v anyH q r t.args[j] → dep (wrN (envA l) t.args[j]) ≤ 40000 → Calls Tryz.prog 44 #[.slice p Lk c, .pointer (some ⟨q, r, none⟩)] v fun e w' => e = .returned (.agg #[.int .i64 (szA (envA l) t.args[j]).1, .int .i64 (szA (envA l) t.args[j]).2]) ∧ Below v.heap.size v w') := fun j hj q r v hv hnv hdv => by
   rw [← HLK.out]
   exact ih t.args[j] q r p c v (by have h1 := dep_get hj; unfold dep at hd; omega) (by have h1 := cnt_get hj; unfold cnt at hc; omega) hdv (HSC.out.below hv) hnv
  rw [hLk] at hl hme ⊢
  cases hm : mntP l t with
  | some i =>
   obtain ⟨hi, hsz⟩ := sz_mnt hm
   obtain ⟨bs, hp, x0, -, x2, x3⟩ := (hs.below hB) i hi
   subst hp
   rw [← hsz] at x2 x3
   obtain ⟨z1, hz1⟩ : ∃ z, (szA (envA l) t).1 = z := ⟨_, rfl⟩
   obtain ⟨z2, hz2⟩ : ∃ z, (szA (envA l) t).2 = z := ⟨_, rfl⟩
   rw [hz1] at x2 ⊢
   rw [hz2] at x3 ⊢
   have HM : Hid (∀ x, Below w.heap.size w x → Calls Tryz.prog 83 #[.slice (some ⟨bs, 0, none⟩) Lk c, .pointer (some ⟨b, o, none⟩)] x fun e w' => e = .returned (.tuple #[.int .i64 i, .bool true]) ∧ Below x.heap.size x w') := fun x k => by
    have := hme x k
    rw [hm] at this
    exact this
   have k0 : (0 : Int) ≤ (i : Int) := by omega
   have k1 : (i : Int) < (Lk : Int) := by rw [hLk] at hi; omega
   have HC2 : Hid (W.cell? ⟨bs, i * 4 + 2, none⟩ = some (.int .i64 z1)) := x2
   have HC3 : Hid (W.cell? ⟨bs, i * 4 + 3, none⟩ = some (.int .i64 z2)) := x3
   clear hme hm hs hn hnn hLk ih hd hc hdw hX hB hi hsz x0 x2 x3 hz1 hz2 HIH
   go_enter Tryz.func44, Tryz.ntmps44
   go_upto_region 3 with (go_at_call 83; (with_reducible refine (HM.out _ HB.out).mono ?_); rintro e w1 ⟨rfl, hb1⟩; have y2 := (hb1.cell (mcell_lt HC2.out)).trans HC2.out; have y3 := (hb1.cell (mcell_lt HC3.out)).trans HC3.out; obtain ⟨⟨u0, u1⟩, v0, v1⟩ := twoC ((hb1.block _ (hlt HX.out)).trans HX.out); have HB1 : Hid (Below w.heap.size w w1) := bel HB.out hb1; clear hb1)
   go_wp2
   refine bodyPost_ret (by simp [results, Tryz.results44, go_sem, *]; try rfl) rfl ?_
   exact ⟨by trivial, below_at (below_at HB1.out (Nat.le_refl _) _ _) (Nat.le_refl _) _ _⟩
  | none =>
   have hwr := wr_no hm
   have HM : Hid (∀ x, Below w.heap.size w x → Calls Tryz.prog 83 #[.slice p Lk c, .pointer (some ⟨b, o, none⟩)] x fun e w' => e = .returned (.tuple #[.int .i64 0, .bool false]) ∧ Below x.heap.size x w') := fun x k => by
    have := hme x k
    rw [hm] at this
    exact this
   obtain ⟨L, hL⟩ : ∃ L, t.args.map (wrN (envA l)) = L := ⟨_, rfl⟩
   have hLl : L.length = n := by rw [← hL, List.length_map, hnn]
   have HLG : Hid (∀ j (h : j < t.args.length) (h' : j < L.length), wrN (envA l) t.args[j] = L[j]) := fun j h h' => by subst hL; rw [List.getElem_map]
   rw [hL] at hwr
   have HSZ : Hid (szA (envA l) t = (((min (1 + cntL L) 4097 : Nat) : Int), ((depL L + 1 : Nat) : Int)) ∧ depL L + 1 ≤ 40000 ∧ L.length = n) := by
    refine ⟨?_, ?_, hLl⟩
    ·unfold szA; rw [hwr]; rfl
    ·rw [hwr] at hdw; exact hdw
   obtain ⟨-, -, -, -, -, -, sv, h5, hk⟩ := hn
   obtain ⟨q, d, rfl, -, hka⟩ := hk
   rw [hnn] at h5
   have HKA : Hid (t.args = [] ∨ ∃ b' o', q = some ⟨b', o', none⟩ ∧ KA w anyH b' o' t.args) := hka
   have H5 : Hid (w.cell? ⟨b, o + 5, none⟩ = some (.slice q n d)) := h5
   rw [hnn] at hlen
   clear hme hm hs hnn hLk ih hd hc hdw hX hB hwr hL hka h5 hLl HSC
   go_enter Tryz.func44, Tryz.ntmps44
   go_upto_region 4 with (go_at_call 83; (with_reducible refine (HM.out _ HB.out).mono ?_); rintro e w1 ⟨rfl, hb1⟩; have HB1 : Hid (Below w.heap.size w w1) := bel HB.out hb1; have HX1 : Hid (w1.heap[w.heap.size]? = some (.cells #[.int .i64 0, .int .i64 0] 84)) := (hb1.block _ (hlt HX.out)).trans HX.out; clear hb1)
   obtain ⟨W1, hW1, hY, hBY⟩ := new_size w1
   obtain ⟨⟨u0, u1⟩, v0, v1⟩ := twoC hY
   have HG : Hid (w.heap.size + 1 ≤ w1.heap.size) := hlt HX1.out
   have hXU := put_twoC hY (.int .i64 1) (.int .i64 1)
   have hBU : Below w.heap.size w ((W1.setCell ⟨w1.heap.size, 0, none⟩ (.int .i64 1)).setCell ⟨w1.heap.size, 1, none⟩ (.int .i64 1)) := below_at (below_at (bel HB1.out hBY) (by have := HG.out; omega) _ _) (by have := HG.out; omega) _ _
   have hRU : ((W1.setCell ⟨w1.heap.size, 0, none⟩ (.int .i64 1)).setCell ⟨w1.heap.size, 1, none⟩ (.int .i64 1)).heap[w.heap.size]? = some (.cells #[.int .i64 0, .int .i64 0] 84) := by
    rw [other_at (by have := HG.out; omega), other_at (by have := HG.out; omega), hBY.block _ (hlt HX1.out)]
    exact HX1.out
   go_upto_region 5 with fail
   obtain ⟨G, hG⟩ : ∃ G, w1.heap.size = G := ⟨_, rfl⟩
   obtain ⟨U, hU⟩ : ∃ U, ((W1.setCell ⟨w1.heap.size, 0, none⟩ (.int .i64 1)).setCell ⟨w1.heap.size, 1, none⟩ (.int .i64 1)) = U := ⟨_, rfl⟩
   rw [hU] at hXU hBU hRU ⊢
   rw [hG] at hXU HG ⊢
   have HXU : Hid (U.heap[G]? = some (.cells #[.int .i64 1, .int .i64 1] 84)) := hXU
   have HBU : Hid (Below w.heap.size w U) := hBU
   have HRU : Hid (U.heap[w.heap.size]? = some (.cells #[.int .i64 0, .int .i64 0] 84)) := hRU
   have x5 := (hBU.cell (mcell_lt H5.out)).trans H5.out
   clear hXU hBU hRU hU hG hW1 hY hBY u0 u1 v0 v1 HM
   go_wp2
   go_loopw [28] (fun iv wr => ∃ j : Nat, j ≤ n ∧ iv = .int .i64 j ∧ Hid (Below w.heap.size w wr ∧ wr.heap[w.heap.size]? = some (.cells #[.int .i64 0, .int .i64 0] 84) ∧ wr.heap[G]? = some (.cells #[.int .i64 (min (1 + cntL (L.take j)) 4097 : Nat), .int .i64 (depL (L.take j) + 1 : Nat)] 84))) (fun iv _ => n - (intOf iv).toNat)
   case atStart => exact ⟨0, Nat.zero_le _, rfl, HBU.out, HRU.out, by rw [List.take_zero, cntL_nil, depL_nil]; exact HXU.out⟩
   case round =>
    obtain ⟨j, hj, rfl, HS⟩ := hrel
    obtain ⟨hb, hr, hg⟩ := HS.out
    clear x5
    have x5 := (hb.cell (mcell_lt H5.out)).trans H5.out
    obtain ⟨A, hA⟩ : ∃ A : Int, ((min (1 + cntL (L.take j)) 4097 : Nat) : Int) = A := ⟨_, rfl⟩
    obtain ⟨D, hD⟩ : ∃ D : Int, ((depL (L.take j) + 1 : Nat) : Int) = D := ⟨_, rfl⟩
    rw [hA, hD] at hg
    have HA : Hid (((min (1 + cntL (L.take j)) 4097 : Nat) : Int) = A) := hA
    have HDD : Hid (((depL (L.take j) + 1 : Nat) : Int) = D) := hD
    have HBR : Hid (Below w.heap.size w wr) := hb
    have HRR : Hid (wr.heap[w.heap.size]? = some (.cells #[.int .i64 0, .int .i64 0] 84)) := hr
    have HGR : Hid (wr.heap[G]? = some (.cells #[.int .i64 A, .int .i64 D] 84)) := hg
    clear hb hr hg hA hD HS
    by_cases hlt0 : j < n
    ·have hll : j < t.args.length := by rw [HN.out]; exact hlt0
     have hlL : j < L.length := by rw [HSZ.out.2.2]; exact hlt0
     obtain ⟨b', o', rfl, hka⟩ : ∃ b' o', q = some ⟨b', o', none⟩ ∧ KA w anyH b' o' t.args := by
      rcases HKA.out with e | e
      ·rw [e] at hll; exact absurd hll (Nat.not_lt_zero _)
      ·exact e
     have hnj := (KA_get hka hll).below HBR.out
     have hdj : dep L[j] ≤ 40000 := by have h1 := dep_get hlL; have := HSZ.out.2.1; omega
     have hwj := HLG.out j hll hlL
     have HC := HIH.out j hll b' (o' + j * 7) wr HBR.out hnj (by rw [hwj]; exact hdj)
     unfold szA at HC
     rw [hwj] at HC
     obtain ⟨X, hX⟩ : ∃ X : Int, ((min (cnt L[j]) 4097 : Nat) : Int) = X := ⟨_, rfl⟩
     obtain ⟨Y, hY⟩ : ∃ Y : Int, ((dep L[j] : Nat) : Int) = Y := ⟨_, rfl⟩
     rw [hX, hY] at HC
     have HCC : Hid (Calls Tryz.prog 44 #[.slice p Lk c, .pointer (some ⟨b', o' + j * 7, none⟩)] wr fun e w' => e = .returned (.agg #[.int .i64 X, .int .i64 Y]) ∧ Below wr.heap.size wr w') := HC
     have HNX : Hid (min (A + X) 4097 = ((min (1 + cntL (L.take (j + 1))) 4097 : Nat) : Int)) := by
      show min (A + X) 4097 = _
      rw [cntL_take hlL, ← hX, ← HA.out]
      omega
     have HNY : Hid (max D (Y + 1) = ((depL (L.take (j + 1)) + 1 : Nat) : Int)) := by
      show max D (Y + 1) = _
      rw [depL_take hlL, ← hY, ← HDD.out]
      omega
     have i1 : (0 : Int) ≤ (j : Int) := by omega
     have i2 : (j : Int) < (n : Int) := by omega
     have hw1 : IntKind.i64.wrap (A + X) = A + X := by rw [IntKind.wrap_i64, ← hX, ← HA.out]; omega
     have hw2 : IntKind.i64.wrap (Y + 1) = Y + 1 := by rw [IntKind.wrap_i64, ← hY]; omega
     clear HC hka hnj hdj hwj hX hY HIH HLG HKA HSZ HXU HBU HRU HX1 HB1 HA HDD HNO
     go_upto_region 9 with (go_at_call 44; (with_reducible refine HCC.out.mono ?_); rintro e w3 ⟨rfl, hb3⟩; obtain ⟨W3, hW3, hX3, hB3⟩ := new_size w3; obtain ⟨⟨u0, u1⟩, v0, v1⟩ := twoC hX3)
     have HGL : Hid (G < wr.heap.size ∧ w.heap.size < wr.heap.size) := ⟨hlt HGR.out, hlt HRR.out⟩
     have hXU := put_twoC hX3 (.int .i64 X) (.int .i64 Y)
     have hsz3 : wr.heap.size ≤ w3.heap.size := hb3.size
     have hBU : Below wr.heap.size wr ((W3.setCell ⟨w3.heap.size, 0, none⟩ (.int .i64 X)).setCell ⟨w3.heap.size, 1, none⟩ (.int .i64 Y)) := below_at (below_at (bel hb3 hB3) hsz3 _ _) hsz3 _ _
     obtain ⟨E, hE⟩ : ∃ E, w3.heap.size = E := ⟨_, rfl⟩
     obtain ⟨U3, hU⟩ : ∃ U, ((W3.setCell ⟨w3.heap.size, 0, none⟩ (.int .i64 X)).setCell ⟨w3.heap.size, 1, none⟩ (.int .i64 Y)) = U := ⟨_, rfl⟩
     rw [hU] at hXU hBU ⊢
     rw [hE] at hXU hsz3 ⊢
     have hgU := (hBU.block G HGL.out.1).trans HGR.out
     have hrU := (hBU.block w.heap.size HGL.out.2).trans HRR.out
     have HBU3 : Hid (Below w.heap.size w U3) := bel HBR.out hBU
     have HXU3 : Hid (U3.heap[E]? = some (.cells #[.int .i64 X, .int .i64 Y] 84)) := hXU
     have HGU3 : Hid (U3.heap[G]? = some (.cells #[.int .i64 A, .int .i64 D] 84)) := hgU
     have HRU3 : Hid (U3.heap[w.heap.size]? = some (.cells #[.int .i64 0, .int .i64 0] 84)) := hrU
     have HGE : Hid (G < E) := by have := HGL.out.1; show G < E; omega
     clear u0 u1 v0 v1
     obtain ⟨⟨s0, s1⟩, -⟩ := twoC hXU
     obtain ⟨⟨g0, g1⟩, f0, f1⟩ := twoC hgU
     clear hXU hBU hgU hrU hU hE hW3 hX3 hB3 hb3 HCC x5
     go_upto_region 10 with fail
     obtain ⟨A2, hA2⟩ : ∃ A2, min (A + X) 4097 = A2 := ⟨_, rfl⟩
     rw [hA2] at HNX ⊢
     have hg4 : (U3.setCell ⟨G, 0, none⟩ (.int .i64 A2)).heap[G]? = some (.cells #[.int .i64 A2, .int .i64 D] 84) := by
      have := heap_setAt HGU3.out 0 (.int .i64 A2)
      simpa using this
     have he4 : (U3.setCell ⟨G, 0, none⟩ (.int .i64 A2)).heap[E]? = some (.cells #[.int .i64 X, .int .i64 Y] 84) := by
      rw [other_at (by have := HGE.out; omega)]; exact HXU3.out
     have hr4 : (U3.setCell ⟨G, 0, none⟩ (.int .i64 A2)).heap[w.heap.size]? = some (.cells #[.int .i64 0, .int .i64 0] 84) := by
      rw [other_at (by have := HG.out; omega)]; exact HRU3.out
     have hb4 : Below w.heap.size w (U3.setCell ⟨G, 0, none⟩ (.int .i64 A2)) := below_at HBU3.out (by have := HG.out; omega) _ _
     obtain ⟨U4, hU4⟩ : ∃ U, U3.setCell ⟨G, 0, none⟩ (.int .i64 A2) = U := ⟨_, rfl⟩
     rw [hU4] at hg4 he4 hr4 hb4 ⊢
     have HG4 : Hid (U4.heap[G]? = some (.cells #[.int .i64 A2, .int .i64 D] 84)) := hg4
     have HR4 : Hid (U4.heap[w.heap.size]? = some (.cells #[.int .i64 0, .int .i64 0] 84)) := hr4
     have HB4 : Hid (Below w.heap.size w U4) := hb4
     clear s0 s1 g0 g1 f0 f1
     obtain ⟨⟨s0, s1⟩, -⟩ := twoC he4
     obtain ⟨⟨g0, g1⟩, f0, f1⟩ := twoC hg4
     clear hU4 hA2 hg4 he4 hr4 hb4 HBU3 HXU3 HGU3 HRU3
     go_upto_region 11 with fail
     obtain ⟨D2, hD2⟩ : ∃ D2, max D (Y + 1) = D2 := ⟨_, rfl⟩
     rw [hD2] at HNY ⊢
     have hg5 : (U4.setCell ⟨G, 1, none⟩ (.int .i64 D2)).heap[G]? = some (.cells #[.int .i64 A2, .int .i64 D2] 84) := by
      have := heap_setAt HG4.out 1 (.int .i64 D2)
      simpa using this
     have hr5 : (U4.setCell ⟨G, 1, none⟩ (.int .i64 D2)).heap[w.heap.size]? = some (.cells #[.int .i64 0, .int .i64 0] 84) := by
      rw [other_at (by have := HG.out; omega)]; exact HR4.out
     have hb5 : Below w.heap.size w (U4.setCell ⟨G, 1, none⟩ (.int .i64 D2)) := below_at HB4.out (by have := HG.out; omega) _ _
     obtain ⟨U5, hU5⟩ : ∃ U, U4.setCell ⟨G, 1, none⟩ (.int .i64 D2) = U := ⟨_, rfl⟩
     rw [hU5] at hg5 hr5 hb5 ⊢
     have HS5 : Hid (Below w.heap.size w U5 ∧ U5.heap[w.heap.size]? = some (.cells #[.int .i64 0, .int .i64 0] 84) ∧ U5.heap[G]? = some (.cells #[.int .i64 (min (1 + cntL (L.take (j + 1))) 4097 : Nat), .int .i64 (depL (L.take (j + 1)) + 1 : Nat)] 84)) := ⟨hb5, hr5, by rw [← HNX.out, ← HNY.out]; exact hg5⟩
     clear s0 s1 g0 g1 f0 f1 hg5 hr5 hb5 hU5 HG4 HR4 HB4 hD2 HNX HNY
     go_wp2
     go_roundw
     case rel => exact ⟨j + 1, by omega, by go_num, HS5.out⟩
     case measure => simp [intOf]; omega
    ·have : j = n := by omega
     subst this
     have i2 : ¬ ((j : Int) < (j : Int)) := by omega
     obtain ⟨⟨g0, g1⟩, -⟩ := twoC HGR.out
     obtain ⟨⟨r0, r1⟩, f0, f1⟩ := twoC HRR.out
     have HF : Hid (szA (envA l) t = (A, D)) := by
      have := HSZ.out
      show szA (envA l) t = (A, D)
      rw [this.1, ← HA.out, ← HDD.out, List.take_of_length_le (Nat.le_of_eq this.2.2)]
     clear x5 HKA HIH HLG HSZ HA HDD HXU HBU HRU
     go_wp2
     refine bodyPost_ret (by simp [results, Tryz.results44, go_sem, *]; try rfl) rfl ?_
     exact ⟨by rw [HF.out], below_at (below_at HBR.out (Nat.le_refl _) _ _) (Nat.le_refl _) _ _⟩
end Go.Proofs.YtmiidhgbdecdkaaGreat
namespace Go.Proofs.YtmiidhgbdecdkaaGreat
open Go.RowKit
set_option linter.unusedVariables false
set_option linter.unusedSimpArgs false
theorem ix_get {l : List Nd} {i : Nat} (h : i < l.length) : ix l i = l[i] := by unfold ix; simp [List.getD_eq_getElem?_getD, h]
theorem ix_out {l : List Nd} {i : Nat} (h : l.length ≤ i) : ix l i = noneN := by unfold ix; simp [List.getD_eq_getElem?_getD, h]
theorem letsF_enough : ∀ (n : Nat) (t : Nd), dep t ≤ n → letsF n t = letsF (dep t) t
 | 0, t, h => by unfold dep at h; omega
 | n + 1, t, h => by
  obtain ⟨d, hd⟩ : ∃ d, dep t = d + 1 := ⟨depL t.args, rfl⟩
  rw [hd]
  simp only [letsF]
  by_cases hk : t.kind == 6
  ·rw [if_pos hk, if_pos hk]
   have hix : dep (ix t.args 1) ≤ max d 1 := by
    by_cases h1 : 1 < t.args.length
    ·rw [ix_get h1]
     have := dep_get h1
     have : depL t.args = d := by unfold dep at hd; omega
     omega
    ·rw [ix_out (by omega)]
     have : dep noneN = 1 := by unfold dep noneN; rw [depL_nil]
     omega
   by_cases hd0 : d = 0
   ·subst hd0
    have hl : t.args = [] := by
     cases ha : t.args with
     | nil => rfl
     | cons x r =>
      unfold dep at hd
      rw [ha, depL_cons] at hd
      unfold dep at hd
      omega
    rw [hl]
    have h1 : ∀ m, letsF m noneN = ([], noneN) := fun m => by cases m <;> simp [letsF, noneN]
    simp only [ix, List.getD_nil, h1]
   ·rw [letsF_enough n _ (by omega), letsF_enough d _ (by omega)]
  ·rw [if_neg hk, if_neg hk]
 termination_by n => n
def LetOK : Nat → Nd → Prop
 | 0, _ => True
 | n + 1, t => t.kind = 6 → t.args.length = 2 ∧ LetOK n (ix t.args 1)
theorem lets_step {t : Nd} (hk : t.kind = 6) (h2 : t.args.length = 2) : (letsA t).1 = (t.name, ix t.args 0) :: (letsA (ix t.args 1)).1 ∧ (letsA t).2 = (letsA (ix t.args 1)).2 ∧ dep (ix t.args 1) < dep t := by
 have hd : dep (ix t.args 1) < dep t := by
  rw [ix_get (by omega)]
  have := dep_get (l := t.args) (i := 1) (by omega)
  unfold dep at this ⊢
  omega
 unfold letsA
 obtain ⟨d, he⟩ : ∃ d, dep t = d + 1 := ⟨depL t.args, rfl⟩
 rw [he]
 simp only [letsF]
 rw [if_pos (by simpa using hk), letsF_enough d _ (by omega)]
 exact ⟨rfl, rfl, by omega⟩
theorem lets_end {t : Nd} (hk : t.kind ≠ 6) : letsA t = ([], t) := by
 unfold letsA
 obtain ⟨d, he⟩ : ∃ d, dep t = d + 1 := ⟨depL t.args, rfl⟩
 rw [he]
 simp only [letsF]
 rw [if_neg (by simpa using hk)]
abbrev LE := ByteArray × Nat × Nat × Int × Int
def cellsS (E : List LE) : List Value := E.flatMap fun e => [.string e.1, .pointer (some ⟨e.2.1, e.2.2.1, none⟩), .int .i64 e.2.2.2.1, .int .i64 e.2.2.2.2]
theorem cellsS_snoc (E : List LE) (e : LE) : cellsS (E ++ [e]) = cellsS E ++ [.string e.1, .pointer (some ⟨e.2.1, e.2.2.1, none⟩), .int .i64 e.2.2.2.1, .int .i64 e.2.2.2.2] := by simp [cellsS]
theorem cellsS_at : ∀ (E : List LE) (i k : Nat) (hi : i < E.length), k < 4 → (cellsS E)[i * 4 + k]? = [Value.string E[i].1, .pointer (some ⟨E[i].2.1, E[i].2.2.1, none⟩), .int .i64 E[i].2.2.2.1, .int .i64 E[i].2.2.2.2][k]?
 | [], i, k, hi, hk => absurd hi (Nat.not_lt_zero _)
 | r :: R, 0, k, hi, hk => by
  have e : cellsS (r :: R) = [.string r.1, .pointer (some ⟨r.2.1, r.2.2.1, none⟩), .int .i64 r.2.2.2.1, .int .i64 r.2.2.2.2] ++ cellsS R := by simp [cellsS]
  rw [e, Nat.zero_mul, Nat.zero_add, List.getElem?_append_left (by simpa using hk)]
  rfl
 | r :: R, i + 1, k, hi, hk => by
  have e : cellsS (r :: R) = [.string r.1, .pointer (some ⟨r.2.1, r.2.2.1, none⟩), .int .i64 r.2.2.2.1, .int .i64 r.2.2.2.2] ++ cellsS R := by simp [cellsS]
  rw [e, List.getElem?_append_right (by simp; omega), show (i + 1) * 4 + k - [Value.string r.1, .pointer (some ⟨r.2.1, r.2.2.1, none⟩), .int .i64 r.2.2.2.1, .int .i64 r.2.2.2.2].length = i * 4 + k by simp; omega]
  exact cellsS_at R i k (by simpa using hi) hk
def LetN (w wr : World) (C : Nat) (v : Value) (done : List (ByteArray × Nd)) (E : List LE) : Prop :=
 E.length = done.length ∧ wr.ownsRow C 128 4 v done.length (cellsS E) ∧ ∀ i (h : i < done.length) (h' : i < E.length), E[i].1 = done[i].1 ∧ NodeA w anyH E[i].2.1 E[i].2.2.1 done[i].2 ∧ E[i].2.2.2 = szA (envA (done.take i)) done[i].2
theorem LetN.nil (w wr : World) (C : Nat) : LetN w wr C (.slice none 0 0) [] [] := ⟨rfl, World.ownsRow_nil wr C _ 4, fun i h => absurd h (Nat.not_lt_zero _)⟩
theorem LetN.below {w wr wr' : World} {C : Nat} {v : Value} {done : List (ByteArray × Nd)} {E : List LE} (h : LetN w wr C v done E) (k : Below wr.heap.size wr wr') : LetN w wr' C v done E := by
 refine ⟨h.1, World.ownsRow.kept h.2.1 (row := none) ⟨k.os, k.tape, k.output, k.size, fun j hj _ => k.block j hj⟩ ?_, h.2.2⟩
 cases v.ownBlock <;> simp
theorem LetN.scope {w wr : World} {C : Nat} {v : Value} {done : List (ByteArray × Nd)} {E : List LE} (h : LetN w wr C v done E) (hb : Below w.heap.size w wr) : ∃ p c, v = .slice p done.length c ∧ done.length ≤ c ∧ ScopeA wr p done := by
 obtain ⟨hE, ⟨hl, ho⟩, hk⟩ := h
 rcases ho with ⟨hv, hn⟩ | ⟨g, cap, cur, hv, hB, hg, hc1, hc2, hsz, htk⟩
 ·have : done = [] := List.eq_nil_of_length_eq_zero hn
  subst this
  exact ⟨none, 0, hv, Nat.zero_le _, fun i h => absurd h (Nat.not_lt_zero _)⟩
 ·refine ⟨some ⟨g, 0, none⟩, cap, hv, hc1, fun i hi => ⟨g, rfl, ?_⟩⟩
  have hi' : i < E.length := by omega
  obtain ⟨k1, k2, k3⟩ := hk i hi hi'
  have key : ∀ k, k < 4 → wr.cell? ⟨g, i * 4 + k, none⟩ = [Value.string E[i].1, .pointer (some ⟨E[i].2.1, E[i].2.2.1, none⟩), .int .i64 E[i].2.2.2.1, .int .i64 E[i].2.2.2.2][k]? := fun k hk => by
   rw [← cellsS_at E i k hi' hk, ← htk, List.getElem?_take_of_lt (by omega)]
   simp [World.cell?, hg]
  have q0 := key 0 (by decide)
  have q1 := key 1 (by decide)
  have q2 := key 2 (by decide)
  have q3 := key 3 (by decide)
  rw [k1] at q0
  rw [k3] at q2 q3
  exact ⟨q0, ⟨_, _, q1, k2.below hb⟩, q2, q3⟩
theorem LetN.push {w wr w2 : World} {C : Nat} {v : Value} {done : List (ByteArray × Nd)} {E : List LE} (h : LetN w wr C v done E) {nm : ByteArray} {V : Nd} {b1 o1 g cap : Nat} {X Y : Int} (hV : NodeA w anyH b1 o1 V) (hz : szA (envA done) V = (X, Y))
  (hown : w2.ownsRow C 128 4 (.slice (some ⟨g, 0, none⟩) (done.length + 1) cap) (done.length + 1) (cellsS E ++ [.string nm, .pointer (some ⟨b1, o1, none⟩), .int .i64 X, .int .i64 Y])) :
  LetN w w2 C (.slice (some ⟨g, 0, none⟩) (done.length + 1) cap) (done ++ [(nm, V)]) (E ++ [(nm, b1, o1, X, Y)]) := by
 refine ⟨by simp [h.1], by rw [List.length_append, cellsS_snoc]; exact hown, fun i hi hi' => ?_⟩
 by_cases hlt : i < done.length
 ·have hlt' : i < E.length := by rw [h.1]; exact hlt
  rw [List.getElem_append_left hlt, List.getElem_append_left hlt', List.take_append_of_le_length (by omega)]
  exact h.2.2 i hlt hlt'
 ·have e1 : i = done.length := by simp at hi; omega
  subst e1
  have e2 : (E ++ [(nm, b1, o1, X, Y)])[done.length] = (nm, b1, o1, X, Y) := by rw [List.getElem_append_right (by rw [h.1]; exact Nat.le_refl _)]; simp
  have e3 : (done ++ [(nm, V)])[done.length] = (nm, V) := by rw [List.getElem_append_right (Nat.le_refl _)]; simp
  rw [e2, e3, List.take_append_of_le_length (Nat.le_refl _), List.take_length]
  exact ⟨rfl, hV, hz.symm⟩
theorem info_let : (Tryz.prog.info? 128).map (fun i => (i.zero, i.size, i.bytes)) = some (some (.agg #[.string ⟨#[]⟩, .pointer none, .int .i64 0, .int .i64 0]), 4, 40) := by kernel_rfl
set_option maxRecDepth 100000 in
set_option maxHeartbeats 2000000 in
theorem open_any (t : Nd) (b0 o0 : Nat) (w : World) (hc : cnt t ≤ 40000) (hok : LetOK (dep t) t) (hdw : ∀ k (h : k < (letsA t).1.length), dep (wrN (envA ((letsA t).1.take k)) (letsA t).1[k].2) ≤ 40000) (hn : NodeA w anyH b0 o0 t) :
  Calls Tryz.prog 43 #[.pointer (some ⟨b0, o0, none⟩)] w fun e w' => ∃ p c b o, e = .returned (.tuple #[.slice p (letsA t).1.length c, .pointer (some ⟨b, o, none⟩)]) ∧ (letsA t).1.length ≤ c ∧ ScopeA w' p (letsA t).1 ∧ NodeA w' anyH b o (letsA t).2 ∧ Below w.heap.size w w' := by
 have HDW : Hid (∀ k (h : k < (letsA t).1.length), dep (wrN (envA ((letsA t).1.take k)) (letsA t).1[k].2) ≤ 40000) := hdw
 have HST : Hid (NodeA w anyH b0 o0 t ∧ cnt t ≤ 40000 ∧ LetOK (dep t) t) := ⟨hn, hc, hok⟩
 obtain ⟨i0, hi0, hz0, hz1, hz2⟩ := info_parts info_let
 clear hdw hn hc hok
 go_enter Tryz.func43, Tryz.ntmps43
 go_wp2
 go_loopw [0, 4] (fun pv sv wr => ∃ (b o : Nat) (ov : Value) (k d : Nat), pv = .pointer (some ⟨b, o, none⟩) ∧ ov = sv ∧ wr.heap.size = d ∧ k ≤ 40000 ∧ Hid (∃ (u : Nd) (done : List (ByteArray × Nd)) (E : List LE), Below w.heap.size w wr ∧ NodeA w anyH b o u ∧ cnt u + k ≤ 40000 ∧ LetOK (dep u) u ∧ LetN w wr w.heap.size ov done E ∧ done.length = k ∧ (letsA t).1 = done ++ (letsA u).1 ∧ (letsA t).2 = (letsA u).2)) (fun pv sv wr => 40000 - (match sv with | .slice _ n _ => n | _ => 0))
 case atStart => exact ⟨b0, o0, _, 0, _, rfl, rfl, rfl, Nat.zero_le _, t, [], [], Below.refl _ _, HST.out.1, by have := HST.out.2.1; omega, HST.out.2.2, LetN.nil _ _ _, rfl, rfl, rfl⟩
 case round =>
  obtain ⟨b, o, sv, k, d, rfl, rfl, hd, hk4, HS⟩ := hrel
  obtain ⟨u, done, E, hb, hnu, hcu, hlo, hln, hdk, hl1, hl2⟩ := HS.out
  clear HS HST hd
  have HB : Hid (Below w.heap.size w wr) := hb
  have hnr := hnu.below hb
  have HNU : Hid (NodeA w anyH b o u) := hnu
  have HL : Hid ((letsA t).1 = done ++ (letsA u).1 ∧ (letsA t).2 = (letsA u).2) := ⟨hl1, hl2⟩
  have HDK : Hid (done.length = k) := hdk
  have HR : Hid (LetN w wr w.heap.size sv done E) := hln
  obtain ⟨ps, cs, rfl, hkc, hsc⟩ := hln.scope hb
  rw [hdk] at HR ⊢
  by_cases hk6 : u.kind = 6
  ·obtain ⟨d0, hd0⟩ : ∃ d, dep u = d + 1 := ⟨depL u.args, rfl⟩
   rw [hd0] at hlo
   obtain ⟨h2, hlo2⟩ := hlo hk6
   obtain ⟨s1, s2, s3⟩ := lets_step hk6 h2
   have c0 : ix u.args 0 = u.args[0] := ix_get (by omega)
   have c1 : ix u.args 1 = u.args[1] := ix_get (by omega)
   obtain ⟨x0, x1, -, -, -, -, sv5, x5, hkids⟩ := hnr
   obtain ⟨-, -, -, -, -, -, sv5', y5, hkids'⟩ := hnu
   have e5 : sv5 = sv5' := by have := (hb.cell (mcell_lt y5)).trans y5; rw [x5] at this; exact Option.some.inj this
   subst e5
   obtain ⟨q, c5, rfl, -, hka⟩ := hkids'
   rw [h2] at x5 y5
   have HX5 : Hid (w.cell? ⟨b, o + 5, none⟩ = some (.slice q 2 c5)) := y5
   obtain ⟨b1, o1, rfl, hkb⟩ : ∃ b1 o1, q = some ⟨b1, o1, none⟩ ∧ KA w anyH b1 o1 u.args := by
    rcases hka with e | e
    ·rw [e] at h2; cases h2
    ·exact e
   have hV := KA_get hkb (i := 0) (by omega)
   have hU := KA_get hkb (i := 1) (by omega)
   rw [Nat.zero_mul, Nat.add_zero] at hV
   rw [Nat.one_mul] at hU
   rw [← c0] at hV
   rw [← c1] at hU
   obtain ⟨V, hVV⟩ : ∃ V, ix u.args 0 = V := ⟨_, rfl⟩
   obtain ⟨u', hUU⟩ : ∃ u', ix u.args 1 = u' := ⟨_, rfl⟩
   obtain ⟨nm, hnm⟩ : ∃ nm, u.name = nm := ⟨_, rfl⟩
   have hcc : cnt V + cnt u' + 1 ≤ cnt u := by
    rw [← hVV, ← hUU, c0, c1]
    obtain ⟨x, y, he⟩ : ∃ x y, u.args = [x, y] := by
     match ha : u.args, h2 with
     | [x, y], _ => exact ⟨x, y, rfl⟩
    unfold cnt
    simp only [he, cntL_cons, cntL_nil, List.getElem_cons_zero, List.getElem_cons_succ]
    unfold cnt
    omega
   have hdu : dep u' < dep u := by rw [← hUU]; exact s3
   rw [hVV] at s1 hV
   rw [hUU] at s1 s2 hU hlo2
   rw [hnm] at s1 x1
   have HX1 : Hid (w.cell? ⟨b, o + 1, none⟩ = some (.string nm)) := by have := HNU.out.2.1; rw [hnm] at this; exact this
   have hlen : done.length < (letsA t).1.length := by rw [HL.out.1, s1]; simp
   have hdV : dep (wrN (envA done) V) ≤ 40000 := by
    have := HDW.out done.length hlen
    simp only [HL.out.1, s1, List.take_append_of_le_length (Nat.le_refl _), List.take_length, List.getElem_append_right (Nat.le_refl _), Nat.sub_self, List.getElem_cons_zero] at this
    exact this
   obtain ⟨X, hX⟩ : ∃ X, (szA (envA done) V).1 = X := ⟨_, rfl⟩
   obtain ⟨Y, hY⟩ : ∃ Y, (szA (envA done) V).2 = Y := ⟨_, rfl⟩
   have HMS : Hid (∀ x, Below wr.heap.size wr x → Calls Tryz.prog 44 #[.slice ps k cs, .pointer (some ⟨b1, o1, none⟩)] x fun e w' => e = .returned (.agg #[.int .i64 X, .int .i64 Y]) ∧ Below x.heap.size x w') := fun x hx => by
    have := ms_to done (by omega) (dep V) V b1 o1 ps cs x (Nat.le_refl _) (by omega) hdV (hsc.below hx) (hV.below (bel hb hx))
    rw [hX, hY, hdk] at this
    exact this
   have HPU : Hid (∀ (w3 w4 : World) (g cap : Nat), Below wr.heap.size wr w3 → LetN w w3 w.heap.size (.slice ps k cs) done E → w4.ownsRow w.heap.size 128 4 (.slice (some ⟨g, 0, none⟩) (k + 1) cap) (k + 1) (cellsS E ++ [.string nm, .pointer (some ⟨b1, o1, none⟩), .int .i64 X, .int .i64 Y]) → (w3.alloc (.cells #[.string nm, .pointer (some ⟨b1, o1, none⟩), .int .i64 X, .int .i64 Y] 128)).grownBy w4 (Value.slice ps k cs).ownBlock → Below w.heap.size w w4 ∧ LetN w w4 w.heap.size (.slice (some ⟨g, 0, none⟩) (k + 1) cap) (done ++ [(nm, V)]) (E ++ [(nm, b1, o1, X, Y)])) := fun w3 w4 g cap hb3 hl3 hown hg => by
    have hbw : Below w.heap.size w w3 := bel hb hb3
    refine ⟨Below.grown (bel hbw (bel_alloc _ _)) hg (by simp; have := hbw.size; omega) (fun j hj => (hl3.2.1.lt j hj).1), ?_⟩
    have := hl3.push (nm := nm) (V := V) (b1 := b1) (o1 := o1) (g := g) (cap := cap) (X := X) (Y := Y) (w2 := w4) hV (by rw [← hX, ← hY]) (by rw [hdk]; exact hown)
    rw [hdk] at this
    exact this
   have HNX : Hid ((letsA t).1 = (done ++ [(nm, V)]) ++ (letsA u').1 ∧ (letsA t).2 = (letsA u').2 ∧ cnt u' + (k + 1) ≤ 40000 ∧ LetOK (dep u') u' ∧ NodeA w anyH b1 (o1 + 7) u') := by
    refine ⟨by rw [HL.out.1, s1, List.append_assoc]; rfl, HL.out.2.trans s2, by omega, ?_, hU⟩
    have mono : ∀ (m n : Nat) (x : Nd), m ≤ n → LetOK n x → LetOK m x := by
     intro m
     induction m with
     | zero => intro n x _ _; trivial
     | succ m ih =>
      intro n x hmn hx
      cases n with
      | zero => omega
      | succ n => exact fun hk => ⟨(hx hk).1, ih n _ (by omega) (hx hk).2⟩
    exact mono _ _ _ (by omega) hlo2
   rw [hk6] at x0
   obtain ⟨sv, hsv⟩ : ∃ sv, Value.slice ps k cs = sv := ⟨_, rfl⟩
   rw [hsv] at HR HPU HMS
   have HSV : Hid (Value.slice ps k cs = sv) := hsv
   clear hnm hVV hUU hcc hdu s1 s2 s3 hlen hdV hX hY hsc hln hV hU hka hkb hkids hd0 hlo hlo2 c0 c1 hl1 hl2 hdk hcu hb y5 hk6 h2 HNU HL HDW
   go_upto_region 4 with fail
   rw [hsv]
   clear hsv x0 x5
   refine wp_region_held_drew (S := (fun x => x.cell? ⟨b, o + 1, none⟩ = some (.string nm))) (by kernel_rfl) ?_ (fun hHeld => ?_)
   ·((try dsimp only); first | assumption | exact x1 | exact m1 | exact ((bel_alloc _ _).cell (mcell_lt m1)).trans m1 | exact m4)
   refine wpAnyH_take (i := 0) (v := ?_) (by simp only [List.getElem?_toArray, List.getElem?_cons_succ, List.getElem?_cons_zero]; rfl) (by kernel_rfl) (by kernel_rfl) (by kernel_rfl) (by exact fun _ _ _ h => h) (Or.inl ⟨by rfl, ?_⟩) (by assumption) ?_
   rotate_left 1
   ·(intro wS hSw; (try dsimp only at hSw); go_simp; try (with_reducible rfl))
   try simp only [Act.put, List.setIfInBounds_toArray, List.set_cons_zero, List.set_cons_succ]
   refine wpAnyH_take (i := 1) (v := ?_) (by simp only [List.getElem?_toArray, List.getElem?_cons_succ, List.getElem?_cons_zero]; rfl) (by kernel_rfl) (by kernel_rfl) (by kernel_rfl) (by exact fun _ _ _ h => h) (Or.inl ⟨by rfl, ?_⟩) (by assumption) ?_
   rotate_left 1
   ·(intro wS hSw; (try dsimp only at hSw); go_simp; try (with_reducible rfl))
   try simp only [Act.put, List.setIfInBounds_toArray, List.set_cons_zero, List.set_cons_succ]
   refine wpAnyH_take (i := 2) (v := ?_) (by simp only [List.getElem?_toArray, List.getElem?_cons_succ, List.getElem?_cons_zero]; rfl) (by kernel_rfl) (by kernel_rfl) (by kernel_rfl) (by exact fun _ _ _ h => h) (Or.inl ⟨by rfl, ?_⟩) (by assumption) ?_
   rotate_left 1
   ·(intro wS hSw; (try dsimp only at hSw); go_simp; try (with_reducible rfl))
   try simp only [Act.put, List.setIfInBounds_toArray, List.set_cons_zero, List.set_cons_succ]
   refine wpAnyH_take (i := 3) (v := ?_) (by simp only [List.getElem?_toArray, List.getElem?_cons_succ, List.getElem?_cons_zero]; rfl) (by kernel_rfl) (by kernel_rfl) (by kernel_rfl) (by exact fun _ _ _ h => h) (Or.inl ⟨by rfl, ?_⟩) (by assumption) ?_
   rotate_left 1
   ·(intro wS hSw; (try dsimp only at hSw); go_simp; try (with_reducible rfl))
   try simp only [Act.put, List.setIfInBounds_toArray, List.set_cons_zero, List.set_cons_succ]
   refine wpAnyH_take (i := 4) (v := ?_) (by simp only [List.getElem?_toArray, List.getElem?_cons_succ, List.getElem?_cons_zero]; rfl) (by kernel_rfl) (by kernel_rfl) (by kernel_rfl) (by exact fun _ _ _ h => h) (Or.inl ⟨by rfl, ?_⟩) (by assumption) ?_
   rotate_left 1
   ·(intro wS hSw; (try dsimp only at hSw); go_simp; try (with_reducible rfl))
   try simp only [Act.put, List.setIfInBounds_toArray, List.set_cons_zero, List.set_cons_succ]
   refine wpAnyH_take (i := 5) (v := ?_) (by simp only [List.getElem?_toArray, List.getElem?_cons_succ, List.getElem?_cons_zero]; rfl) (by kernel_rfl) (by kernel_rfl) (by kernel_rfl) (by exact fun _ _ _ h => h) (Or.inl ⟨by rfl, ?_⟩) (by assumption) ?_
   rotate_left 1
   ·(intro wS hSw; (try dsimp only at hSw); go_simp; try (with_reducible rfl))
   try simp only [Act.put, List.setIfInBounds_toArray, List.set_cons_zero, List.set_cons_succ]
   refine wpAnyH_take (i := 6) (v := ?_) (by simp only [List.getElem?_toArray, List.getElem?_cons_succ, List.getElem?_cons_zero]; rfl) (by kernel_rfl) (by kernel_rfl) (by kernel_rfl) (by exact fun _ _ _ h => h) (Or.inl ⟨by rfl, ?_⟩) (by assumption) ?_
   rotate_left 1
   ·(intro wS hSw; (try dsimp only at hSw); go_simp; try (with_reducible rfl))
   try simp only [Act.put, List.setIfInBounds_toArray, List.set_cons_zero, List.set_cons_succ]
   refine wpAnyH_take (i := 7) (v := ?_) (by simp only [List.getElem?_toArray, List.getElem?_cons_succ, List.getElem?_cons_zero]; rfl) (by kernel_rfl) (by kernel_rfl) (by kernel_rfl) (by exact fun _ _ _ h => h) (Or.inl ⟨by rfl, ?_⟩) (by assumption) ?_
   rotate_left 1
   ·(intro wS hSw; (try dsimp only at hSw); go_simp; try (with_reducible rfl))
   try simp only [Act.put, List.setIfInBounds_toArray, List.set_cons_zero, List.set_cons_succ]
   clear hHeld
   refine wpAnyH_ready (rs := [8]) (by kernel_rfl) (by simp) ?_
   refine AllReadyH.cons (i := 8) (by simp only [List.getElem?_toArray, List.getElem?_cons_succ, List.getElem?_cons_zero]; rfl) (fun K hK => ?_) AllReadyH.nil
   go_simp
   (go_at_call 44; (with_reducible refine (HMS.out _ (bel_d _)).mono ?_); rintro e w3 ⟨rfl, hb3⟩; have hb3' := bel (bel_d wr) hb3; have m1 := (hb3'.cell (mcell_lt x1)).trans x1; have HR3 : Hid (LetN w w3 w.heap.size sv done E) := HR.out.below hb3'; have HB3 : Hid (Below wr.heap.size wr w3) := hb3'; have HZ3 : Hid (w.heap.size ≤ w3.heap.size) := (Nat.le_trans HB.out.size hb3'.size); clear hb3 hb3')
   try (go_wp2_with fail)
   refine hK.out _ _ ?_ (fun hHeld => ?_)
   ·((try dsimp only); first | assumption | exact x1 | exact m1 | exact ((bel_alloc _ _).cell (mcell_lt m1)).trans m1 | exact m4)
   clear hK K
   try simp only [Act.put, List.setIfInBounds_toArray, List.set_cons_zero, List.set_cons_succ]
   refine wpAnyH_take (i := 9) (v := ?_) (by simp only [List.getElem?_toArray, List.getElem?_cons_succ, List.getElem?_cons_zero]; rfl) (by kernel_rfl) (by kernel_rfl) (by kernel_rfl) (by exact fun _ _ _ h => h) (Or.inl ⟨by rfl, ?_⟩) (by assumption) ?_
   rotate_left 1
   ·(intro wS hSw; (try dsimp only at hSw); go_simp; try (with_reducible rfl))
   try simp only [Act.put, List.setIfInBounds_toArray, List.set_cons_zero, List.set_cons_succ]
   clear hHeld
   refine wpAnyH_ready (rs := [10]) (by kernel_rfl) (by simp) ?_
   refine AllReadyH.cons (i := 10) (by simp only [List.getElem?_toArray, List.getElem?_cons_succ, List.getElem?_cons_zero]; rfl) (fun K hK => ?_) AllReadyH.nil
   go_simp
   refine hK.out _ _ ?_ (fun hHeld => ?_)
   ·((try dsimp only); first | assumption | exact x1 | exact m1 | exact ((bel_alloc _ _).cell (mcell_lt m1)).trans m1 | exact m4)
   clear hK K
   try simp only [Act.put, List.setIfInBounds_toArray, List.set_cons_zero, List.set_cons_succ]
   clear hHeld
   refine wpAnyH_ready (rs := [11]) (by kernel_rfl) (by simp) ?_
   refine AllReadyH.cons (i := 11) (by simp only [List.getElem?_toArray, List.getElem?_cons_succ, List.getElem?_cons_zero]; rfl) (fun K hK => ?_) AllReadyH.nil
   refine step_append_lies _ rfl _ _ 80 rfl w.heap.size 128 i0 _ 4 40 Tryz.underlying80 hi0 hz0 hz1 hz2 rfl (by decide) sv k (cellsS E) rfl (World.ownsRow.alloc (show w3.ownsRow w.heap.size 128 4 sv k (cellsS E) from by have := HR3.out.2.1; rw [HDK.out] at this; exact this) _) ⟨w3.heap.size, 0, none⟩ 1 1 [.string nm, .pointer (some ⟨b1, o1, none⟩), .int .i64 X, .int .i64 Y] rfl rfl (World.news_of_block (cs := #[.string nm, .pointer (some ⟨b1, o1, none⟩), .int .i64 X, .int .i64 Y]) (t := 128) (fr := (0, 0)) (box_heapA w3 _)) (by simp [Value.oneCell']) (by decide) (by unfold maxLen; omega) (by omega) (by simp; have := HZ3.out; omega) (w3.heap.size + 1) (by simp) ?_
   intro g cap w4 hown4 hg4 hat4 hlt4
   have HF4 : Hid (Below w.heap.size w w4 ∧ LetN w w4 w.heap.size (.slice (some ⟨g, 0, none⟩) (k + 1) cap) (done ++ [(nm, V)]) (E ++ [(nm, b1, o1, X, Y)])) := HPU.out w3 w4 g cap HB3.out HR3.out hown4 hg4
   have m4 : w4.cell? ⟨b, o + 1, none⟩ = some (.string nm) := (HF4.out.1.cell (mcell_lt HX1.out)).trans HX1.out
   clear hown4 hg4 hat4
   refine hK.out _ _ ?_ (fun hHeld => ?_)
   ·((try dsimp only); first | assumption | exact x1 | exact m1 | exact ((bel_alloc _ _).cell (mcell_lt m1)).trans m1 | exact m4)
   clear hK K
   try simp only [Act.put, List.setIfInBounds_toArray, List.set_cons_zero, List.set_cons_succ]
   refine wpAnyH_take (i := 12) (v := ?_) (by simp only [List.getElem?_toArray, List.getElem?_cons_succ, List.getElem?_cons_zero]; rfl) (by kernel_rfl) (by kernel_rfl) (by kernel_rfl) (by exact fun _ _ _ h => h) (Or.inl ⟨by rfl, ?_⟩) (by assumption) ?_
   rotate_left 1
   ·(intro wS hSw; (try dsimp only at hSw); go_simp; try (with_reducible rfl))
   try simp only [Act.put, List.setIfInBounds_toArray, List.set_cons_zero, List.set_cons_succ]
   refine wpAnyH_done (by kernel_rfl) ?_ _
   skip
   have m5 := (HF4.out.1.cell (mcell_lt HX5.out)).trans HX5.out
   clear HMS HPU HR HX1
   go_wp2
   go_roundw
   case rel => exact ⟨b1, o1 + 7, _, k + 1, _, rfl, rfl, rfl, by have := HNX.out.2.2.1; omega, u', _, _, HF4.out.1, HNX.out.2.2.2.2, HNX.out.2.2.1, HNX.out.2.2.2.1, HF4.out.2, by rw [List.length_append, HDK.out]; rfl, HNX.out.1, HNX.out.2.1⟩
   case measure => have := HNX.out.2.2.1; show 40000 - (k + 1) < 40000 - k; omega
  ·have hk7 : (u.kind == 6) = false := by simpa using hk6
   obtain ⟨x0, -⟩ := id hnr
   have he := lets_end hk6
   have HF : Hid ((letsA t).1.length = k ∧ k ≤ cs ∧ ScopeA wr ps (letsA t).1 ∧ NodeA wr anyH b o (letsA t).2) := by
    rw [he] at hl1 hl2
    simp only [List.append_nil] at hl1 hl2
    rw [hl1, hl2]
    exact ⟨hdk, by rw [← hdk]; exact hkc, hsc, hnr⟩
   clear hnr hnu hlo hln hdk hl1 hl2 hsc hb HNU HL HR HDW hcu he
   go_wp2
   refine bodyPost_ret (by simp [results, Tryz.results43, go_sem, *]; try rfl) rfl ?_
   exact ⟨ps, cs, b, o, by rw [HF.out.1], by rw [HF.out.1]; exact HF.out.2.1, HF.out.2.2.1, HF.out.2.2.2, HB.out⟩
end Go.Proofs.YtmiidhgbdecdkaaGreat
namespace Go.Proofs.YtmiidhgbdecdkaaGreat
open Go.RowKit
set_option linter.unusedVariables false
set_option linter.unusedSimpArgs false
abbrev Blk := Nat → Prop
def OT (w : World) : List Nd → Nat → Nat → Blk → Prop
 | [], b, o, S => True
 | ⟨k, n, x, i, y, l, a⟩ :: r, b, o, S =>
  ∃ S1 S2 : Blk, (∀ j, S1 j → S j) ∧ (∀ j, S2 j → S j) ∧ (∀ j, S1 j → S2 j → False) ∧
  ((w.cell? ⟨b, o, none⟩ = some (.int .i64 k) ∧ w.cell? ⟨b, o + 1, none⟩ = some (.string n) ∧ w.cell? ⟨b, o + 2, none⟩ = some (.int .u32 x) ∧ w.cell? ⟨b, o + 3, none⟩ = some (.int .i64 i)
   ∧ w.cell? ⟨b, o + 4, none⟩ = some (.string y) ∧ w.cell? ⟨b, o + 6, none⟩ = some (.int .i64 a)
   ∧ ∃ v, w.cell? ⟨b, o + 5, none⟩ = some v ∧ ∃ p c, v = .slice p l.length c ∧ ((l = [] ∧ p = none ∧ c = 0) ∨ ∃ b' cs, p = some ⟨b', 0, none⟩ ∧ S1 b' ∧ w.heap[b']? = some (.cells cs 29) ∧ l ≠ [] ∧ l.length ≤ c ∧ OT w l b' 0 (fun j => S1 j ∧ j ≠ b')))
  ∧ OT w r b (o + 7) S2)
def Ow (w : World) (v : Value) (l : List Nd) (S : Blk) : Prop :=
 ∃ p c, v = .slice p l.length c ∧ ((l = [] ∧ p = none ∧ c = 0) ∨ ∃ b' cs, p = some ⟨b', 0, none⟩ ∧ S b' ∧ w.heap[b']? = some (.cells cs 29) ∧ l ≠ [] ∧ l.length ≤ c ∧ OT w l b' 0 (fun j => S j ∧ j ≠ b'))
def NO (w : World) (b o : Nat) (t : Nd) (S : Blk) : Prop :=
 w.cell? ⟨b, o, none⟩ = some (.int .i64 t.kind) ∧ w.cell? ⟨b, o + 1, none⟩ = some (.string t.name) ∧ w.cell? ⟨b, o + 2, none⟩ = some (.int .u32 t.num) ∧ w.cell? ⟨b, o + 3, none⟩ = some (.int .i64 t.int_)
  ∧ w.cell? ⟨b, o + 4, none⟩ = some (.string t.key) ∧ w.cell? ⟨b, o + 6, none⟩ = some (.int .i64 t.at_) ∧ ∃ sv, w.cell? ⟨b, o + 5, none⟩ = some sv ∧ Ow w sv t.args S
theorem OT_nil {w : World} {b o : Nat} {S : Blk} : OT w [] b o S := by simp [OT]
theorem OT_cons {w : World} {t : Nd} {r : List Nd} {b o : Nat} {S : Blk} : OT w (t :: r) b o S ↔ ∃ S1 S2 : Blk, (∀ j, S1 j → S j) ∧ (∀ j, S2 j → S j) ∧ (∀ j, S1 j → S2 j → False) ∧ NO w b o t S1 ∧ OT w r b (o + 7) S2 := by
 cases t
 rw [OT]
 rfl
theorem OT.sub {w : World} : ∀ (l : List Nd) {b o : Nat} {S S' : Blk}, OT w l b o S → (∀ j, S j → S' j) → OT w l b o S'
 | [], b, o, S, S', _, _ => OT_nil
 | t :: r, b, o, S, S', h, hs => by
  obtain ⟨S1, S2, h1, h2, h3, h4, h5⟩ := OT_cons.1 h
  exact OT_cons.2 ⟨S1, S2, fun j k => hs j (h1 j k), fun j k => hs j (h2 j k), h3, h4, h5⟩
theorem OT_keep {w w' : World} : ∀ (l : List Nd) (b o : Nat) (S : Blk), (∀ j, S j → w'.heap[j]? = w.heap[j]?) → (∀ j, j < l.length * 7 → w'.cell? ⟨b, o + j, none⟩ = w.cell? ⟨b, o + j, none⟩) → OT w l b o S → OT w' l b o S := by
 apply forest (P := fun l => ∀ (b o : Nat) (S : Blk), (∀ j, S j → w'.heap[j]? = w.heap[j]?) → (∀ j, j < l.length * 7 → w'.cell? ⟨b, o + j, none⟩ = w.cell? ⟨b, o + j, none⟩) → OT w l b o S → OT w' l b o S)
 ·intro b o S _ _ _
  exact OT_nil
 ·intro t r h1 h2 b o S hb hc h
  obtain ⟨S1, S2, s1, s2, s3, ⟨e0, e1, e2, e3, e4, e6, sv, e5, hk⟩, hr⟩ := OT_cons.1 h
  have len : (t :: r).length * 7 = r.length * 7 + 7 := by simp; omega
  refine OT_cons.2 ⟨S1, S2, s1, s2, s3, ⟨(hc 0 (by omega)).trans e0, (hc 1 (by omega)).trans e1, (hc 2 (by omega)).trans e2, (hc 3 (by omega)).trans e3, (hc 4 (by omega)).trans e4, (hc 6 (by omega)).trans e6, sv, (hc 5 (by omega)).trans e5, ?_⟩, h2 b (o + 7) S2 (fun j k => hb j (s2 j k)) (fun j k => ?_) hr⟩
  ·obtain ⟨p, c, rfl, h | ⟨b', cs, g1, g2, g3, g4, g5⟩⟩ := hk
   ·exact ⟨p, c, rfl, .inl h⟩
   ·have hblk := hb b' (s1 _ g2)
    exact ⟨p, c, rfl, .inr ⟨b', cs, g1, g2, by rw [hblk]; exact g3, g4, g5.1, h1 b' 0 _ (fun j k => hb j (s1 j k.1)) (fun j _ => World.cell?_of_block (w := w) (a := ⟨b', 0 + j, none⟩) hblk) g5.2⟩⟩
  ·have := hc (j + 7) (by omega)
   rw [show o + (j + 7) = o + 7 + j by omega] at this
   exact this
theorem Ow.keep {w w' : World} {v : Value} {l : List Nd} {S : Blk} (h : Ow w v l S) (hb : ∀ j, S j → w'.heap[j]? = w.heap[j]?) : Ow w' v l S := by
 obtain ⟨p, c, rfl, h | ⟨b', cs, g1, g2, g3, g4, g5⟩⟩ := h
 ·exact ⟨p, c, rfl, .inl h⟩
 ·have hblk := hb b' g2
  exact ⟨p, c, rfl, .inr ⟨b', cs, g1, g2, by rw [hblk]; exact g3, g4, g5.1, OT_keep l b' 0 _ (fun j k => hb j k.1) (fun j _ => World.cell?_of_block (w := w) (a := ⟨b', 0 + j, none⟩) hblk) g5.2⟩⟩
theorem NO.keep {w w' : World} {b o : Nat} {t : Nd} {S : Blk} (h : NO w b o t S) (hb : ∀ j, S j → w'.heap[j]? = w.heap[j]?) (hc : ∀ j, j < 7 → w'.cell? ⟨b, o + j, none⟩ = w.cell? ⟨b, o + j, none⟩) : NO w' b o t S := by
 obtain ⟨e0, e1, e2, e3, e4, e6, sv, e5, hk⟩ := h
 exact ⟨(hc 0 (by omega)).trans e0, (hc 1 (by omega)).trans e1, (hc 2 (by omega)).trans e2, (hc 3 (by omega)).trans e3, (hc 4 (by omega)).trans e4, (hc 6 (by omega)).trans e6, sv, (hc 5 (by omega)).trans e5, hk.keep hb⟩
theorem OT_of {w : World} : ∀ (l : List Nd) (b o : Nat) (S : Blk) (F : Nat → Blk), (∀ i j x, i ≠ j → F i x → F j x → False) → (∀ i x, F i x → S x) → (∀ i (h : i < l.length), NO w b (o + i * 7) l[i] (F i)) → OT w l b o S
 | [], b, o, S, F, _, _, _ => OT_nil
 | t :: r, b, o, S, F, hd, hs, h => by
  refine OT_cons.2 ⟨F 0, fun x => ∃ i, F (i + 1) x, hs 0, fun x ⟨i, hi⟩ => hs _ x hi, fun x h0 ⟨i, hi⟩ => hd 0 (i + 1) x (by omega) h0 hi, ?_, OT_of r b (o + 7) _ (fun i => F (i + 1)) (fun i j x hij => hd _ _ x (by omega)) (fun i x hx => ⟨i, hx⟩) fun i hi => ?_⟩
  ·have h0 := h 0 (by simp)
   rw [Nat.zero_mul, Nat.add_zero] at h0
   exact h0
  ·have := h (i + 1) (by simpa using hi)
   rw [show o + (i + 1) * 7 = o + 7 + i * 7 by omega] at this
   exact this
theorem OT_at {w : World} : ∀ (l : List Nd) (b o : Nat) (S : Blk), OT w l b o S → ∃ F : Nat → Blk, (∀ i j x, i ≠ j → F i x → F j x → False) ∧ (∀ i x, F i x → S x) ∧ ∀ i (h : i < l.length), NO w b (o + i * 7) l[i] (F i)
 | [], b, o, S, _ => ⟨fun _ _ => False, fun _ _ _ _ h => h.elim, fun _ _ h => h.elim, fun i h => absurd h (Nat.not_lt_zero _)⟩
 | t :: r, b, o, S, h => by
  obtain ⟨S1, S2, s1, s2, s3, hn, hr⟩ := OT_cons.1 h
  obtain ⟨F, f1, f2, f3⟩ := OT_at r b (o + 7) S2 hr
  refine ⟨fun i => match i with | 0 => S1 | i + 1 => F i, ?_, ?_, ?_⟩
  ·intro i j x hij hi hj
   match i, j with
   | 0, 0 => exact hij rfl
   | 0, j + 1 => exact s3 x hi (f2 j x hj)
   | i + 1, 0 => exact s3 x hj (f2 i x hi)
   | i + 1, j + 1 => exact f1 i j x (by omega) hi hj
  ·intro i x hi
   match i with
   | 0 => exact s1 x hi
   | i + 1 => exact s2 x (f2 i x hi)
  ·intro i hi
   match i with
   | 0 => rw [Nat.zero_mul, Nat.add_zero]; exact hn
   | i + 1 =>
    have := f3 i (by simpa using hi)
    rw [show o + 7 + i * 7 = o + (i + 1) * 7 by omega] at this
    exact this
def inH (S : Blk) : Heads := fun p n c => (p = none ∧ n = 0 ∧ c = 0) ∨ ∃ b, p = some ⟨b, 0, none⟩ ∧ (n = 0 ∨ S b) ∧ n ≤ c
theorem inH.sub {S S' : Blk} (h : ∀ j, S j → S' j) (p : Option Addr) (n c : Nat) : inH S p n c → inH S' p n c := by
 rintro (h1 | ⟨b, h1, h2⟩)
 ·exact .inl h1
 ·exact .inr ⟨b, h1, h2.1.imp id (h _), h2.2⟩
theorem KA_keepN {w w' : World} {Q : Heads} (hQ : ∀ p n c b o j v, 0 < n → Q p n c → p = some ⟨b, o, none⟩ → w.cell? ⟨b, o + j, none⟩ = some v → w'.cell? ⟨b, o + j, none⟩ = some v) :
  ∀ (l : List Nd) (b o : Nat), (∀ j v, w.cell? ⟨b, o + j, none⟩ = some v → w'.cell? ⟨b, o + j, none⟩ = some v) → KA w Q b o l → KA w' Q b o l := by
 apply forest (P := fun l => ∀ (b o : Nat), (∀ j v, w.cell? ⟨b, o + j, none⟩ = some v → w'.cell? ⟨b, o + j, none⟩ = some v) → KA w Q b o l → KA w' Q b o l)
 ·intro b o _ _
  exact KA_nil _ _ _ _
 ·intro t r h1 h2 b o hc h
  rw [KA_cons] at h ⊢
  obtain ⟨⟨e0, e1, e2, e3, e4, e6, sv, e5, p, c, hv, hq, hk⟩, hr⟩ := h
  refine ⟨⟨hc 0 _ e0, hc 1 _ e1, hc 2 _ e2, hc 3 _ e3, hc 4 _ e4, hc 6 _ e6, sv, hc 5 _ e5, p, c, hv, hq, ?_⟩, h2 b (o + 7) (fun j v hj => ?_) hr⟩
  ·by_cases h0 : t.args = []
   ·exact .inl h0
   ·rcases hk with hk | ⟨b', o', hp, hk⟩
    ·exact .inl hk
    ·exact .inr ⟨b', o', hp, h1 b' o' (fun j v hj => hQ p _ c b' o' j v (List.length_pos_iff.2 h0) hq hp hj) hk⟩
  ·rw [Nat.add_assoc] at hj ⊢
   exact hc (7 + j) v hj
theorem Kids.keepN {w w' : World} {Q : Heads} {v : Value} {l : List Nd} (h : Kids w Q v l) (hQ : ∀ p n c b o j v, 0 < n → Q p n c → p = some ⟨b, o, none⟩ → w.cell? ⟨b, o + j, none⟩ = some v → w'.cell? ⟨b, o + j, none⟩ = some v) : Kids w' Q v l := by
 obtain ⟨p, c, hv, hq, hk⟩ := h
 refine ⟨p, c, hv, hq, ?_⟩
 by_cases h0 : l = []
 ·exact .inl h0
 ·rcases hk with hk | ⟨b', o', hp, hk⟩
  ·exact .inl hk
  ·exact .inr ⟨b', o', hp, KA_keepN hQ _ b' o' (fun j v hj => hQ p _ c b' o' j v (List.length_pos_iff.2 h0) hq hp hj) hk⟩
theorem Kids.inKeepLt {w w' : World} {S : Blk} {v : Value} {l : List Nd} (h : Kids w (inH S) v l) (hb : ∀ j, j < w.heap.size → S j → w'.heap[j]? = w.heap[j]?) : Kids w' (inH S) v l :=
 h.keepN fun p n c b o j v hn hq hp hj => by
  rcases hq with ⟨rfl, -⟩ | ⟨b2, rfl, hS, -⟩
  ·cases hp
  ·simp only [Option.some.injEq, Addr.mk.injEq] at hp
   obtain ⟨rfl, -, -⟩ := hp
   rcases hS with hS | hS
   ·omega
   ·rw [World.cell?_of_block (w := w) (a := ⟨b2, o + j, none⟩) (hb b2 (mcell_lt hj) hS)]
    exact hj
theorem Kids.inKeep {w w' : World} {S : Blk} {v : Value} {l : List Nd} (h : Kids w (inH S) v l) (hb : ∀ j, S j → w'.heap[j]? = w.heap[j]?) : Kids w' (inH S) v l := h.inKeepLt fun j _ => hb j
theorem KA_bound {w : World} {S : Blk} : ∀ (l : List Nd) (b o : Nat), KA w (inH S) b o l → KA w (inH fun j => S j ∧ j < w.heap.size) b o l := by
 apply forest (P := fun l => ∀ (b o : Nat), KA w (inH S) b o l → KA w (inH fun j => S j ∧ j < w.heap.size) b o l)
 ·intro b o _
  exact KA_nil _ _ _ _
 ·intro t r h1 h2 b o h
  rw [KA_cons] at h ⊢
  obtain ⟨⟨e0, e1, e2, e3, e4, e6, sv, e5, p, c, hv, hq, hk⟩, hr⟩ := h
  refine ⟨⟨e0, e1, e2, e3, e4, e6, sv, e5, p, c, hv, ?_, ?_⟩, h2 b (o + 7) hr⟩
  ·rcases hq with hq | ⟨b2, hp, hS, hc⟩
   ·exact .inl hq
   ·refine .inr ⟨b2, hp, ?_, hc⟩
    rcases hS with hS | hS
    ·exact .inl hS
    ·rcases hk with hk | ⟨b', o', hp', hk⟩
     ·exact .inl (by rw [hk]; rfl)
     ·cases ht : t.args with
      | nil => exact .inl rfl
      | cons y ys =>
       rw [ht, KA_cons] at hk
       rw [hp'] at hp
       simp only [Option.some.injEq, Addr.mk.injEq] at hp
       obtain ⟨rfl, -, -⟩ := hp
       exact .inr ⟨hS, mcell_lt hk.1.1⟩
  ·rcases hk with hk | ⟨b', o', hp, hk⟩
   ·exact .inl hk
   ·exact .inr ⟨b', o', hp, h1 b' o' hk⟩
theorem Kids.bound {w : World} {S : Blk} {v : Value} {l : List Nd} (h : Kids w (inH S) v l) : Kids w (inH fun j => S j ∧ j < w.heap.size) v l := by
 obtain ⟨p, c, hv, hq, hk⟩ := h
 refine ⟨p, c, hv, ?_, ?_⟩
 ·rcases hq with hq | ⟨b2, hp, hS, hc⟩
  ·exact .inl hq
  ·refine .inr ⟨b2, hp, ?_, hc⟩
   rcases hS with hS | hS
   ·exact .inl hS
   ·rcases hk with hk | ⟨b', o', hp', hk⟩
    ·exact .inl (by rw [hk]; rfl)
    ·cases l with
     | nil => exact .inl rfl
     | cons y ys =>
      rw [KA_cons] at hk
      rw [hp'] at hp
      simp only [Option.some.injEq, Addr.mk.injEq] at hp
      obtain ⟨rfl, -, -⟩ := hp
      exact .inr ⟨hS, mcell_lt hk.1.1⟩
 ·rcases hk with hk | ⟨b', o', hp, hk⟩
  ·exact .inl hk
  ·exact .inr ⟨b', o', hp, KA_bound _ _ _ hk⟩
theorem OT.ka {w : World} : ∀ (l : List Nd) (b o : Nat) (S : Blk), OT w l b o S → KA w (inH S) b o l := by
 apply forest (P := fun l => ∀ (b o : Nat) (S : Blk), OT w l b o S → KA w (inH S) b o l)
 ·intro b o S _
  exact KA_nil _ _ _ _
 ·intro t r h1 h2 b o S h
  obtain ⟨S1, S2, s1, s2, s3, ⟨e0, e1, e2, e3, e4, e6, sv, e5, hk⟩, hr⟩ := OT_cons.1 h
  refine KA_cons.2 ⟨⟨e0, e1, e2, e3, e4, e6, sv, e5, ?_⟩, ?_⟩
  ·obtain ⟨p, c, rfl, ⟨g1, g2, g3⟩ | ⟨b', cs, g1, g2, g3, g4, g5⟩⟩ := hk
   ·exact ⟨p, c, rfl, .inl ⟨g2, by rw [g1]; rfl, g3⟩, .inl g1⟩
   ·refine ⟨p, c, rfl, .inr ⟨b', g1, .inr (s1 _ g2), g5.1⟩, .inr ⟨b', 0, g1, ?_⟩⟩
    have := h1 b' 0 _ (g5.2.sub _ (S' := S) fun j k => s1 j k.1)
    exact this
  ·exact h2 b (o + 7) _ (hr.sub r s2)
theorem Ow.kids {w : World} {v : Value} {l : List Nd} {S : Blk} (h : Ow w v l S) : Kids w (inH S) v l := by
 obtain ⟨p, c, rfl, ⟨g1, g2, g3⟩ | ⟨b', cs, g1, g2, g3, g4, g5⟩⟩ := h
 ·exact ⟨p, c, rfl, .inl ⟨g2, by rw [g1]; rfl, g3⟩, .inl g1⟩
 ·exact ⟨p, c, rfl, .inr ⟨b', g1, .inr g2, g5.1⟩, .inr ⟨b', 0, g1, (g5.2.sub l fun j k => k.1).ka⟩⟩
def OffS (S : Blk) (w w' : World) : Prop := w'.os = w.os ∧ w'.tape = w.tape ∧ w'.output = w.output ∧ w.heap.size ≤ w'.heap.size ∧ ∀ b, b < w.heap.size → ¬ S b → w'.heap[b]? = w.heap[b]?
theorem OffS.refl (S : Blk) (w : World) : OffS S w w := ⟨rfl, rfl, rfl, Nat.le_refl _, fun _ _ _ => rfl⟩
theorem OffS.trans {S : Blk} {w w' w'' : World} (h : OffS S w w') (k : OffS S w' w'') : OffS S w w'' :=
 ⟨k.1.trans h.1, k.2.1.trans h.2.1, k.2.2.1.trans h.2.2.1, Nat.le_trans h.2.2.2.1 k.2.2.2.1, fun b hb hs => (k.2.2.2.2 b (Nat.lt_of_lt_of_le hb h.2.2.2.1) hs).trans (h.2.2.2.2 b hb hs)⟩
theorem OffS.sub {S S' : Blk} {w w' : World} (h : OffS S w w') (hs : ∀ j, j < w.heap.size → S j → S' j) : OffS S' w w' :=
 ⟨h.1, h.2.1, h.2.2.1, h.2.2.2.1, fun b hb hn => h.2.2.2.2 b hb fun k => hn (hs b hb k)⟩
theorem OffS.set {S : Blk} {w w' : World} (h : OffS S w w') {a : Addr} (ha : a.block < w.heap.size → S a.block) (x : Value) : OffS S w (w'.setCell a x) :=
 ⟨h.1, h.2.1, h.2.2.1, by rw [show (w'.setCell a x).heap.size = w'.heap.size by simp [World.setCell]]; exact h.2.2.2.1, fun b hb hs => by
  rw [Below.heap_setCell _ _ _ _ (fun e => hs (by rw [e] at hb ⊢; exact ha hb))]
  exact h.2.2.2.2 b hb hs⟩
theorem OffS.of {S : Blk} {w w' : World} (h : Below w.heap.size w w') : OffS S w w' := ⟨h.os, h.tape, h.output, h.size, fun b hb _ => h.block b hb⟩
theorem OffS.below {S : Blk} {w0 w w' : World} {B : Nat} (h : OffS S w w') (k : Below B w0 w) (hB : ∀ b, b < B → b < w.heap.size) (hs : ∀ b, b < B → ¬ S b) : Below B w0 w' :=
 ⟨h.1.trans k.os, h.2.1.trans k.tape, h.2.2.1.trans k.output, Nat.le_trans k.size h.2.2.2.1, fun b hb => by rw [h.2.2.2.2 b (hB b hb) (hs b hb)]; exact k.block b hb⟩
end Go.Proofs.YtmiidhgbdecdkaaGreat
