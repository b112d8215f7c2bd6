import Derived.Test.YtnlgkkbmbijndaaGreatBck14
import Derived.Deep.DeepCutAuto
import Derived.Lib.AppendStr
/- Package code: the writer: typed, slot. -/
namespace Go.Proofs.YtnlgkkbmbijndaaGreat
open Go.RowKit
set_option linter.unusedVariables false
set_option linter.unusedSimpArgs false

theorem numB_len : ∀ (k n : Nat), n < 128 ^ (k + 1) → (numB n).length ≤ k + 1
  | 0, n, h => by rw [numB_low (by simpa using h)]; simp
  | k + 1, n, h => by
    by_cases q : n < 128
    · rw [numB_low q]; simp
    · rw [numB_high q, List.length_cons]
      have := numB_len k (n / 128) (by rw [Nat.pow_succ] at h; omega)
      omega
theorem numB_nine {n : Nat} (h : n < 9223372036854775808) : (numB n).length ≤ 9 := numB_len 8 n (Nat.lt_of_lt_of_eq h (by decide))
theorem rowA (w : World) (cs : Array Value) (t : TypeId) : (w.alloc (.cells cs t)).rowIs w.heap.size t cs.size (fun j => cs[j]!) := World.rowIs_alloc w cs t (fun j => cs[j]!) (fun i hi => by simp [hi])

set_option maxRecDepth 100000 in
set_option maxHeartbeats 4000000 in
theorem wtyped_any (E WB : Nat) (l : List Nat) (v : Value) (w : World) (h : WrM E WB l v w) (t : Ty) (ht : okTy t) (hl : l.length + 20 ≤ 100000000) :
    Calls Tryz.prog 43 #[.pointer (some ⟨WB, 0, none⟩), .agg #[.int .i64 t.kind, .int .i64 t.par]] w fun e w' => e = .returned (.tuple #[]) ∧ Below E w w' ∧ ∃ v', WrM E WB (l ++ eTy t) v' w' ∧ WrO WB v w v' w' := by
  obtain ⟨kd, pr⟩ := t
  obtain ⟨t1, t2, t3, t4, t5⟩ := ht
  simp only at t1 t2 t3 t4 t5 ⊢
  obtain ⟨K, hK⟩ : ∃ K : Nat, kd = (K : Int) := ⟨kd.toNat, by omega⟩
  obtain ⟨P, hP⟩ : ∃ P : Nat, pr = (P : Int) := ⟨pr.toNat, by omega⟩
  subst hK hP
  have hET : eTy ⟨(K : Int), (P : Int)⟩ = [K] ++ (if K = 3 then numB P else []) := by
    unfold eTy eFld
    simp only [Int.toNat_natCast]
    by_cases q : K = 3
    · simp [q]
    · simp [q]
  have HET := hidC hET
  have hp9 := numB_nine (n := P) (by omega)
  obtain ⟨V, hV⟩ : ∃ V, w.alloc (.cells #[.int .i64 (K : Int), .int .i64 (P : Int)] 62) = V := ⟨_, rfl⟩
  have hb0 : Below w.heap.size w V := by rw [← hV]; exact bel_alloc _ _
  have hs0 : V.heap.size = w.heap.size + 1 := by rw [← hV]; simp
  obtain ⟨X, hX⟩ : ∃ X, w.heap.size = X := ⟨_, rfl⟩
  have x0 : V.cell? ⟨X, 0, none⟩ = some (.int .i64 (K : Int)) := by rw [← hV, ← hX]; simp [go_sem]
  have x1 : V.cell? ⟨X, 1, none⟩ = some (.int .i64 (P : Int)) := by rw [← hV, ← hX]; simp [go_sem]
  have h0 := h.below hb0
  have HXN : Hid (X < V.heap.size ∧ X ≠ WB ∧ v.ownBlock ≠ some X) := ⟨by omega, by have := h.b.lt; omega, fun e => by have := (h.o.lt _ e).2; omega⟩
  have KS := hidC (wsmall_any E WB l v V h0 (by omega) K (by omega))
  have KN := hidC (fun (m : List Nat) (v : Value) (u : World) (a : WrM E WB m v u) (b : m.length + (numB P).length ≤ 100000000) => wnumber_any E WB m v u a P (by omega) b)
  have HBE : Hid (Below E w V) := hb0.mono h.le
  have HOV : Hid (∀ v' w', WrO WB v V v' w' → WrO WB v w v' w') := fun v' w' q => WrO.below h hb0 q
  have hll : (l ++ [K]).length + (numB P).length ≤ 100000000 := by rw [List.length_append, List.length_singleton]; omega
  clear h h0 hb0 hs0 hET
  go_enter Tryz.func43, Tryz.ntmps43
  go_upto_region 1 with fail
  try rw [hV]
  try rw [hX]
  clear hV hX
  go_upto_region 2 with (go_at_call 80; (with_reducible refine KS.out.mono ?_); rintro e9 w4 ⟨rfl, hb4, v4, hm4, ho4⟩; have HB4 := hidC hb4; have HM4 := hidC hm4; have HO4 := hidC ho4; clear hb4 hm4 ho4)
  have hX4 : w4.heap[X]? = V.heap[X]? := (HO4.out.2 X HXN.out.1 HXN.out.2.1 HXN.out.2.2).1
  have y0 := (World.cell?_of_block hX4 (a := ⟨X, 0, none⟩)).trans x0
  have y1 := (World.cell?_of_block hX4 (a := ⟨X, 1, none⟩)).trans x1
  by_cases q : K = 3
  · have q3 : ((K : Int) == 3) = true := by rw [q]; rfl
    have HT : Hid (l ++ eTy ⟨(K : Int), (P : Int)⟩ = (l ++ [K]) ++ numB P) := by
      show l ++ eTy ⟨(K : Int), (P : Int)⟩ = _
      rw [HET.out, if_pos q, List.append_assoc]
    have KN4 := hidC (KN.out _ _ _ HM4.out hll)
    clear hX4 q HET
    go_wp2_with (go_at_call 79; (with_reducible refine KN4.out.mono ?_); rintro e9 w5 ⟨rfl, hb5, v5, hm5, ho5⟩; have HB5 := hidC hb5; have HM5 := hidC hm5; have HO5 := hidC ho5; clear hb5 hm5 ho5)
    first | go_end0 | refine bodyPost_ret (results_none rfl _ _ _) rfl ?_
    refine ⟨rfl, (HBE.out.trans HB4.out).trans HB5.out, v5, ?_, HOV.out _ _ (HO4.out.trans HO5.out)⟩
    rw [HT.out]
    exact HM5.out
  · have q3 : ((K : Int) == 3) = false := by simp; omega
    have HT : Hid (l ++ eTy ⟨(K : Int), (P : Int)⟩ = l ++ [K]) := by
      show l ++ eTy ⟨(K : Int), (P : Int)⟩ = _
      rw [HET.out, if_neg q, List.append_nil]
    clear hX4 q HET
    go_wp2
    first | go_end0 | refine bodyPost_ret (results_none rfl _ _ _) rfl ?_
    refine ⟨rfl, HBE.out.trans HB4.out, v4, ?_, HOV.out _ _ HO4.out⟩
    rw [HT.out]
    exact HM4.out

end Go.Proofs.YtnlgkkbmbijndaaGreat
/- Package code: the writer: slot. -/
namespace Go.Proofs.YtnlgkkbmbijndaaGreat
open Go.RowKit
set_option linter.unusedVariables false
set_option linter.unusedSimpArgs false

theorem eTy_len {t : Ty} (h : okTy t) : (eTy t).length ≤ 10 := by
  obtain ⟨h1, h2, h3, h4, -⟩ := h
  have := numB_nine (n := t.par.toNat) (by omega)
  unfold eTy eFld
  rw [List.length_append]
  split
  · simp; omega
  · simp

set_option maxRecDepth 100000 in
set_option maxHeartbeats 4000000 in
theorem wslot_any (E WB : Nat) (l : List Nat) (v : Value) (w : World) (h : WrM E WB l v w) (s : Sl) (hs : okSl s) (hl : l.length + 40 ≤ 100000000) :
    Calls Tryz.prog 45 #[.pointer (some ⟨WB, 0, none⟩), .agg #[.int .i64 s.ty.kind, .int .i64 s.ty.par, .bool s.keep, .int .u32 s.bits, .int .i64 s.int_]] w fun e w' => e = .returned (.tuple #[]) ∧ Below E w w' ∧ ∃ v', WrM E WB (l ++ eSl s) v' w' ∧ WrO WB v w v' w' := by
  obtain ⟨⟨kd, pr⟩, kp, bt, it⟩ := s
  obtain ⟨ht, s2, s3, s4, s5, s6, s7⟩ := hs
  simp only at ht s2 s3 s4 s5 s6 s7 ⊢
  have hty := eTy_len ht
  have KT := hidC (fun (m : List Nat) (v : Value) (u : World) (a : WrM E WB m v u) (b : m.length + 20 ≤ 100000000) => wtyped_any E WB m v u a ⟨kd, pr⟩ ht b)
  simp only at KT
  obtain ⟨B, hB⟩ : ∃ B : Nat, bt = (B : Int) := ⟨bt.toNat, by omega⟩
  obtain ⟨I, hI⟩ : ∃ I : Nat, it = (I : Int) := ⟨it.toNat, by omega⟩
  subst hB hI
  have hi9 := numB_nine (n := I) (by omega)
  have HET : Hid (eSl ⟨⟨kd, pr⟩, kp, (B : Int), (I : Int)⟩ = [if kp = true then 1 else 0] ++ (eTy ⟨kd, pr⟩ ++ (if kd = 2 then numB I else lowB 4 B))) := by
    show eSl ⟨⟨kd, pr⟩, kp, (B : Int), (I : Int)⟩ = _
    unfold eSl
    simp only [Int.toNat_natCast]
  obtain ⟨Z, hZ⟩ : ∃ z, (if kp = true then 1 else 0 : Nat) = z := ⟨_, rfl⟩
  have hZ1 : Z ≤ 1 := by rw [← hZ]; split <;> omega
  rw [hZ] at HET
  obtain ⟨T, hT⟩ : ∃ t, eTy ⟨kd, pr⟩ = t := ⟨_, rfl⟩
  rw [hT] at HET KT hty
  obtain ⟨V, hV⟩ : ∃ V, w.alloc (.cells #[.int .i64 kd, .int .i64 pr, .bool kp, .int .u32 (B : Int), .int .i64 (I : Int)] 66) = V := ⟨_, rfl⟩
  have hb0 : Below w.heap.size w V := by rw [← hV]; exact bel_alloc _ _
  have hs0 : V.heap.size = w.heap.size + 1 := by rw [← hV]; simp
  obtain ⟨X, hX⟩ : ∃ X, w.heap.size = X := ⟨_, rfl⟩
  have x0 : V.cell? ⟨X, 0, none⟩ = some (.int .i64 kd) := by rw [← hV, ← hX]; simp [go_sem]
  have x1 : V.cell? ⟨X, 1, none⟩ = some (.int .i64 pr) := by rw [← hV, ← hX]; simp [go_sem]
  have x2 : V.cell? ⟨X, 2, none⟩ = some (.bool kp) := by rw [← hV, ← hX]; simp [go_sem]
  have x3 : V.cell? ⟨X, 3, none⟩ = some (.int .u32 (B : Int)) := by rw [← hV, ← hX]; simp [go_sem]
  have x4 : V.cell? ⟨X, 4, none⟩ = some (.int .i64 (I : Int)) := by rw [← hV, ← hX]; simp [go_sem]
  have HXC : Hid (∀ u : World, u.heap[X]? = V.heap[X]? → u.cell? ⟨X, 0, none⟩ = some (.int .i64 kd) ∧ u.cell? ⟨X, 1, none⟩ = some (.int .i64 pr) ∧ u.cell? ⟨X, 3, none⟩ = some (.int .u32 (B : Int)) ∧ u.cell? ⟨X, 4, none⟩ = some (.int .i64 (I : Int))) := fun u hu => ⟨(World.cell?_of_block hu (a := ⟨X, 0, none⟩)).trans x0, (World.cell?_of_block hu (a := ⟨X, 1, none⟩)).trans x1, (World.cell?_of_block hu (a := ⟨X, 3, none⟩)).trans x3, (World.cell?_of_block hu (a := ⟨X, 4, none⟩)).trans x4⟩
  have h0 := h.below hb0
  have HXN : Hid (X < V.heap.size ∧ X ≠ WB ∧ v.ownBlock ≠ some X) := ⟨by omega, by have := h.b.lt; omega, fun e => by have := (h.o.lt _ e).2; omega⟩
  have KS := hidC (wsmall_any E WB l v V h0 (by omega) Z (by omega))
  have KN := hidC (fun (m : List Nat) (v : Value) (u : World) (a : WrM E WB m v u) (b : m.length + (numB I).length ≤ 100000000) => wnumber_any E WB m v u a I (by omega) b)
  have KF : Hid (∀ (m : List Nat) (v : Value) (u : World), WrM E WB m v u → m.length + 4 ≤ 100000000 → Calls Tryz.prog 18 #[.pointer (some ⟨WB, 0, none⟩), .int .u64 (B : Int), .int .i64 4] u fun e w' => e = .returned (.tuple #[]) ∧ Below E u w' ∧ ∃ v', WrM E WB (m ++ lowB 4 B) v' w' ∧ WrO WB v u v' w') := fun m v u a b => wfixed_any E WB m v u a B (by omega) 4 (by omega) b
  have HBE : Hid (Below E w V) := hb0.mono h.le
  have HOV : Hid (∀ v' w', WrO WB v V v' w' → WrO WB v w v' w') := fun v' w' q => WrO.below h hb0 q
  have hl1 : (l ++ [Z]).length + 20 ≤ 100000000 := by rw [List.length_append, List.length_singleton]; omega
  have hl2 : ((l ++ [Z]) ++ T).length + (numB I).length ≤ 100000000 := by rw [List.length_append, List.length_append, List.length_singleton]; omega
  have hl3 : ((l ++ [Z]) ++ T).length + 4 ≤ 100000000 := by rw [List.length_append, List.length_append, List.length_singleton]; omega
  have wB : IntKind.u64.wrap (B : Int) = (B : Int) := by unfold IntKind.wrap; simp [IntKind.signed, IntKind.bits]; omega
  clear h h0 hb0 hs0 hT ht s2 s3 s4 s5 s6 s7 hi9 hty
  go_enter Tryz.func45, Tryz.ntmps45
  go_upto_region 1 with fail
  try rw [hV]
  try rw [hX]
  clear hV hX
  go_upto_if 6 with fail
  go_cut [4] (fun kv wx => kv = .int .i64 (Z : Int) ∧ wx = V)
  case first =>
    cases kp with
    | true =>
      obtain rfl : 1 = Z := hZ
      go_wp2
      go_meet
      exact ⟨rfl, rfl⟩
    | false =>
      obtain rfl : 0 = Z := hZ
      go_wp2
      go_meet
      exact ⟨rfl, rfl⟩
  case rest =>
    obtain ⟨rfl, rfl⟩ := hcut
    clear hZ
    go_upto_region 5 with (go_at_call 80; (with_reducible refine KS.out.mono ?_); rintro e9 w4 ⟨rfl, hb4, v4, hm4, ho4⟩; have HB4 := hidC hb4; have HM4 := hidC hm4; have HO4 := hidC ho4; clear hb4 hm4 ho4)
    obtain ⟨hX4, hv4⟩ := HO4.out.2 X HXN.out.1 HXN.out.2.1 HXN.out.2.2
    obtain ⟨y0, y1, y3, y4⟩ := HXC.out w4 hX4
    have KT4 := hidC (KT.out _ _ _ HM4.out hl1)
    clear x0 x1 x2 x3 x4
    go_upto_region 6 with (go_at_call 43; (with_reducible refine KT4.out.mono ?_); rintro e9 w5 ⟨rfl, hb5, v5, hm5, ho5⟩; have HB5 := hidC hb5; have HM5 := hidC hm5; have HO5 := hidC ho5; clear hb5 hm5 ho5)
    obtain ⟨hX5, hv5⟩ := HO5.out.2 X (Nat.lt_of_lt_of_le HXN.out.1 HO4.out.1) HXN.out.2.1 hv4
    clear y0 y1 y3 y4
    obtain ⟨y0, y1, y3, y4⟩ := HXC.out w5 (hX5.trans hX4)
    by_cases q : kd = 2
    · have q3 : (kd == 2) = true := by simpa using q
      have HT : Hid (l ++ eSl ⟨⟨kd, pr⟩, kp, (B : Int), (I : Int)⟩ = ((l ++ [Z]) ++ T) ++ numB I) := by
        show l ++ eSl _ = _
        rw [HET.out, if_pos q]
        simp
      have KN5 := hidC (KN.out _ _ _ HM5.out hl2)
      clear hX4 hX5 hv4 hv5 q HET
      go_wp2_with (go_at_call 79; (with_reducible refine KN5.out.mono ?_); rintro e9 w6 ⟨rfl, hb6, v6, hm6, ho6⟩; have HB6 := hidC hb6; have HM6 := hidC hm6; have HO6 := hidC ho6; clear hb6 hm6 ho6)
      first | go_end0 | refine bodyPost_ret (results_none rfl _ _ _) rfl ?_
      refine ⟨rfl, ((HBE.out.trans HB4.out).trans HB5.out).trans HB6.out, v6, ?_, HOV.out _ _ ((HO4.out.trans HO5.out).trans HO6.out)⟩
      rw [HT.out]
      exact HM6.out
    · have q3 : (kd == 2) = false := by simpa using q
      have HT : Hid (l ++ eSl ⟨⟨kd, pr⟩, kp, (B : Int), (I : Int)⟩ = ((l ++ [Z]) ++ T) ++ lowB 4 B) := by
        show l ++ eSl _ = _
        rw [HET.out, if_neg q]
        simp
      have KF5 := hidC (KF.out _ _ _ HM5.out hl3)
      clear hX4 hX5 hv4 hv5 q HET
      go_wp2_with (go_at_call 18; (with_reducible refine KF5.out.mono ?_); rintro e9 w6 ⟨rfl, hb6, v6, hm6, ho6⟩; have HB6 := hidC hb6; have HM6 := hidC hm6; have HO6 := hidC ho6; clear hb6 hm6 ho6)
      first | go_end0 | refine bodyPost_ret (results_none rfl _ _ _) rfl ?_
      refine ⟨rfl, ((HBE.out.trans HB4.out).trans HB5.out).trans HB6.out, v6, ?_, HOV.out _ _ ((HO4.out.trans HO5.out).trans HO6.out)⟩
      rw [HT.out]
      exact HM6.out

end Go.Proofs.YtnlgkkbmbijndaaGreat
/- Package code: the writer: lists of types and of slots. -/
namespace Go.Proofs.YtnlgkkbmbijndaaGreat
open Go.RowKit
set_option linter.unusedVariables false
set_option linter.unusedSimpArgs false

theorem eSl_len {s : Sl} (h : okSl s) : (eSl s).length ≤ 20 := by
  have h1 := eTy_len h.1
  obtain ⟨-, h3, h4, -⟩ := h
  have h2 := numB_nine (n := s.int_.toNat) (by omega)
  have h5 : (if s.ty.kind = 2 then numB s.int_.toNat else lowB 4 s.bits.toNat).length ≤ 9 := by
    split
    · exact h2
    · rw [lowB_len]; omega
  unfold eSl
  rw [List.length_append, List.length_append, List.length_singleton]
  omega
theorem flat_len_le {α : Type} {e : α → List Nat} {m : Nat} : ∀ (l : List α), (∀ x ∈ l, (e x).length ≤ m) → (l.flatMap e).length ≤ m * l.length
  | [], _ => by simp
  | a :: l, h => by
    rw [List.flatMap_cons, List.length_append, List.length_cons, Nat.mul_succ]
    have h1 := h a (by simp)
    have h2 := flat_len_le l (fun x hx => h x (List.mem_cons_of_mem _ hx))
    omega
theorem flat_more {α : Type} (e : α → List Nat) {l : List α} {k : Nat} (h : k < l.length) : (l.take (k + 1)).flatMap e = (l.take k).flatMap e ++ e l[k] := by
  rw [List.take_succ_eq_append_getElem h, List.flatMap_append]
  simp

set_option maxRecDepth 100000 in
set_option maxHeartbeats 4000000 in
theorem wlistT_any (E WB : Nat) (l : List Nat) (v : Value) (w : World) (h : WrM E WB l v w) (rs : List Ty) (hrs : ∀ x ∈ rs, okTy x) (hn : rs.length ≤ 16384) (p : Option Addr) (q : Nat) (hr : ∀ u, Below E w u → RowG 2 tyC u (.slice p rs.length q) rs) (hl : l.length + 1000000 ≤ 100000000) :
    Calls Tryz.prog 42 #[.pointer (some ⟨WB, 0, none⟩), .slice p rs.length q, .func (.func 43) #[.pointer (some ⟨WB, 0, none⟩)] #[]] w fun e w' => e = .returned (.tuple #[]) ∧ Below E w w' ∧ ∃ v', WrM E WB (l ++ eLst eTy rs) v' w' ∧ WrO WB v w v' w' := by
  obtain ⟨N, hN⟩ : ∃ N, rs.length = N := ⟨_, rfl⟩
  have hnl := numB_nine (n := N) (by omega)
  have HLN : Hid (∀ k, ((l ++ numB N) ++ (rs.take k).flatMap eTy).length + 100 ≤ 100000000) := fun k => by
    have h1 := flat_len_le (e := eTy) (m := 10) (rs.take k) (fun x hx => eTy_len (hrs x (List.mem_of_mem_take hx)))
    rw [List.length_take] at h1
    rw [List.length_append, List.length_append]
    have h2 : min k rs.length ≤ 16384 := by omega
    omega
  have HFM := hidC (fun (k : Nat) (hk : k < rs.length) => flat_more eTy hk)
  have HEL : Hid (eLst eTy rs = numB N ++ rs.flatMap eTy) := by show eLst eTy rs = _; unfold eLst; rw [hN]
  have KW := hidC (fun (m : List Nat) (v : Value) (u : World) (a : WrM E WB m v u) (x : Ty) (hx : okTy x) (b : m.length + 100 ≤ 100000000) => wtyped_any E WB m v u a x hx (by omega))
  have KN := hidC (wnumber_any E WB l v w h N (by omega) (by omega))
  have HRW : Hid (∀ u, Below E w u → RowG 2 tyC u (.slice p N q) rs) := fun u hu => by rw [← hN]; exact hr u hu
  have HOK := hidC hrs
  have HN := hidC hN
  rw [hN] at hn ⊢
  clear hr hrs h hN
  go_enter Tryz.func42, Tryz.ntmps42
  go_upto_block 0 with (go_at_call 79; (with_reducible refine KN.out.mono ?_); rintro e9 w4 ⟨rfl, hb4, v4, hm4, ho4⟩; have HJ0 : Hid (Below E w w4 ∧ ∃ v', WrM E WB ((l ++ numB N) ++ (rs.take 0).flatMap eTy) v' w4 ∧ WrO WB v w v' w4) := ⟨hb4, v4, (by rw [List.take_zero, List.flatMap_nil, List.append_nil]; exact hm4), ho4⟩; clear hb4 hm4 ho4)
  go_wp2_with fail
  go_loopw [14] (fun iv wx => ∃ k : Nat, k ≤ N ∧ iv = .int .i64 (k : Int) ∧ Hid (Below E w wx ∧ ∃ v', WrM E WB ((l ++ numB N) ++ (rs.take k).flatMap eTy) v' wx ∧ WrO WB v w v' wx)) (fun iv _ => N - (intOf iv).toNat)
  case atStart => exact ⟨0, Nat.zero_le _, rfl, HJ0.out⟩
  case round =>
    clear HJ0
    obtain ⟨k, hk, rfl, HJ⟩ := hrel
    by_cases hlt : k < N
    · have hkl : k < rs.length := by have := HN.out; omega
      obtain ⟨hb, v2, hm, ho⟩ := HJ.out
      obtain ⟨rb, ro, rfl, hcl⟩ := (HRW.out wr hb).at hkl
      have hx := HOK.out rs[k] (List.getElem_mem hkl)
      have hfm := HFM.out k hkl
      obtain ⟨x, hxe⟩ : ∃ x, rs[k] = x := ⟨_, rfl⟩
      rw [hxe] at hcl hx hfm
      obtain ⟨V, hV⟩ : ∃ V, wr.alloc (.cells #[.int .i64 (x.kind), .int .i64 (x.par)] 62) = V := ⟨_, rfl⟩
      have hbV : Below wr.heap.size wr V := by rw [← hV]; exact bel_alloc _ _
      have y0 := hcl.at 0 (v := .int .i64 (x.kind)) rfl
      rw [Nat.add_zero] at y0
      have y1 := hcl.at 1 (v := .int .i64 (x.par)) rfl
      have z0 : V.cell? ⟨wr.heap.size, 0, none⟩ = some (.int .i64 (x.kind)) := by rw [← hV]; simp [go_sem]
      have z1 : V.cell? ⟨wr.heap.size, 1, none⟩ = some (.int .i64 (x.par)) := by rw [← hV]; simp [go_sem]
      have llb : rb < wr.heap.size := mcell_lt y0
      have n9 : ¬ rb = wr.heap.size := by omega
      have KX := hidC (KW.out _ v2 V (hm.below hbV) x hx (HLN.out k))
      have HFM' := hidC hfm
      have HBV : Hid (Below E w V) := hb.trans (hbV.mono hm.le)
      have HOV : Hid (∀ v' w', WrO WB v2 V v' w' → WrO WB v w v' w') := fun v' w' z => ho.trans (WrO.below hm hbV z)
      have i1 : (0 : Int) ≤ (k : Int) := by omega
      have i2 : (k : Int) < (N : Int) := by omega
      have wi : IntKind.i64.wrap ((k : Int) + 1) = ((k + 1 : Nat) : Int) := by rw [IntKind.wrap_i64]; omega
      clear hb hm ho hcl hx hfm hxe hbV llb HJ
      go_wp2_with (go_at_call 43; (with_reducible refine KX.out.mono ?_); rintro e9 w5 ⟨rfl, hb5, v5, hm5, ho5⟩; have HQ : Hid (Below E w w5 ∧ ∃ v', WrM E WB ((l ++ numB N) ++ (rs.take (k + 1)).flatMap eTy) v' w5 ∧ WrO WB v w v' w5) := ⟨HBV.out.trans hb5, v5, (by rw [HFM'.out, ← List.append_assoc]; exact hm5), HOV.out _ _ ho5⟩; clear hb5 hm5 ho5)
      go_roundw
      case rel => exact ⟨k + 1, by omega, by go_num, HQ.out⟩
      case measure => simp [intOf]; omega
    · have e1 : ¬ (k : Int) < (N : Int) := by omega
      have hall : rs.take k = rs := List.take_of_length_le (by have := HN.out; omega)
      have HQ : Hid (Below E w wr ∧ ∃ v', WrM E WB (l ++ eLst eTy rs) v' wr ∧ WrO WB v w v' wr) := by
        have h9 := HJ.out
        rw [hall, List.append_assoc, ← HEL.out] at h9
        exact h9
      clear hlt hall HJ
      go_wp2
      first | go_end0 | refine bodyPost_ret (results_none rfl _ _ _) rfl ?_ | (simp only [Exit.inBlock, Exit.then]; refine bodyPost_ret (results_none rfl _ _ _) rfl ?_)
      exact ⟨rfl, HQ.out.1, HQ.out.2⟩

set_option maxRecDepth 100000 in
set_option maxHeartbeats 4000000 in
theorem wlistS_any (E WB : Nat) (l : List Nat) (v : Value) (w : World) (h : WrM E WB l v w) (rs : List Sl) (hrs : ∀ x ∈ rs, okSl x) (hn : rs.length ≤ 4096) (p : Option Addr) (q : Nat) (hr : ∀ u, Below E w u → RowG 5 slC u (.slice p rs.length q) rs) (hl : l.length + 1000000 ≤ 100000000) :
    Calls Tryz.prog 44 #[.pointer (some ⟨WB, 0, none⟩), .slice p rs.length q, .func (.func 45) #[.pointer (some ⟨WB, 0, none⟩)] #[]] w fun e w' => e = .returned (.tuple #[]) ∧ Below E w w' ∧ ∃ v', WrM E WB (l ++ eLst eSl rs) v' w' ∧ WrO WB v w v' w' := by
  obtain ⟨N, hN⟩ : ∃ N, rs.length = N := ⟨_, rfl⟩
  have hnl := numB_nine (n := N) (by omega)
  have HLN : Hid (∀ k, ((l ++ numB N) ++ (rs.take k).flatMap eSl).length + 100 ≤ 100000000) := fun k => by
    have h1 := flat_len_le (e := eSl) (m := 20) (rs.take k) (fun x hx => eSl_len (hrs x (List.mem_of_mem_take hx)))
    rw [List.length_take] at h1
    rw [List.length_append, List.length_append]
    have h2 : min k rs.length ≤ 4096 := by omega
    omega
  have HFM := hidC (fun (k : Nat) (hk : k < rs.length) => flat_more eSl hk)
  have HEL : Hid (eLst eSl rs = numB N ++ rs.flatMap eSl) := by show eLst eSl rs = _; unfold eLst; rw [hN]
  have KW := hidC (fun (m : List Nat) (v : Value) (u : World) (a : WrM E WB m v u) (x : Sl) (hx : okSl x) (b : m.length + 100 ≤ 100000000) => wslot_any E WB m v u a x hx (by omega))
  have KN := hidC (wnumber_any E WB l v w h N (by omega) (by omega))
  have HRW : Hid (∀ u, Below E w u → RowG 5 slC u (.slice p N q) rs) := fun u hu => by rw [← hN]; exact hr u hu
  have HOK := hidC hrs
  have HN := hidC hN
  rw [hN] at hn ⊢
  clear hr hrs h hN
  go_enter Tryz.func44, Tryz.ntmps44
  go_upto_block 0 with (go_at_call 79; (with_reducible refine KN.out.mono ?_); rintro e9 w4 ⟨rfl, hb4, v4, hm4, ho4⟩; have HJ0 : Hid (Below E w w4 ∧ ∃ v', WrM E WB ((l ++ numB N) ++ (rs.take 0).flatMap eSl) v' w4 ∧ WrO WB v w v' w4) := ⟨hb4, v4, (by rw [List.take_zero, List.flatMap_nil, List.append_nil]; exact hm4), ho4⟩; clear hb4 hm4 ho4)
  go_wp2_with fail
  go_loopw [14] (fun iv wx => ∃ k : Nat, k ≤ N ∧ iv = .int .i64 (k : Int) ∧ Hid (Below E w wx ∧ ∃ v', WrM E WB ((l ++ numB N) ++ (rs.take k).flatMap eSl) v' wx ∧ WrO WB v w v' wx)) (fun iv _ => N - (intOf iv).toNat)
  case atStart => exact ⟨0, Nat.zero_le _, rfl, HJ0.out⟩
  case round =>
    clear HJ0
    obtain ⟨k, hk, rfl, HJ⟩ := hrel
    by_cases hlt : k < N
    · have hkl : k < rs.length := by have := HN.out; omega
      obtain ⟨hb, v2, hm, ho⟩ := HJ.out
      obtain ⟨rb, ro, rfl, hcl⟩ := (HRW.out wr hb).at hkl
      have hx := HOK.out rs[k] (List.getElem_mem hkl)
      have hfm := HFM.out k hkl
      obtain ⟨x, hxe⟩ : ∃ x, rs[k] = x := ⟨_, rfl⟩
      rw [hxe] at hcl hx hfm
      obtain ⟨V, hV⟩ : ∃ V, wr.alloc (.cells #[.int .i64 (x.ty.kind), .int .i64 (x.ty.par), .bool (x.keep), .int .u32 (x.bits), .int .i64 (x.int_)] 66) = V := ⟨_, rfl⟩
      have hbV : Below wr.heap.size wr V := by rw [← hV]; exact bel_alloc _ _
      have y0 := hcl.at 0 (v := .int .i64 (x.ty.kind)) rfl
      rw [Nat.add_zero] at y0
      have y1 := hcl.at 1 (v := .int .i64 (x.ty.par)) rfl
      have y2 := hcl.at 2 (v := .bool (x.keep)) rfl
      have y3 := hcl.at 3 (v := .int .u32 (x.bits)) rfl
      have y4 := hcl.at 4 (v := .int .i64 (x.int_)) rfl
      have z0 : V.cell? ⟨wr.heap.size, 0, none⟩ = some (.int .i64 (x.ty.kind)) := by rw [← hV]; simp [go_sem]
      have z1 : V.cell? ⟨wr.heap.size, 1, none⟩ = some (.int .i64 (x.ty.par)) := by rw [← hV]; simp [go_sem]
      have z2 : V.cell? ⟨wr.heap.size, 2, none⟩ = some (.bool (x.keep)) := by rw [← hV]; simp [go_sem]
      have z3 : V.cell? ⟨wr.heap.size, 3, none⟩ = some (.int .u32 (x.bits)) := by rw [← hV]; simp [go_sem]
      have z4 : V.cell? ⟨wr.heap.size, 4, none⟩ = some (.int .i64 (x.int_)) := by rw [← hV]; simp [go_sem]
      have llb : rb < wr.heap.size := mcell_lt y0
      have n9 : ¬ rb = wr.heap.size := by omega
      have KX := hidC (KW.out _ v2 V (hm.below hbV) x hx (HLN.out k))
      have HFM' := hidC hfm
      have HBV : Hid (Below E w V) := hb.trans (hbV.mono hm.le)
      have HOV : Hid (∀ v' w', WrO WB v2 V v' w' → WrO WB v w v' w') := fun v' w' z => ho.trans (WrO.below hm hbV z)
      have i1 : (0 : Int) ≤ (k : Int) := by omega
      have i2 : (k : Int) < (N : Int) := by omega
      have wi : IntKind.i64.wrap ((k : Int) + 1) = ((k + 1 : Nat) : Int) := by rw [IntKind.wrap_i64]; omega
      clear hb hm ho hcl hx hfm hxe hbV llb HJ
      go_wp2_with (go_at_call 45; (with_reducible refine KX.out.mono ?_); rintro e9 w5 ⟨rfl, hb5, v5, hm5, ho5⟩; have HQ : Hid (Below E w w5 ∧ ∃ v', WrM E WB ((l ++ numB N) ++ (rs.take (k + 1)).flatMap eSl) v' w5 ∧ WrO WB v w v' w5) := ⟨HBV.out.trans hb5, v5, (by rw [HFM'.out, ← List.append_assoc]; exact hm5), HOV.out _ _ ho5⟩; clear hb5 hm5 ho5)
      go_roundw
      case rel => exact ⟨k + 1, by omega, by go_num, HQ.out⟩
      case measure => simp [intOf]; omega
    · have e1 : ¬ (k : Int) < (N : Int) := by omega
      have hall : rs.take k = rs := List.take_of_length_le (by have := HN.out; omega)
      have HQ : Hid (Below E w wr ∧ ∃ v', WrM E WB (l ++ eLst eSl rs) v' wr ∧ WrO WB v w v' wr) := by
        have h9 := HJ.out
        rw [hall, List.append_assoc, ← HEL.out] at h9
        exact h9
      clear hlt hall HJ
      go_wp2
      first | go_end0 | refine bodyPost_ret (results_none rfl _ _ _) rfl ?_ | (simp only [Exit.inBlock, Exit.then]; refine bodyPost_ret (results_none rfl _ _ _) rfl ?_)
      exact ⟨rfl, HQ.out.1, HQ.out.2⟩

end Go.Proofs.YtnlgkkbmbijndaaGreat
/- Package code: the writer: a string's bytes; param. -/
namespace Go.Proofs.YtnlgkkbmbijndaaGreat
open Go.RowKit
open Go.Lib (strCells run_append_own_string run_append_room_string run_append_grow_string)
set_option linter.unusedVariables false
set_option linter.unusedSimpArgs false

theorem wpList_appS {P : Program} {w w' : World} {ops : Array Oper} {rest : List Oper} {o : Oper} {a : Act} {Q : Exit → Act → World → Prop} (hgd : o.guard = none) (s x : Operand) (t u : TypeId)
    (ho : o.op = .call { callee := .builtin .append, args := #[s, x], argTypes := #[t, u] }) (v v2 v' : Value) (hs : a.eval s = v) (hx : a.eval x = v2) (hr : (Builtin.append_ #[t, u] o.type #[v, v2]).run P w = .ok v' w')
    (h : wpList P ops Q rest (a.put o.dst v') w') : wpList P ops Q (o :: rest) a w :=
  wpList_plain hgd fun _ hK => by
    unfold Oper.wp execOp
    simp only [ho, resolve, invoke, builtin, Sem.run_bind, Sem.run_pure, Result.andThen_ok, List.map_toArray, List.map_cons, List.map_nil, hs, hx, hr]
    exact hK _ _ h
theorem ready_appS {P : Program} {w w' : World} {o : Oper} {a : Act} {K : Act → World → Prop} {Q : Exit → Act → World → Prop} (s x : Operand) (t u : TypeId)
    (ho : o.op = .call { callee := .builtin .append, args := #[s, x], argTypes := #[t, u] }) (v v2 v' : Value) (hs : a.eval s = v) (hx : a.eval x = v2) (hr : (Builtin.append_ #[t, u] o.type #[v, v2]).run P w = .ok v' w')
    (h : K (a.put o.dst v') w') (y' : Bool) (hy : y' = true) : if y' = true then Oper.wp P o a w K Q else K (a.put o.dst undef) w := by
  rw [if_pos hy]
  unfold Oper.wp execOp
  simp only [ho, resolve, invoke, builtin, Sem.run_bind, Sem.run_pure, Result.andThen_ok, List.map_toArray, List.map_cons, List.map_nil, hs, hx, hr]
  exact h
theorem u8s_str (s : ByteArray) : strCells s = u8s (bytN s) := by unfold strCells u8s bytN; rw [List.map_map]; rfl
/-- An own row of bytes and a string's bytes behind it. -/
theorem own_appS {B : Nat} {V : World} {v : Value} {n : Nat} {xs : List Value} (h : V.ownsRow B 5 1 v n xs) (hB : B ≤ V.heap.size) (s : ByteArray) (hn : n + s.size ≤ 200000000) (ty : TypeId) :
    ∃ v' w', (Builtin.append_ #[49, 9] ty #[v, .string s]).run Tryz.prog V = .ok v' w' ∧ w'.ownsRow B 5 1 v' (n + s.size) (xs ++ strCells s) ∧ V.grownBy w' v.ownBlock ∧ (v'.ownBlock = none ∨ v'.ownBlock = v.ownBlock ∨ v'.ownBlock = some V.heap.size) := by
  obtain ⟨i0, hi0, hz0, hz1, hz2⟩ := info_parts info_U8
  have ht : Tryz.prog.underlying 49 = some (.slice 5) := Tryz.underlying49
  have hu : Tryz.prog.underlying 9 = some .string := Tryz.underlying9
  have hmx : n + s.size ≤ maxLen := by unfold maxLen; omega
  obtain ⟨v', w', hr, ho, hg, hnn⟩ := run_append_own_string (P := Tryz.prog) V B _ _ ty _ i0 ht hu hi0 hz0 hz1 hz2 v n xs h s hmx (by omega) hB
  refine ⟨v', w', hr, ho, hg, ?_⟩
  rcases h.2 with ⟨rfl, rfl⟩ | ⟨g, cap, cur, rfl, hbg, hgc, hnc, hcm, hcs, htake⟩
  · by_cases hm : s.size = 0
    · left
      rw [hnn.2 ⟨rfl, hm⟩]
      rfl
    · have h2 := run_append_nil_string (P := Tryz.prog) V _ _ ty _ i0 (.int .u8 0) ht hu hi0 hz0 s (by omega) (by omega) (by rw [hz2]; omega)
      rw [hr] at h2
      injection h2 with h3 h4
      right; right
      rw [h3]
      rfl
  · by_cases hroom : n + s.size ≤ cap
    · have h2 := run_append_room_string (P := Tryz.prog) V _ _ ty _ i0 ht hu hi0 hz1 g n cap cur hgc s hroom (by omega)
      rw [hr] at h2
      injection h2 with h3 h4
      right; left
      rw [h3]
      rfl
    · have holds : ∀ j u, xs[j]? = some u → V.cell? ((⟨g, 0, none⟩ : Addr).add j) = some u := h.cells (g := g) rfl
      have h2 := run_append_grow_string (P := Tryz.prog) V _ _ ty _ i0 (.int .u8 0) ht hu hi0 hz0 ⟨g, 0, none⟩ n cap xs (by rw [hz1]; exact h.1) holds s (by omega) (by omega) (by rw [hz2]; exact growslice_fits (by omega) (by omega))
      rw [hr] at h2
      injection h2 with h3 h4
      right; right
      rw [h3]
      rfl
/-- A string's bytes more. -/
theorem WrM.appS {E WB : Nat} {l : List Nat} {v : Value} {w : World} (h : WrM E WB l v w) (s : ByteArray) (hl : l.length + s.size ≤ 100000000) :
    ∃ p q p' q' n' w', v = .slice p l.length q ∧ (Builtin.append_ #[49, 9] 49 #[.slice p l.length q, .string s]).run Tryz.prog w = .ok (.slice p' n' q') w' ∧ w'.cell? ⟨WB, 0, none⟩ = some (.slice p l.length q) ∧ w'.frozen? ⟨WB, 0, none⟩ = false ∧ Below E w (w'.setCell ⟨WB, 0, none⟩ (.slice p' n' q')) ∧ WrM E WB (l ++ bytN s) (.slice p' n' q') (w'.setCell ⟨WB, 0, none⟩ (.slice p' n' q')) ∧ WrO WB v w (.slice p' n' q') (w'.setCell ⟨WB, 0, none⟩ (.slice p' n' q')) ∧ w.grownBy w' v.ownBlock := by
  obtain ⟨p, q, rfl⟩ := own_len h.o
  obtain ⟨v', w', h1, h3, h4, h5⟩ := own_appS h.o h.le s (by omega) 49
  obtain ⟨p', q', rfl⟩ := own_len h3
  have hb' := h.b.of_block (h4.block _ h.b.lt (fun e => own_rowF h.o h.b (by decide) e.symm))
  have h2 : Below E w w' := (Below.refl E w).grown h4 h.le (fun q e => (h.o.lt q e).1)
  refine ⟨p, q, p', q', _, w', rfl, h1, hb'.cell (i := 0) (by decide), hb'.frozen 0, h2.setCell h.ge _, ⟨(hb'.set 0 _).congr fun j hj => ?_, ?_, h.ge, by simpa using Nat.le_trans h.le h2.size⟩, ⟨by simpa using h2.size, fun k k1 k2 k3 => ⟨(Below.heap_setCell _ _ _ _ k2).trans (h4.block k k1 (Ne.symm k3)), fun e => ?_⟩⟩, h4⟩
  · have : j = 0 := by omega
    subst this
    rfl
  · rw [List.length_append, bytN_len, show u8s (l ++ bytN s) = u8s l ++ u8s (bytN s) by unfold u8s; rw [List.map_append], ← u8s_str]
    exact own_keep h3 fun k hk => Below.heap_setCell _ _ _ _ (fun e => own_rowF h3 hb' (by decide) (hk.trans (congrArg some e)))
  · rcases h5 with q9 | q9 | q9
    · rw [q9] at e; exact absurd e (by simp)
    · exact k3 (q9.symm.trans e)
    · rw [q9] at e
      have := Option.some.inj e
      omega
theorem ePar_len {p : Par} (h : okPar p) : (ePar p).length ≤ 90 := by
  obtain ⟨h1, h2, h3, h4, h5⟩ := h
  have a1 := numB_nine (n := p.len.toNat) (by omega)
  have a2 := numB_nine (n := p.name.size) (by omega)
  unfold ePar eNam eFld
  rw [List.length_append, List.length_append, List.length_append, bytN_len, if_pos rfl, List.length_singleton]
  omega

set_option maxRecDepth 100000 in
set_option maxHeartbeats 4000000 in
theorem wpar_any (E WB : Nat) (l : List Nat) (v : Value) (w : World) (h : WrM E WB l v w) (x : Par) (hs : okPar x) (hl : l.length + 100 ≤ 100000000) :
    Calls Tryz.prog 41 #[.pointer (some ⟨WB, 0, none⟩), .agg #[.string x.name, .int .i64 x.kind, .int .i64 x.len]] w fun e w' => e = .returned (.tuple #[]) ∧ Below E w w' ∧ ∃ v', WrM E WB (l ++ ePar x) v' w' ∧ WrO WB v w v' w' := by
  obtain ⟨nm, kd, ln⟩ := x
  obtain ⟨s1, s2, s3, s4, s5⟩ := hs
  simp only at s1 s2 s3 s4 s5 ⊢
  obtain ⟨K, hK⟩ : ∃ B : Nat, kd = (B : Int) := ⟨kd.toNat, by omega⟩
  obtain ⟨I, hI⟩ : ∃ I : Nat, ln = (I : Int) := ⟨ln.toNat, by omega⟩
  subst hK hI
  have hi9 := numB_nine (n := I) (by omega)
  have hn9 := numB_nine (n := nm.size) (by omega)
  have hbn := bytN_len nm
  have HET : Hid (ePar ⟨nm, (K : Int), (I : Int)⟩ = [K] ++ ((numB nm.size ++ bytN nm) ++ numB I)) := by
    show ePar ⟨nm, (K : Int), (I : Int)⟩ = _
    unfold ePar eNam eFld
    simp only [Int.toNat_natCast, if_true]
  obtain ⟨V, hV⟩ : ∃ V, w.alloc (.cells #[.string nm, .int .i64 (K : Int), .int .i64 (I : Int)] 59) = V := ⟨_, rfl⟩
  have hb0 : Below w.heap.size w V := by rw [← hV]; exact bel_alloc _ _
  have hs0 : V.heap.size = w.heap.size + 1 := by rw [← hV]; simp
  obtain ⟨X, hX⟩ : ∃ X, w.heap.size = X := ⟨_, rfl⟩
  have x0 : V.cell? ⟨X, 0, none⟩ = some (.string nm) := by rw [← hV, ← hX]; simp [go_sem]
  have x1 : V.cell? ⟨X, 1, none⟩ = some (.int .i64 (K : Int)) := by rw [← hV, ← hX]; simp [go_sem]
  have x2 : V.cell? ⟨X, 2, none⟩ = some (.int .i64 (I : Int)) := by rw [← hV, ← hX]; simp [go_sem]
  have HXC : Hid (∀ u : World, u.heap[X]? = V.heap[X]? → u.cell? ⟨X, 0, none⟩ = some (.string nm) ∧ u.cell? ⟨X, 1, none⟩ = some (.int .i64 (K : Int)) ∧ u.cell? ⟨X, 2, none⟩ = some (.int .i64 (I : Int))) := fun u hu => ⟨(World.cell?_of_block hu (a := ⟨X, 0, none⟩)).trans x0, (World.cell?_of_block hu (a := ⟨X, 1, none⟩)).trans x1, (World.cell?_of_block hu (a := ⟨X, 2, none⟩)).trans x2⟩
  have h0 := h.below hb0
  have HXN : Hid (X < V.heap.size ∧ X ≠ WB ∧ v.ownBlock ≠ some X) := ⟨by omega, by have := h.b.lt; omega, fun e => by have := (h.o.lt _ e).2; omega⟩
  have KS := hidC (wsmall_any E WB l v V h0 (by omega) K (by omega))
  have KN := hidC (fun (m : List Nat) (v : Value) (u : World) (a : WrM E WB m v u) (n : Nat) (hn : n < 9223372036854775808) (b : m.length + (numB n).length ≤ 100000000) => wnumber_any E WB m v u a n hn b)
  have HBE : Hid (Below E w V) := hb0.mono h.le
  have HOV : Hid (∀ v' w', WrO WB v V v' w' → WrO WB v w v' w') := fun v' w' q => WrO.below h hb0 q
  have hl1 : (l ++ [K]).length + (numB nm.size).length ≤ 100000000 := by rw [List.length_append, List.length_singleton]; omega
  have hl2 : ((l ++ [K]) ++ numB nm.size).length + nm.size ≤ 100000000 := by rw [List.length_append, List.length_append, List.length_singleton]; omega
  have hl3 : (((l ++ [K]) ++ numB nm.size) ++ bytN nm).length + (numB I).length ≤ 100000000 := by rw [List.length_append, List.length_append, List.length_append, List.length_singleton]; omega
  have hm1 : nm.size < 9223372036854775808 := by omega
  have hm2 : I < 9223372036854775808 := by omega
  have HT : Hid (l ++ ePar ⟨nm, (K : Int), (I : Int)⟩ = ((((l ++ [K]) ++ numB nm.size) ++ bytN nm) ++ numB I)) := by
    show l ++ ePar _ = _
    rw [HET.out]
    simp
  clear h h0 hb0 hs0 s1 s2 s3 s4 s5 hi9 hn9 hbn HET hl
  go_enter Tryz.func41, Tryz.ntmps41
  go_upto_region 1 with fail
  try rw [hV]
  try rw [hX]
  clear hV hX
  go_upto_region 2 with (go_at_call 80; (with_reducible refine KS.out.mono ?_); rintro e9 w4 ⟨rfl, hb4, v4, hm4, ho4⟩; have HB4 := hidC hb4; have HM4 := hidC hm4; have HO4 := hidC ho4; clear hb4 hm4 ho4)
  obtain ⟨hX4, hv4⟩ := HO4.out.2 X HXN.out.1 HXN.out.2.1 HXN.out.2.2
  clear x0 x1 x2
  obtain ⟨x0, x1, x2⟩ := HXC.out w4 hX4
  have KN4 := hidC (KN.out _ _ _ HM4.out nm.size hm1 hl1)
  go_upto_region 3 with (go_at_call 79; (with_reducible refine KN4.out.mono ?_); rintro e9 w5 ⟨rfl, hb5, v5, hm5, ho5⟩; have HB5 := hidC hb5; have HM5 := hidC hm5; have HO5 := hidC ho5; clear hb5 hm5 ho5)
  obtain ⟨hX5, hv5⟩ := HO5.out.2 X (Nat.lt_of_lt_of_le HXN.out.1 HO4.out.1) HXN.out.2.1 hv4
  clear x0 x1 x2
  obtain ⟨x0, x1, x2⟩ := HXC.out w5 (hX5.trans hX4)
  have hbd : Below w5.heap.size w5 w5.drew := (Below.refl _ _).drew
  have HM5D := hidC (HM5.out.below hbd)
  obtain ⟨p, q, p', q', n', w6, hv6, hrun, c6, f6, hb6, hm6, ho6, hg6⟩ := HM5D.out.appS nm hl2
  subst hv6
  have b0 : w5.cell? ⟨WB, 0, none⟩ = some (.slice p ((l ++ [K]) ++ numB nm.size).length q) := HM5.out.b.cell (i := 0) (by decide)
  obtain ⟨L5, hL5⟩ : ∃ n, ((l ++ [K]) ++ numB nm.size).length = n := ⟨_, rfl⟩
  rw [hL5] at b0 c6 hrun
  have HRUN := hidC hrun
  have HXL : Hid (X < w5.heap.size) := Nat.lt_of_lt_of_le (Nat.lt_of_lt_of_le HXN.out.1 HO4.out.1) HO5.out.1
  have h6X : w6.heap[X]? = V.heap[X]? := (hg6.block X (by simpa using HXL.out) (Ne.symm hv5)).trans ((hbd.block X HXL.out).trans (hX5.trans hX4))
  have HB6 : Hid (Below E w5 (w6.setCell ⟨WB, 0, none⟩ (.slice p' n' q'))) := (hbd.mono HM5.out.le).trans hb6
  have HM6 := hidC hm6
  have HO6 := hidC (WrO.below HM5.out hbd ho6)
  obtain ⟨y0, y1, y2⟩ := HXC.out w6 h6X
  have nXW : ¬ X = WB := HXN.out.2.1
  have nWX : ¬ WB = X := fun r => nXW r.symm
  have hX6 : (w6.setCell ⟨WB, 0, none⟩ (.slice p' n' q')).heap[X]? = V.heap[X]? := (Below.heap_setCell _ _ _ _ nXW).trans h6X
  have KN6 := hidC (KN.out _ _ _ HM6.out I hm2 hl3)
  obtain ⟨W6, hW6⟩ : ∃ W, w6.setCell ⟨WB, 0, none⟩ (.slice p' n' q') = W := ⟨_, rfl⟩
  have HW6 := hidC hW6
  rw [hW6] at HB6 HM6 HO6 hX6 KN6
  have HX6 := hidC hX6
  clear hrun hbd hm6 ho6 hb6 hg6 h6X hX4 hX5 hv4 hv5 hX6 hW6 hL5 HM5D
  go_cut [] (fun wx => wx = W6)
  case first =>
    refine wp_region_held_drew (S := (fun v => v.cell? ⟨X, 0, none⟩ = some (.string nm))) (by kernel_rfl) ?_ (fun hHeld => ?_)
    · ((try dsimp only); go_keep)
    refine wpAnyH_take (i := 0) (v := ?_) (by simp only [List.getElem?_toArray, List.getElem?_cons_succ, List.getElem?_cons_zero]; rfl) (by kernel_rfl) (by kernel_rfl) (by kernel_rfl) (by exact fun _ _ _ h => h) (Or.inl ⟨by rfl, ?_⟩) (by assumption) ?_
    rotate_left 1
    · (intro wS hSw; (try dsimp only at hSw); go_simp; try (with_reducible rfl))
    try simp only [Act.put, List.setIfInBounds_toArray, List.set_cons_zero, List.set_cons_succ]
    refine wpAnyH_take (i := 1) (v := ?_) (by simp only [List.getElem?_toArray, List.getElem?_cons_succ, List.getElem?_cons_zero]; rfl) (by kernel_rfl) (by kernel_rfl) (by kernel_rfl) (by exact fun _ _ _ h => h) (Or.inl ⟨by rfl, ?_⟩) (by assumption) ?_
    rotate_left 1
    · (intro wS hSw; (try dsimp only at hSw); go_simp; try (with_reducible rfl))
    try simp only [Act.put, List.setIfInBounds_toArray, List.set_cons_zero, List.set_cons_succ]
    refine wpAnyH_take (i := 2) (v := ?_) (by simp only [List.getElem?_toArray, List.getElem?_cons_succ, List.getElem?_cons_zero]; rfl) (by kernel_rfl) (by kernel_rfl) (by kernel_rfl) (by exact fun _ _ _ h => h) (Or.inl ⟨by rfl, ?_⟩) (by assumption) ?_
    rotate_left 1
    · (intro wS hSw; (try dsimp only at hSw); go_simp; try (with_reducible rfl))
    try simp only [Act.put, List.setIfInBounds_toArray, List.set_cons_zero, List.set_cons_succ]
    refine wpAnyH_take (i := 3) (v := ?_) (by simp only [List.getElem?_toArray, List.getElem?_cons_succ, List.getElem?_cons_zero]; rfl) (by kernel_rfl) (by kernel_rfl) (by kernel_rfl) (by exact fun _ _ _ h => h) (Or.inl ⟨by rfl, ?_⟩) (by assumption) ?_
    rotate_left 1
    · (intro wS hSw; (try dsimp only at hSw); go_simp; try (with_reducible rfl))
    try simp only [Act.put, List.setIfInBounds_toArray, List.set_cons_zero, List.set_cons_succ]
    refine wpAnyH_take (i := 5) (v := ?_) (by simp only [List.getElem?_toArray, List.getElem?_cons_succ, List.getElem?_cons_zero]; rfl) (by kernel_rfl) (by kernel_rfl) (by kernel_rfl) (by exact fun _ _ _ h => h) (Or.inl ⟨by rfl, ?_⟩) (by assumption) ?_
    rotate_left 1
    · (intro wS hSw; (try dsimp only at hSw); go_simp; try (with_reducible rfl))
    try simp only [Act.put, List.setIfInBounds_toArray, List.set_cons_zero, List.set_cons_succ]
    clear hHeld
    refine wpAnyH_ready (rs := [4, 6]) (by kernel_rfl) (by simp) ?_
    refine AllReadyH.cons (i := 4) (by simp only [List.getElem?_toArray, List.getElem?_cons_succ, List.getElem?_cons_zero]; rfl) (fun K hK => ?_) ?_
    · go_simp
      refine hK.out _ _ ?_ (fun hHeld => ?_)
      · ((try dsimp only); go_keep)
      clear hK K
      try simp only [Act.put, List.setIfInBounds_toArray, List.set_cons_zero, List.set_cons_succ]
      clear hHeld
      refine wpAnyH_ready (rs := [6]) (by kernel_rfl) (by simp) ?_
      refine AllReadyH.cons (i := 6) (by simp only [List.getElem?_toArray, List.getElem?_cons_succ, List.getElem?_cons_zero]; rfl) (fun K hK => ?_) AllReadyH.nil
      go_simp
      refine hK.out _ _ ?_ (fun hHeld => ?_)
      · ((try dsimp only); go_keep)
      clear hK K
      try simp only [Act.put, List.setIfInBounds_toArray, List.set_cons_zero, List.set_cons_succ]
      clear hHeld
      refine wpAnyH_ready (rs := [7]) (by kernel_rfl) (by simp) ?_
      refine AllReadyH.cons (i := 7) (by simp only [List.getElem?_toArray, List.getElem?_cons_succ, List.getElem?_cons_zero]; rfl) (fun K hK => ?_) AllReadyH.nil
      refine ready_appS _ _ _ _ (by rfl) _ _ _ (by rfl) (by rfl) HRUN.out ?_ _ (by rfl)
      refine hK.out _ _ ?_ (fun hHeld => ?_)
      · ((try dsimp only); go_keep)
      clear hK K
      try simp only [Act.put, List.setIfInBounds_toArray, List.set_cons_zero, List.set_cons_succ]
      refine wpAnyH_take (i := 8) (v := ?_) (by simp only [List.getElem?_toArray, List.getElem?_cons_succ, List.getElem?_cons_zero]; rfl) (by kernel_rfl) (by kernel_rfl) (by kernel_rfl) (by exact fun _ _ _ h => h) (Or.inl ⟨by rfl, ?_⟩) (by assumption) ?_
      rotate_left 1
      · (intro wS hSw; (try dsimp only at hSw); go_simp; try (with_reducible rfl))
      try simp only [Act.put, List.setIfInBounds_toArray, List.set_cons_zero, List.set_cons_succ]
      refine wpAnyH_take (i := 9) (v := ?_) (by simp only [List.getElem?_toArray, List.getElem?_cons_succ, List.getElem?_cons_zero]; rfl) (by kernel_rfl) (by kernel_rfl) (by kernel_rfl) (by exact fun _ _ _ h => h) (Or.inl ⟨by rfl, ?_⟩) (by assumption) ?_
      rotate_left 1
      · (intro wS hSw; (try dsimp only at hSw); go_simp; try (with_reducible rfl))
      try simp only [Act.put, List.setIfInBounds_toArray, List.set_cons_zero, List.set_cons_succ]
      clear hHeld
      refine wpAnyH_ready (rs := [10]) (by kernel_rfl) (by simp) ?_
      refine AllReadyH.cons (i := 10) (by simp only [List.getElem?_toArray, List.getElem?_cons_succ, List.getElem?_cons_zero]; rfl) (fun K hK => ?_) AllReadyH.nil
      go_simp
      refine hK.out _ _ ?_ (fun hHeld => ?_)
      · ((try dsimp only); go_keep)
      clear hK K
      try simp only [Act.put, List.setIfInBounds_toArray, List.set_cons_zero, List.set_cons_succ]
      refine wpAnyH_done (by kernel_rfl) ?_ _
      go_wp2
      go_meet
      exact HW6.out
    refine AllReadyH.cons (i := 6) (by simp only [List.getElem?_toArray, List.getElem?_cons_succ, List.getElem?_cons_zero]; rfl) (fun K hK => ?_) AllReadyH.nil
    go_simp
    refine hK.out _ _ ?_ (fun hHeld => ?_)
    · ((try dsimp only); go_keep)
    clear hK K
    try simp only [Act.put, List.setIfInBounds_toArray, List.set_cons_zero, List.set_cons_succ]
    clear hHeld
    refine wpAnyH_ready (rs := [4]) (by kernel_rfl) (by simp) ?_
    refine AllReadyH.cons (i := 4) (by simp only [List.getElem?_toArray, List.getElem?_cons_succ, List.getElem?_cons_zero]; rfl) (fun K hK => ?_) AllReadyH.nil
    go_simp
    refine hK.out _ _ ?_ (fun hHeld => ?_)
    · ((try dsimp only); go_keep)
    clear hK K
    try simp only [Act.put, List.setIfInBounds_toArray, List.set_cons_zero, List.set_cons_succ]
    clear hHeld
    refine wpAnyH_ready (rs := [7]) (by kernel_rfl) (by simp) ?_
    refine AllReadyH.cons (i := 7) (by simp only [List.getElem?_toArray, List.getElem?_cons_succ, List.getElem?_cons_zero]; rfl) (fun K hK => ?_) AllReadyH.nil
    refine ready_appS _ _ _ _ (by rfl) _ _ _ (by rfl) (by rfl) HRUN.out ?_ _ (by rfl)
    refine hK.out _ _ ?_ (fun hHeld => ?_)
    · ((try dsimp only); go_keep)
    clear hK K
    try simp only [Act.put, List.setIfInBounds_toArray, List.set_cons_zero, List.set_cons_succ]
    refine wpAnyH_take (i := 8) (v := ?_) (by simp only [List.getElem?_toArray, List.getElem?_cons_succ, List.getElem?_cons_zero]; rfl) (by kernel_rfl) (by kernel_rfl) (by kernel_rfl) (by exact fun _ _ _ h => h) (Or.inl ⟨by rfl, ?_⟩) (by assumption) ?_
    rotate_left 1
    · (intro wS hSw; (try dsimp only at hSw); go_simp; try (with_reducible rfl))
    try simp only [Act.put, List.setIfInBounds_toArray, List.set_cons_zero, List.set_cons_succ]
    refine wpAnyH_take (i := 9) (v := ?_) (by simp only [List.getElem?_toArray, List.getElem?_cons_succ, List.getElem?_cons_zero]; rfl) (by kernel_rfl) (by kernel_rfl) (by kernel_rfl) (by exact fun _ _ _ h => h) (Or.inl ⟨by rfl, ?_⟩) (by assumption) ?_
    rotate_left 1
    · (intro wS hSw; (try dsimp only at hSw); go_simp; try (with_reducible rfl))
    try simp only [Act.put, List.setIfInBounds_toArray, List.set_cons_zero, List.set_cons_succ]
    clear hHeld
    refine wpAnyH_ready (rs := [10]) (by kernel_rfl) (by simp) ?_
    refine AllReadyH.cons (i := 10) (by simp only [List.getElem?_toArray, List.getElem?_cons_succ, List.getElem?_cons_zero]; rfl) (fun K hK => ?_) AllReadyH.nil
    go_simp
    refine hK.out _ _ ?_ (fun hHeld => ?_)
    · ((try dsimp only); go_keep)
    clear hK K
    try simp only [Act.put, List.setIfInBounds_toArray, List.set_cons_zero, List.set_cons_succ]
    refine wpAnyH_done (by kernel_rfl) ?_ _
    go_wp2
    go_meet
    exact HW6.out
  case rest =>
    subst hcut
    clear x0 x1 x2 y0 y1 y2 b0 c6 f6
    obtain ⟨x0, x1, x2⟩ := HXC.out _ HX6.out
    go_wp2_with (go_at_call 79; (with_reducible refine KN6.out.mono ?_); rintro e9 w7 ⟨rfl, hb7, v7, hm7, ho7⟩; have HB7 := hidC hb7; have HM7 := hidC hm7; have HO7 := hidC ho7; clear hb7 hm7 ho7)
    first | go_end0 | refine bodyPost_ret (results_none rfl _ _ _) rfl ?_
    refine ⟨rfl, (((HBE.out.trans HB4.out).trans HB5.out).trans HB6.out).trans HB7.out, v7, ?_, HOV.out _ _ (((HO4.out.trans HO5.out).trans HO6.out).trans HO7.out)⟩
    rw [HT.out]
    exact HM7.out

end Go.Proofs.YtnlgkkbmbijndaaGreat
/- Package code: the writer: lists of parameters. -/
namespace Go.Proofs.YtnlgkkbmbijndaaGreat
open Go.RowKit
set_option linter.unusedVariables false
set_option linter.unusedSimpArgs false

set_option maxRecDepth 100000 in
set_option maxHeartbeats 4000000 in
theorem wlistP_any (E WB : Nat) (l : List Nat) (v : Value) (w : World) (h : WrM E WB l v w) (rs : List Par) (hrs : ∀ x ∈ rs, okPar x) (hn : rs.length ≤ 64) (p : Option Addr) (q : Nat) (hr : ∀ u, Below E w u → RowG 3 parCells u (.slice p rs.length q) rs) (hl : l.length + 1000000 ≤ 100000000) :
    Calls Tryz.prog 40 #[.pointer (some ⟨WB, 0, none⟩), .slice p rs.length q, .func (.func 41) #[.pointer (some ⟨WB, 0, none⟩)] #[]] w fun e w' => e = .returned (.tuple #[]) ∧ Below E w w' ∧ ∃ v', WrM E WB (l ++ eLst ePar rs) v' w' ∧ WrO WB v w v' w' := by
  obtain ⟨N, hN⟩ : ∃ N, rs.length = N := ⟨_, rfl⟩
  have hnl := numB_nine (n := N) (by omega)
  have HLN : Hid (∀ k, ((l ++ numB N) ++ (rs.take k).flatMap ePar).length + 100 ≤ 100000000) := fun k => by
    have h1 := flat_len_le (e := ePar) (m := 90) (rs.take k) (fun x hx => ePar_len (hrs x (List.mem_of_mem_take hx)))
    rw [List.length_take] at h1
    rw [List.length_append, List.length_append]
    have h2 : min k rs.length ≤ 64 := by omega
    omega
  have HFM := hidC (fun (k : Nat) (hk : k < rs.length) => flat_more ePar hk)
  have HEL : Hid (eLst ePar rs = numB N ++ rs.flatMap ePar) := by show eLst ePar rs = _; unfold eLst; rw [hN]
  have KW := hidC (fun (m : List Nat) (v : Value) (u : World) (a : WrM E WB m v u) (x : Par) (hx : okPar x) (b : m.length + 100 ≤ 100000000) => wpar_any E WB m v u a x hx (by omega))
  have KN := hidC (wnumber_any E WB l v w h N (by omega) (by omega))
  have HRW : Hid (∀ u, Below E w u → RowG 3 parCells u (.slice p N q) rs) := fun u hu => by rw [← hN]; exact hr u hu
  have HOK := hidC hrs
  have HN := hidC hN
  rw [hN] at hn ⊢
  clear hr hrs h hN
  go_enter Tryz.func40, Tryz.ntmps40
  go_upto_block 0 with (go_at_call 79; (with_reducible refine KN.out.mono ?_); rintro e9 w4 ⟨rfl, hb4, v4, hm4, ho4⟩; have HJ0 : Hid (Below E w w4 ∧ ∃ v', WrM E WB ((l ++ numB N) ++ (rs.take 0).flatMap ePar) v' w4 ∧ WrO WB v w v' w4) := ⟨hb4, v4, (by rw [List.take_zero, List.flatMap_nil, List.append_nil]; exact hm4), ho4⟩; clear hb4 hm4 ho4)
  go_wp2_with fail
  go_loopw [14] (fun iv wx => ∃ k : Nat, k ≤ N ∧ iv = .int .i64 (k : Int) ∧ Hid (Below E w wx ∧ ∃ v', WrM E WB ((l ++ numB N) ++ (rs.take k).flatMap ePar) v' wx ∧ WrO WB v w v' wx)) (fun iv _ => N - (intOf iv).toNat)
  case atStart => exact ⟨0, Nat.zero_le _, rfl, HJ0.out⟩
  case round =>
    clear HJ0
    obtain ⟨k, hk, rfl, HJ⟩ := hrel
    by_cases hlt : k < N
    · have hkl : k < rs.length := by have := HN.out; omega
      obtain ⟨hb, v2, hm, ho⟩ := HJ.out
      obtain ⟨rb, ro, rfl, hcl⟩ := (HRW.out wr hb).at hkl
      have hx := HOK.out rs[k] (List.getElem_mem hkl)
      have hfm := HFM.out k hkl
      obtain ⟨x, hxe⟩ : ∃ x, rs[k] = x := ⟨_, rfl⟩
      rw [hxe] at hcl hx hfm
      obtain ⟨V, hV⟩ : ∃ V, wr.alloc (.cells #[.string (x.name), .int .i64 (x.kind), .int .i64 (x.len)] 59) = V := ⟨_, rfl⟩
      have hbV : Below wr.heap.size wr V := by rw [← hV]; exact bel_alloc _ _
      have y0 := hcl.at 0 (v := .string (x.name)) rfl
      rw [Nat.add_zero] at y0
      have y1 := hcl.at 1 (v := .int .i64 (x.kind)) rfl
      have y2 := hcl.at 2 (v := .int .i64 (x.len)) rfl
      have z0 : V.cell? ⟨wr.heap.size, 0, none⟩ = some (.string (x.name)) := by rw [← hV]; simp [go_sem]
      have z1 : V.cell? ⟨wr.heap.size, 1, none⟩ = some (.int .i64 (x.kind)) := by rw [← hV]; simp [go_sem]
      have z2 : V.cell? ⟨wr.heap.size, 2, none⟩ = some (.int .i64 (x.len)) := by rw [← hV]; simp [go_sem]
      have llb : rb < wr.heap.size := mcell_lt y0
      have n9 : ¬ rb = wr.heap.size := by omega
      have KX := hidC (KW.out _ v2 V (hm.below hbV) x hx (HLN.out k))
      have HFM' := hidC hfm
      have HBV : Hid (Below E w V) := hb.trans (hbV.mono hm.le)
      have HOV : Hid (∀ v' w', WrO WB v2 V v' w' → WrO WB v w v' w') := fun v' w' z => ho.trans (WrO.below hm hbV z)
      have i1 : (0 : Int) ≤ (k : Int) := by omega
      have i2 : (k : Int) < (N : Int) := by omega
      have wi : IntKind.i64.wrap ((k : Int) + 1) = ((k + 1 : Nat) : Int) := by rw [IntKind.wrap_i64]; omega
      clear hb hm ho hcl hx hfm hxe hbV llb HJ
      go_wp2_with (go_at_call 41; (with_reducible refine KX.out.mono ?_); rintro e9 w5 ⟨rfl, hb5, v5, hm5, ho5⟩; have HQ : Hid (Below E w w5 ∧ ∃ v', WrM E WB ((l ++ numB N) ++ (rs.take (k + 1)).flatMap ePar) v' w5 ∧ WrO WB v w v' w5) := ⟨HBV.out.trans hb5, v5, (by rw [HFM'.out, ← List.append_assoc]; exact hm5), HOV.out _ _ ho5⟩; clear hb5 hm5 ho5)
      go_roundw
      case rel => exact ⟨k + 1, by omega, by go_num, HQ.out⟩
      case measure => simp [intOf]; omega
    · have e1 : ¬ (k : Int) < (N : Int) := by omega
      have hall : rs.take k = rs := List.take_of_length_le (by have := HN.out; omega)
      have HQ : Hid (Below E w wr ∧ ∃ v', WrM E WB (l ++ eLst ePar rs) v' wr ∧ WrO WB v w v' wr) := by
        have h9 := HJ.out
        rw [hall, List.append_assoc, ← HEL.out] at h9
        exact h9
      clear hlt hall HJ
      go_wp2
      first | go_end0 | refine bodyPost_ret (results_none rfl _ _ _) rfl ?_ | (simp only [Exit.inBlock, Exit.then]; refine bodyPost_ret (results_none rfl _ _ _) rfl ?_)
      exact ⟨rfl, HQ.out.1, HQ.out.2⟩

end Go.Proofs.YtnlgkkbmbijndaaGreat
