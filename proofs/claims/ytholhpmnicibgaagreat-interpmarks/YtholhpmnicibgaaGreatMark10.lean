import Derived.Test.YtholhpmnicibgaaGreatMark9
import Derived.Test.YtholhpmnicibgaaGreatMark1
import Derived.Test.YtholhpmnicibgaaGreatMark8
import Derived.Maps.OwnSet
import Derived.Maps.OwnOps
import Derived.Maps.Ext
import Derived.Test.YtholhpmnicibgaaGreatRows
import Derived.WalkKit
import Derived.WalkSpells
import Derived.WalkLawsBesides
/- Package ir: faultAhead. -/
namespace Go.Proofs.YtholhpmnicibgaaGreat
open Go.RowKit
set_option linter.unusedVariables false
set_option linter.unusedSimpArgs false

set_option maxRecDepth 100000 in
set_option maxHeartbeats 2000000 in
theorem faultAhead_any (C : Nat) (v0 v1 v2 v3 : Value) (c : Cd) (hk : CdOk c) (w : World) (hc : CdAt w C v0 v1 v2 v3 c) :
    Calls Tryz.prog 34 #[.pointer (some ⟨C, 0, none⟩)] w fun e w' => e = .returned (.int .i64 (aheadP c)) ∧ Below w.heap.size w w' := by
  have K1 := sCheck_any v0 c.sign hk.signL hk.names w hc.2.sign.rd
  have K2 := fun w h => typesMayBe_any C v0 v1 v2 v3 c hk w h
  have K3 := fun w h => slotsMayBe_any C v0 v1 v2 v3 c hk w h
  unfold aheadP
  obtain ⟨E, hE⟩ : ∃ E, checkP c.sign = E := ⟨_, rfl⟩
  obtain ⟨X, hX⟩ : ∃ X, typesMay c = X := ⟨_, rfl⟩
  obtain ⟨Y, hY⟩ : ∃ Y, slotsMay c = Y := ⟨_, rfl⟩
  simp only [hE] at K1 ⊢
  simp only [hX] at K2 ⊢
  simp only [hY] at K3 ⊢
  have HC0 : Hid (CdAt w C v0 v1 v2 v3 c) := hc
  obtain ⟨hcc, hcv⟩ := hc
  have b1 := hk.regsL
  have b2 := hk.slotsL
  have b3 := hk.listL
  obtain ⟨p1, q1, rfl, r1⟩ := hcv.regs
  obtain ⟨p2, q2, rfl, r2⟩ := hcv.slots
  obtain ⟨p3, q3, rfl, r3⟩ := hcv.list
  have c0 := hcc.at 0 rfl
  have c1 := hcc.at 1 rfl
  have c2 := hcc.at 2 rfl
  have c3 := hcc.at 3 rfl
  rw [Nat.zero_add] at c0 c1 c2 c3
  obtain ⟨N1, h1⟩ : ∃ N, c.regs.length = N := ⟨_, rfl⟩
  obtain ⟨N2, h2⟩ : ∃ N, c.slots.length = N := ⟨_, rfl⟩
  obtain ⟨N3, h3⟩ : ∃ N, c.list.length = N := ⟨_, rfl⟩
  rw [h1] at K2 K3 c1 b1 HC0 ⊢
  rw [h2] at K2 K3 c2 b2 HC0 ⊢
  rw [h3] at K2 K3 c3 b3 HC0 ⊢
  have HK1 : Hid (Calls Tryz.prog 53 #[v0] w fun e w' => e = .returned (.int .i64 E) ∧ Below w.heap.size w w') := K1
  have HK2 : Hid (∀ w, CdAt w C v0 (.slice p1 N1 q1) (.slice p2 N2 q2) (.slice p3 N3 q3) c → Calls Tryz.prog 54 #[.pointer (some ⟨C, 0, none⟩)] w fun e w' => e = .returned (.bool X) ∧ Below w.heap.size w w') := K2
  have HK3 : Hid (∀ w, CdAt w C v0 (.slice p1 N1 q1) (.slice p2 N2 q2) (.slice p3 N3 q3) c → Calls Tryz.prog 55 #[.pointer (some ⟨C, 0, none⟩)] w fun e w' => e = .returned (.bool Y) ∧ Below w.heap.size w w') := K3
  have HC : Hid (∀ v, Below w.heap.size w v → v.cell? ⟨C, 1, none⟩ = some (.slice p1 N1 q1) ∧ v.cell? ⟨C, 2, none⟩ = some (.slice p2 N2 q2) ∧ v.cell? ⟨C, 3, none⟩ = some (.slice p3 N3 q3)) := fun v hv => ⟨kc hv c1, kc hv c2, kc hv c3⟩
  clear K1 K2 K3 hE hX hY h1 h2 h3 r1 r2 r3 hcc hcv hk
  by_cases hE : E = 0
  · subst hE
    rw [if_neg (by simp)]
    by_cases s1 : 16384 < N1 ∨ 32768 < N3
    · rw [if_pos s1]
      by_cases s2 : 16384 < N1
      · have s2' : (16384 : Int) < (N1 : Int) := by omega
        clear s1 s2
        go_enter Tryz.func34, Tryz.ntmps34
        go_wp2_with (go_at_call 53; refine HK1.out.mono ?_; rintro e w1 ⟨rfl, hb1⟩; obtain ⟨d1, d2, d3⟩ := HC.out w1 hb1)
        all_goals (go_ret; exact ⟨rfl, hb1⟩)
      · have s2' : ¬ (16384 : Int) < (N1 : Int) := by omega
        have s3' : (32768 : Int) < (N3 : Int) := by omega
        clear s1 s2
        go_enter Tryz.func34, Tryz.ntmps34
        go_wp2_with (go_at_call 53; refine HK1.out.mono ?_; rintro e w1 ⟨rfl, hb1⟩; obtain ⟨d1, d2, d3⟩ := HC.out w1 hb1)
        all_goals (go_ret; exact ⟨rfl, hb1⟩)
    · rw [if_neg s1]
      have s2' : ¬ (16384 : Int) < (N1 : Int) := by omega
      have s3' : ¬ (32768 : Int) < (N3 : Int) := by omega
      clear s1
      by_cases s4 : 4096 < N2
      · rw [if_pos s4]
        have s4' : (4096 : Int) < (N2 : Int) := by omega
        clear s4
        go_enter Tryz.func34, Tryz.ntmps34
        go_wp2_with (go_at_call 53; refine HK1.out.mono ?_; rintro e w1 ⟨rfl, hb1⟩; obtain ⟨d1, d2, d3⟩ := HC.out w1 hb1)
        all_goals (go_ret; exact ⟨rfl, hb1⟩)
      · rw [if_neg s4]
        have s4' : ¬ (4096 : Int) < (N2 : Int) := by omega
        clear s4
        cases X
        · go_enter Tryz.func34, Tryz.ntmps34
          go_wp2_with (first
            | (go_at_call 53; refine HK1.out.mono ?_; rintro e w1 ⟨rfl, hb1⟩; obtain ⟨d1, d2, d3⟩ := HC.out w1 hb1)
            | (go_at_call 54; refine (HK2.out _ (HC0.out.below hb1)).mono ?_; rintro e w2 ⟨rfl, hb2⟩; have HB2 := bel hb1 hb2)
            | (go_at_call 55; refine (HK3.out _ (HC0.out.below HB2)).mono ?_; rintro e w3 ⟨rfl, hb3⟩; have HB3 := bel HB2 hb3))
          all_goals (go_ret; exact ⟨rfl, HB2⟩)
        · cases Y
          · go_enter Tryz.func34, Tryz.ntmps34
            go_wp2_with (first
              | (go_at_call 53; refine HK1.out.mono ?_; rintro e w1 ⟨rfl, hb1⟩; obtain ⟨d1, d2, d3⟩ := HC.out w1 hb1)
              | (go_at_call 54; refine (HK2.out _ (HC0.out.below hb1)).mono ?_; rintro e w2 ⟨rfl, hb2⟩; have HB2 := bel hb1 hb2)
              | (go_at_call 55; refine (HK3.out _ (HC0.out.below HB2)).mono ?_; rintro e w3 ⟨rfl, hb3⟩; have HB3 := bel HB2 hb3))
            all_goals (go_ret; exact ⟨rfl, HB3⟩)
          · go_enter Tryz.func34, Tryz.ntmps34
            go_wp2_with (first
              | (go_at_call 53; refine HK1.out.mono ?_; rintro e w1 ⟨rfl, hb1⟩; obtain ⟨d1, d2, d3⟩ := HC.out w1 hb1)
              | (go_at_call 54; refine (HK2.out _ (HC0.out.below hb1)).mono ?_; rintro e w2 ⟨rfl, hb2⟩; have HB2 := bel hb1 hb2)
              | (go_at_call 55; refine (HK3.out _ (HC0.out.below HB2)).mono ?_; rintro e w3 ⟨rfl, hb3⟩; have HB3 := bel HB2 hb3))
            all_goals (go_ret; exact ⟨rfl, HB3⟩)
  · rw [if_pos hE]
    have hE' : (E == 0) = false := by simpa using hE
    go_enter Tryz.func34, Tryz.ntmps34
    go_wp2_with (go_at_call 53; refine HK1.out.mono ?_; rintro e w1 ⟨rfl, hb1⟩)
    all_goals (go_ret; exact ⟨rfl, hb1⟩)

end Go.Proofs.YtholhpmnicibgaaGreat
/- Package ir: Check. -/
namespace Go.Proofs.YtholhpmnicibgaaGreat
open Go.RowKit
set_option linter.unusedVariables false
set_option linter.unusedSimpArgs false

theorem info_Bool : (Tryz.prog.info? 4).map (fun i => (i.zero, i.size, i.bytes)) = some (some (.bool false), 1, 1) := by kernel_rfl
theorem make_B (m : Nat) (h : m ≤ 70368744177664) (w : World) : (Instr.makeSlice 101 (.int .i64 m) (.int .i64 m)).run Tryz.prog w = .ok (.slice (some ⟨w.heap.size, 0, none⟩) m m) (w.alloc (.cells (madeCells #[.bool false] m) 4)) :=
  run_make_row' (P := Tryz.prog) 101 4 (.bool false) 1 Tryz.underlying101 info_Bool rfl .i64 .i64 m (by omega) (by omega) w

/-- The walk's beginning. -/
theorem WS.start (w : World) (C n : Nat) : WS w.heap.size (w.heap.size + 1) C n w.heap.size (.slice none 0 0) (.slice none 0 0) ((w.alloc (.cells (madeCells #[.bool false] n) 4)).alloc (.cells #[.pointer (some ⟨C, 0, none⟩), .slice (some ⟨w.heap.size, 0, none⟩) n n, .slice none 0 0, .slice none 0 0] 104)) ⟨[], []⟩ := by
  have h1 := (World.rowIs_made w (.bool false) n 4).alloc (.cells #[.pointer (some ⟨C, 0, none⟩), .slice (some ⟨w.heap.size, 0, none⟩) n n, .slice none 0 0, .slice none 0 0] 104)
  have h2 := World.rowIs_alloc (w.alloc (.cells (madeCells #[.bool false] n) 4)) #[.pointer (some ⟨C, 0, none⟩), .slice (some ⟨w.heap.size, 0, none⟩) n n, .slice none 0 0, .slice none 0 0] 104 (wkF C w.heap.size n (.slice none 0 0) (.slice none 0 0)) (fun i hi => by
    have hi' : i < 4 := hi
    obtain rfl | rfl | rfl | rfl : i = 0 ∨ i = 1 ∨ i = 2 ∨ i = 3 := by omega
    all_goals rfl)
  have hs : (w.alloc (.cells (madeCells #[.bool false] n) 4)).heap.size = w.heap.size + 1 := by simp
  rw [hs] at h2
  exact ⟨h2, h1.congr fun j _ => by simp, World.ownsRow_nil _ _ _ 1, World.ownsRow_nil _ _ _ 3, by omega, Nat.le_refl _, by omega, by simp [Value.ownBlock], by simp [Value.ownBlock], by simp [Value.ownBlock], by simp [Value.ownBlock], by simp [Value.ownBlock]⟩

set_option maxRecDepth 100000 in
set_option maxHeartbeats 4000000 in
theorem check_any (v0 v1 v2 v3 : Value) (c : Cd) (hk : CdOk c) (w : World) (hv : CdV w v0 v1 v2 v3 c) :
    Calls Tryz.prog 19 #[.agg #[v0, v1, v2, v3]] w fun e w' => e = .returned (.tuple #[.int .i64 (checkC c).1, .int .i64 (checkC c).2]) ∧ Below w.heap.size w w' := by
  have hat : CdAt (w.alloc (.cells #[v0, v1, v2, v3] 27)) w.heap.size v0 v1 v2 v3 c := by
    refine ⟨fun j hj => ?_, hv.below (bel_alloc _ _)⟩
    have hj' : j < 4 := hj
    obtain rfl | rfl | rfl | rfl : j = 0 ∨ j = 1 ∨ j = 2 ∨ j = 3 := by omega
    all_goals simp [go_sem]
  have K1 := faultAhead_any w.heap.size v0 v1 v2 v3 c hk _ hat
  unfold checkC
  obtain ⟨A, hA⟩ : ∃ A, aheadP c = A := ⟨_, rfl⟩
  rw [hA] at K1 ⊢
  have HK1 : Hid (Calls Tryz.prog 34 #[.pointer (some ⟨w.heap.size, 0, none⟩)] (w.alloc (.cells #[v0, v1, v2, v3] 27)) fun e w' => e = .returned (.int .i64 A) ∧ Below (w.alloc (.cells #[v0, v1, v2, v3] 27)).heap.size (w.alloc (.cells #[v0, v1, v2, v3] 27)) w') := K1
  clear K1
  by_cases h0 : A = 0
  · rw [if_neg (by simp [h0])]
    have hsz : c.regs.length ≤ 16384 ∧ c.list.length ≤ 32768 ∧ typesMay c = true := by
      rw [h0] at hA
      unfold aheadP at hA
      split at hA
      · rename_i e1; exact absurd hA e1
      · split at hA
        · exact absurd hA (by decide)
        · split at hA
          · exact absurd hA (by decide)
          · split at hA
            · rename_i e1 e2 e3 e4
              simp only [Bool.and_eq_true] at e4
              exact ⟨by omega, by omega, e4.1⟩
            · exact absurd hA (by decide)
    obtain ⟨hn, hN, htm⟩ := hsz
    clear hA
    subst h0
    have KT := fun E G gi vs vo s b o i w h ok hc hi hb hb0 hb1 => take_any E G w.heap.size c.regs.length gi vs vo s v0 v1 v2 v3 c hk b o i w h rfl ok hn hc hi hb htm hb0 hb1
    clear KT
    have hr := hv.list
    obtain ⟨p3, q3, rfl, hr3⟩ := hv.list
    obtain ⟨p1, q1, rfl, hr1⟩ := hv.regs
    have HAT : Hid (CdAt (w.alloc (.cells #[v0, .slice p1 c.regs.length q1, v2, .slice p3 c.list.length q3] 27)) w.heap.size v0 (.slice p1 c.regs.length q1) v2 (.slice p3 c.list.length q3) c) := hat
    obtain ⟨Pr, hPr⟩ : ∃ P, goP c ⟨[], []⟩ 0 c.list = P := ⟨_, rfl⟩
    rw [hPr]
    have HP : Hid (goP c ⟨[], []⟩ 0 c.list = Pr) := hPr
    have HROW : Hid (RowG 7 inC w (.slice p3 c.list.length q3) c.list) := hr
    have HIB : Hid (∀ i ∈ c.list, 0 ≤ i.bits ∧ i.bits < 4294967296) := hk.ibits
    obtain ⟨n, hnn⟩ : ∃ n, c.regs.length = n := ⟨_, rfl⟩
    obtain ⟨N, hNN⟩ : ∃ N, c.list.length = N := ⟨_, rfl⟩
    have HNE : Hid (c.regs.length = n) := hnn
    have HNL : Hid (c.list.length = N) := hNN
    rw [hnn] at hn HK1 HAT
    rw [hNN] at hN HK1 HAT HROW
    rw [hnn, hNN]
    have mk := fun w => make_B n (by omega) w
    have HOKC : Hid (CdOk c) := hk
    have HTM : Hid (typesMay c = true) := htm
    have f1 := HAT.out.1.at 1 rfl
    have f3 := HAT.out.1.at 3 rfl
    rw [Nat.zero_add] at f1 f3
    have HC : Hid (∀ v, Below (w.alloc (.cells #[v0, .slice p1 n q1, v2, .slice p3 N q3] 27)).heap.size (w.alloc (.cells #[v0, .slice p1 n q1, v2, .slice p3 N q3] 27)) v → v.cell? ⟨w.heap.size, 1, none⟩ = some (.slice p1 n q1) ∧ v.cell? ⟨w.heap.size, 3, none⟩ = some (.slice p3 N q3)) := fun v hv => ⟨kc hv f1, kc hv f3⟩
    clear hat hv hr hr3 hr1 hPr hnn hNN hk htm f1 f3
    go_enter Tryz.func19, Tryz.ntmps19
    go_wp2_with (go_at_call 34; refine HK1.out.mono ?_; rintro e w1 ⟨rfl, hb1⟩; obtain ⟨g1, g3⟩ := HC.out w1 hb1; have g4 : ((w1.alloc (.cells (madeCells #[.bool false] n) 4)).alloc (.cells #[.pointer (some ⟨w.heap.size, 0, none⟩), .slice (some ⟨w1.heap.size, 0, none⟩) n n, .slice none 0 0, .slice none 0 0] 104)).cell? ⟨w.heap.size, 3, none⟩ = some (.slice p3 N q3) := kc (bel_alloc _ _) (kc (bel_alloc _ _) g3))
    have HB1 : Hid (Below w.heap.size w w1) := bel (bel_alloc _ _) hb1
    have HAT1 : Hid (CdAt w1 w.heap.size v0 (.slice p1 n q1) v2 (.slice p3 N q3) c) := HAT.out.below hb1
    have hs1 : w.heap.size < w1.heap.size := by have := hb1.size; simp at this; omega
    have HS0 := WS.start w1 w.heap.size n
    have HB0 : Below w1.heap.size w1 ((w1.alloc (.cells (madeCells #[.bool false] n) 4)).alloc (.cells #[.pointer (some ⟨w.heap.size, 0, none⟩), .slice (some ⟨w1.heap.size, 0, none⟩) n n, .slice none 0 0, .slice none 0 0] 104)) := bel (bel_alloc _ _) (bel_alloc _ _)
    obtain ⟨W2, hW2⟩ : ∃ W2, (w1.alloc (.cells (madeCells #[.bool false] n) 4)).alloc (.cells #[.pointer (some ⟨w.heap.size, 0, none⟩), .slice (some ⟨w1.heap.size, 0, none⟩) n n, .slice none 0 0, .slice none 0 0] 104) = W2 := ⟨_, rfl⟩
    rw [hW2] at HS0 HB0
    try rw [hW2]
    clear HK1 HC hb1 mk HAT g4 hW2
    go_loopw [19] (fun iv wr => ∃ (j : Nat) (s : Wk) (vs vo : Value), j ≤ N ∧ iv = .int .i64 j ∧ Below w1.heap.size w1 wr ∧ WS w1.heap.size (w1.heap.size + 1) w.heap.size n w1.heap.size vs vo wr s ∧ OkS n s ∧ Hid (goP c s j (c.list.drop j) = Pr)) (fun iv _ => N - (intOf iv).toNat)
    case atStart => exact ⟨0, ⟨[], []⟩, _, _, Nat.zero_le _, rfl, HB0, HS0, OkS.start n, by show _ = _; rw [List.drop_zero]; exact HP.out⟩
    case round =>
      obtain ⟨j, s, vs, vo, hj, rfl, hb, hws, hok, hgo⟩ := hrel
      have HWS : Hid (WS w1.heap.size (w1.heap.size + 1) w.heap.size n w1.heap.size vs vo wr s) := hws
      have HOK : Hid (OkS n s) := hok
      have HBW : Hid (Below w1.heap.size w1 wr) := hb
      have d3 := kc hb g3
      have l3 := hws.c3
      have hol : ∃ p q, vo = .slice p s.opens.length q := own_len hws.opn
      have hnest := hok.nest
      clear HS0 HB0
      by_cases hlt : j < N
      · have hll : j < c.list.length := by rw [HNL.out]; exact hlt
        have hgo' := hgo.out
        rw [List.drop_eq_getElem_cons hll] at hgo'
        have hgi : goP c s j (c.list[j] :: c.list.drop (j + 1)) = if takesP c s c.list[j] then goP c (stepP s c.list[j]) (j + 1) (c.list.drop (j + 1)) else (160, (j : Int)) := rfl
        rw [hgi] at hgo'
        obtain ⟨b, o, rfl, hx⟩ := HROW.out.at hll
        have hbw : b < w.heap.size := mcell_lt (hx 0 (by simp [inC]))
        have hxw := (hx.below HB1.out).below hb
        have KT := take_any w1.heap.size (w1.heap.size + 1) w.heap.size n w1.heap.size vs vo s v0 (.slice p1 n q1) v2 (.slice (some ⟨b, o, none⟩) N q3) c HOKC.out b (o + j * 7) c.list[j] wr hws HNE.out hok hn (HAT1.out.below hb) hxw (by omega) HTM.out (HIB.out _ (List.getElem_mem hll)).1 (HIB.out _ (List.getElem_mem hll)).2
        have hokS : takesP c s c.list[j] = true → OkS n (stepP s c.list[j]) := fun ht => by
          have hq : OkS c.regs.length s := by rw [HNE.out]; exact hok
          have := OkS.step hq ht
          rw [HNE.out] at this
          exact this
        obtain ⟨X, hX⟩ : ∃ X, takesP c s c.list[j] = X := ⟨_, rfl⟩
        rw [hX] at hgo' hokS
        simp only [hX] at KT
        have HKT : Hid (Calls Tryz.prog 35 #[.pointer (some ⟨w1.heap.size + 1, 0, none⟩), .pointer (some ⟨b, o + j * 7, none⟩)] wr fun e w' => e = .returned (.bool X) ∧ Below w1.heap.size wr w' ∧ (X = true → ∃ vs' vo', WS w1.heap.size (w1.heap.size + 1) w.heap.size n w1.heap.size vs' vo' w' (stepP s c.list[j]))) := KT
        have HGO : Hid ((if X = true then goP c (stepP s c.list[j]) (j + 1) (c.list.drop (j + 1)) else (160, (j : Int))) = Pr) := hgo'
        have HOS : Hid (X = true → OkS n (stepP s c.list[j])) := hokS
        have i1 : (0 : Int) ≤ (j : Int) := by omega
        have i2 : (j : Int) < (N : Int) := by omega
        clear KT hgo hgo' hgi hokS hX hx hxw hws hok hb hol l3
        cases X
        · go_wp2_with (go_at_call 35; refine HKT.out.mono ?_; rintro e w5 ⟨rfl, hb5, hw5⟩; have HB5 : Hid (Below w1.heap.size wr w5) := hb5; clear hb5 hw5)
          go_ret2
          refine ⟨?_, bel HB1.out (HBW.out.trans HB5.out)⟩
          have := HGO.out
          rw [if_neg (by decide)] at this
          rw [← this]
          rfl
        · go_wp2_with (go_at_call 35; refine HKT.out.mono ?_; rintro e w5 ⟨rfl, hb5, hw5⟩; have HB5 : Hid (Below w1.heap.size wr w5) := hb5; have HW5 : Hid (∃ vs' vo', WS w1.heap.size (w1.heap.size + 1) w.heap.size n w1.heap.size vs' vo' w5 (stepP s c.list[j])) := hw5 (by first | rfl | trivial); clear hb5 hw5)
          go_roundw
          case rel =>
            obtain ⟨vs', vo', hw5⟩ := HW5.out
            exact ⟨j + 1, _, vs', vo', by omega, by go_num, HBW.out.trans HB5.out, hw5, HOS.out (by first | rfl | trivial), by show _ = _; have := HGO.out; rw [if_pos (by first | rfl | trivial)] at this; exact this⟩
          case measure => simp [intOf]; omega
      · have : j = N := by omega
        subst this
        have hgo' := hgo.out
        rw [List.drop_of_length_le (by rw [HNL.out]; exact Nat.le_refl _)] at hgo'
        have hgi : goP c s j [] = if s.opens.isEmpty then (0, 0) else (160, (j : Int)) := rfl
        rw [hgi] at hgo'
        obtain ⟨p, q, rfl⟩ := hol
        obtain ⟨M, hM⟩ : ∃ M, s.opens.length = M := ⟨_, rfl⟩
        rw [hM] at l3 hnest
        have hE : s.opens.isEmpty = decide (M = 0) := by
          rw [← hM]
          cases s.opens with
          | nil => rfl
          | cons a l => simp
        rw [hE] at hgo'
        have HGO : Hid ((if decide (M = 0) = true then ((0 : Int), (0 : Int)) else (160, (j : Int))) = Pr) := hgo'
        clear hgo hgo' hgi hE hM hws hok hb
        by_cases hz : M = 0
        · subst hz
          go_wp2
          go_ret2
          refine ⟨?_, bel HB1.out HBW.out⟩
          rw [← HGO.out]
          rfl
        · have hz' : (0 : Int) < (M : Int) := by omega
          have hz2 : 0 < M := by omega
          have HZ : Hid (¬ M = 0) := hz
          clear hz
          go_wp2
          refine wp_region_held_drew (S := (fun v => v.cell? ⟨w.heap.size, 3, none⟩ = some (.slice p3 j q3))) (by kernel_rfl) ?_ (fun hHeld => ?_)
          · ((try dsimp only); go_keep)
          refine tkH (i := 0) (v := ?_) (hy := .inl ⟨by rfl, ?_⟩) (h := ?_)
          rotate_left 1
          · (intro wS hSw; (try dsimp only at hSw); go_simp; try (with_reducible rfl))
          try simp only [Act.put, List.setIfInBounds_toArray, List.set_cons_zero, List.set_cons_succ]
          refine tkH (i := 1) (v := ?_) (hy := .inl ⟨by rfl, ?_⟩) (h := ?_)
          rotate_left 1
          · (intro wS hSw; (try dsimp only at hSw); go_simp; try (with_reducible rfl))
          try simp only [Act.put, List.setIfInBounds_toArray, List.set_cons_zero, List.set_cons_succ]
          refine tkH (i := 2) (v := ?_) (hy := .inl ⟨by rfl, ?_⟩) (h := ?_)
          rotate_left 1
          · (intro wS hSw; (try dsimp only at hSw); go_simp; try (with_reducible rfl))
          try simp only [Act.put, List.setIfInBounds_toArray, List.set_cons_zero, List.set_cons_succ]
          refine tkH (i := 3) (v := ?_) (hy := .inl ⟨by rfl, ?_⟩) (h := ?_)
          rotate_left 1
          · (intro wS hSw; (try dsimp only at hSw); go_simp; try (with_reducible rfl))
          try simp only [Act.put, List.setIfInBounds_toArray, List.set_cons_zero, List.set_cons_succ]
          refine tkH (i := 4) (v := ?_) (hy := .inl ⟨by rfl, ?_⟩) (h := ?_)
          rotate_left 1
          · (intro wS hSw; (try dsimp only at hSw); go_simp; try (with_reducible rfl))
          try simp only [Act.put, List.setIfInBounds_toArray, List.set_cons_zero, List.set_cons_succ]
          refine wpAnyH_done (by kernel_rfl) ?_ _
          go_wp2
          go_ret2
          refine ⟨?_, (bel HB1.out HBW.out).drew⟩
          have := HGO.out
          rw [if_neg (by simpa using HZ.out)] at this
          rw [← this]
          rfl
  · rw [if_pos h0]
    have h0' : (A == 0) = false := by simpa using h0
    go_enter Tryz.func19, Tryz.ntmps19
    go_wp2_with (go_at_call 34; refine HK1.out.mono ?_; rintro e w1 ⟨rfl, hb1⟩)
    all_goals (go_ret2; exact ⟨rfl, bel (bel_alloc _ _) hb1⟩)

end Go.Proofs.YtholhpmnicibgaaGreat
/- Layer 16's statements: rows that are copied, small code, works. -/
namespace Go.Proofs.YtholhpmnicibgaaGreat
open Go.RowKit
set_option linter.unusedVariables false
set_option linter.unusedSimpArgs false

def insV (i : Ins) : Value := .agg #[.int .i64 i.op, .int .i64 i.d, .int .i64 i.a, .int .i64 i.b, .int .i64 i.c, .int .i64 i.n, .int .u32 i.bits]

theorem ins_cells {w v : World} {i : Ins} {t : TypeId} (k : Below (w.alloc (.cells #[.int .i64 i.op, .int .i64 i.d, .int .i64 i.a, .int .i64 i.b, .int .i64 i.c, .int .i64 i.n, .int .u32 i.bits] t)).heap.size (w.alloc (.cells #[.int .i64 i.op, .int .i64 i.d, .int .i64 i.a, .int .i64 i.b, .int .i64 i.c, .int .i64 i.n, .int .u32 i.bits] t)) v) : CellsAt v w.heap.size 0 (inC i) := by
  refine CellsAt.below (fun j hj => ?_) k
  have hj' : j < 7 := hj
  obtain rfl | rfl | rfl | rfl | rfl | rfl | rfl : j = 0 ∨ j = 1 ∨ j = 2 ∨ j = 3 ∨ j = 4 ∨ j = 5 ∨ j = 6 := by omega
  all_goals simp [go_sem, inC]

set_option maxRecDepth 100000 in
set_option maxHeartbeats 1000000 in
theorem reads_any (i : Ins) (w : World) : Calls Tryz.prog 121 #[insV i] w fun e w' => ∃ v, e = .returned v ∧ w'.ownsRow w.heap.size 3 1 v (readsP i (rowP i.op)).length (i64s (readsP i (rowP i.op))) ∧ Below w.heap.size w w' := by
  have K1 := fun w => rowOf_any i.op w
  have K2 := fun w h => readBy_any w.heap.size 0 i (rowP i.op) w h
  clear K2
  have K3 := fun b v h => readBy_any b 0 i (rowP i.op) v h
  have HIC := fun (v : World) k => ins_cells (w := w) (v := v) (i := i) (t := 45) k
  obtain ⟨r, hr⟩ : ∃ r, rowP i.op = r := ⟨_, rfl⟩
  obtain ⟨X, hX⟩ : ∃ X, knownP i.op = X := ⟨_, rfl⟩
  simp only [hr, hX] at K1 K3 ⊢
  obtain ⟨RL, hRL⟩ : ∃ x, readsP i r = x := ⟨_, rfl⟩
  simp only [hRL] at K3 ⊢
  obtain ⟨L0, L1, L2, L3, L4⟩ := r
  obtain ⟨op, D, A, B, E, n, bt⟩ := i
  unfold insV
  unfold rwV at K1 K3
  simp only at K1 K3 HIC ⊢
  have HK : Hid (∀ w, Calls Tryz.prog 56 #[.int .i64 op] w fun e w' => e = .returned (.tuple #[.agg #[.int .i64 L0, .int .i64 L1, .int .i64 L2, .int .i64 L3, .int .i64 L4], .bool X]) ∧ Below w.heap.size w w') := K1
  have HK3 : Hid (∀ b v, CellsAt v b 0 (inC ⟨op, D, A, B, E, n, bt⟩) → Calls Tryz.prog 59 #[.agg #[.int .i64 L0, .int .i64 L1, .int .i64 L2, .int .i64 L3, .int .i64 L4], .pointer (some ⟨b, 0, none⟩)] v fun e w' => ∃ u, e = .returned u ∧ w'.ownsRow v.heap.size 3 1 u RL.length (i64s RL) ∧ Below v.heap.size v w') := K3
  have HCC : Hid (∀ v, Below (w.alloc (.cells #[.int .i64 op, .int .i64 D, .int .i64 A, .int .i64 B, .int .i64 E, .int .i64 n, .int .u32 bt] 45)).heap.size (w.alloc (.cells #[.int .i64 op, .int .i64 D, .int .i64 A, .int .i64 B, .int .i64 E, .int .i64 n, .int .u32 bt] 45)) v → CellsAt v w.heap.size 0 (inC ⟨op, D, A, B, E, n, bt⟩)) := HIC
  clear K1 K3 HIC hr hX hRL
  go_enter Tryz.func121, Tryz.ntmps121
  go_wp2_with (first
    | (go_at_call 56; refine (HK.out _).mono ?_; rintro e w1 ⟨rfl, hb1⟩)
    | (go_at_call 59; refine (HK3.out _ _ (HCC.out _ (bel hb1 (bel_alloc _ _)))).mono ?_; rintro e w2 ⟨u, rfl, hu, hb2⟩; have HU : Hid (w2.ownsRow (w1.alloc (.cells #[.int .i64 L0, .int .i64 L1, .int .i64 L2, .int .i64 L3, .int .i64 L4] 135)).heap.size 3 1 u RL.length (i64s RL)) := hu; have HB2 : Hid (Below w.heap.size w w2) := bel (bel (bel (bel_alloc _ _) hb1) (bel_alloc _ _)) hb2; have hs : w.heap.size ≤ (w1.alloc (.cells #[.int .i64 L0, .int .i64 L1, .int .i64 L2, .int .i64 L3, .int .i64 L4] 135)).heap.size := (bel (bel (bel_alloc _ _) hb1) (bel_alloc _ _)).size; have HSZ : Hid (w.heap.size ≤ (w1.alloc (.cells #[.int .i64 L0, .int .i64 L1, .int .i64 L2, .int .i64 L3, .int .i64 L4] 135)).heap.size) := hs; clear hu hb2 hs))
  go_ret
  exact ⟨_, rfl, own_mono HU.out HSZ.out, HB2.out⟩

/-- Rows, k cells an element. -/
def flat {α : Type} (f : α → List Value) (l : List α) : List Value := l.flatMap f
theorem flat_len {α : Type} {f : α → List Value} {k : Nat} (hf : ∀ x, (f x).length = k) : ∀ l : List α, (flat f l).length = l.length * k
  | [] => by simp [flat]
  | a :: l => by
    have e : flat f (a :: l) = f a ++ flat f l := by simp [flat]
    rw [e, List.length_append, flat_len hf l, hf, List.length_cons, Nat.add_mul, Nat.one_mul, Nat.add_comm]
theorem flat_at {α : Type} {f : α → List Value} {k : Nat} (hf : ∀ x, (f x).length = k) : ∀ (l : List α) (i j : Nat) (hi : i < l.length), j < k → (flat f l)[i * k + j]? = (f l[i])[j]?
  | [], i, j, hi, hj => absurd hi (Nat.not_lt_zero _)
  | a :: l, 0, j, hi, hj => by
    have e : flat f (a :: l) = f a ++ flat f l := by simp [flat]
    rw [e, Nat.zero_mul, Nat.zero_add, List.getElem?_append_left (by rw [hf]; exact hj)]
    rfl
  | a :: l, i + 1, j, hi, hj => by
    have e : flat f (a :: l) = f a ++ flat f l := by simp [flat]
    have e2 : (i + 1) * k + j - (f a).length = i * k + j := by rw [hf, Nat.add_mul, Nat.one_mul]; omega
    rw [e, List.getElem?_append_right (by rw [hf, Nat.add_mul, Nat.one_mul]; omega), e2]
    exact flat_at hf l i j (by simpa using hi) hj
theorem flat_append {α : Type} (f : α → List Value) (l m : List α) : flat f (l ++ m) = flat f l ++ flat f m := by simp [flat]
/-- An own row reads. -/
theorem own_row {α : Type} {f : α → List Value} {k : Nat} (hf : ∀ x, (f x).length = k) {w : World} {B : Nat} {t : TypeId} {v : Value} {l : List α} (h : w.ownsRow B t k v l.length (flat f l)) : RowG k f w v l := by
  by_cases h0 : l = []
  · subst h0
    obtain ⟨p, c, hv⟩ := own_len h
    exact ⟨p, c, hv, .inl rfl⟩
  · obtain ⟨g, cap, hv, _, _, _, _, hcl⟩ := own_open h (List.length_pos_iff.2 h0)
    refine ⟨_, cap, hv, .inr ⟨g, 0, rfl, fun i hi j hj => ?_⟩⟩
    rw [Nat.zero_add]
    exact hcl _ _ (by rw [flat_at hf l i j hi (by rw [← hf l[i]]; exact hj)]; exact List.getElem?_eq_getElem hj)
theorem add_none (b o j : Nat) : (⟨b, o, none⟩ : Addr).add j = ⟨b, o + j, none⟩ := by unfold Addr.add; split <;> simp_all
/-- The cells of a row, one behind the other. -/
theorem row_cells {α : Type} {f : α → List Value} {k : Nat} (hk : 0 < k) (hf : ∀ x, (f x).length = k) {w : World} {b o : Nat} {l : List α} (h : ∀ i (hi : i < l.length), CellsAt w b (o + i * k) (f l[i])) (j : Nat) (u : Value) (hu : (flat f l)[j]? = some u) : w.cell? ((⟨b, o, none⟩ : Addr).add j) = some u := by
  have hj : j < l.length * k := by have := (List.getElem?_eq_some_iff.1 hu).1; rwa [flat_len hf] at this
  have hi : j / k < l.length := Nat.div_lt_of_lt_mul (by rw [Nat.mul_comm]; exact hj)
  have hm : j % k < k := Nat.mod_lt _ hk
  have e : j = j / k * k + j % k := by rw [Nat.mul_comm]; exact (Nat.div_add_mod j k).symm
  rw [e, flat_at hf l _ _ hi hm] at hu
  rw [add_none]
  have := (h _ hi).at _ hu
  rw [Nat.add_assoc, ← e] at this
  exact this
/-- append of a row to nothing. -/
theorem app_rowG {α : Type} {f : α → List Value} {k bytes : Nat} {t e : TypeId} {z : Value} {i : TypeInfo} (hk : 0 < k) (hf : ∀ x, (f x).length = k) (h1 : ∀ x, ∀ u ∈ f x, u.oneCell' = true) (ht : Tryz.prog.underlying t = some (.slice e)) (hi : Tryz.prog.info? e = some i) (hz : i.zero = some z) (hsize : i.size = k) (hby : i.bytes = bytes) (hzs : z.cells.size = k)
    {l : List α} {v : Value} {w : World} (h : RowG k f w v l) (hl : l.length ≤ maxLen) (hb : l.length * bytes ≤ 140737488355328) (ty : TypeId) :
    ∃ v' w', (Builtin.append_ #[t, t] ty #[.slice none 0 0, v]).run Tryz.prog w = .ok v' w' ∧ Below w.heap.size w w' ∧ w'.ownsRow w.heap.size e k v' l.length (flat f l) := by
  obtain ⟨p, c, rfl, h⟩ := h
  by_cases h0 : l = []
  · subst h0
    refine ⟨.slice none 0 0, w, ?_, Below.refl _ _, ⟨by simp [flat], .inl ⟨rfl, rfl⟩⟩⟩
    cases p with
    | none => simp [Builtin.append_, run_underlying ht, sizeOf, typeInfo, hi, Builtin.lenOf, Builtin.firstCells, storeCells]
    | some a => simp [Builtin.append_, run_underlying ht, sizeOf, typeInfo, hi, Builtin.lenOf, Builtin.firstCells, storeCells, loadCells, loadCellsFrom]
  · obtain ⟨b, o, rfl, h2⟩ := h.resolve_left h0
    have hpos : 0 < l.length := List.length_pos_iff.2 h0
    obtain ⟨g, cap, w', hr, hown, hg, hat, hlt⟩ := run_append_lies (P := Tryz.prog) w t ty w.heap.size e i z k bytes ht hi hz hsize hby hzs hk (.slice none 0 0) 0 [] (World.ownsRow_nil w _ _ k) ⟨b, o, none⟩ l.length c (flat f l) (flat_len hf l) (row_cells hk hf h2) (by intro u hu; obtain ⟨x, _, hx⟩ := List.mem_flatMap.1 hu; exact h1 x u hx) hpos (by omega) (by rw [Nat.zero_add]; exact hb) (Nat.le_refl _) w.heap.size rfl
    rw [Nat.zero_add] at hr hown
    exact ⟨_, w', hr, ⟨hg.os, hg.tape, hg.output, hg.size, fun j hj => hg.block j hj (by show some j ≠ none; simp)⟩, by rw [List.nil_append] at hown; exact hown⟩
theorem wpList_app {P : Program} {w w' : World} {ops : Array Oper} {rest : List Oper} {o : Oper} {a : Act} {Q : Exit → Act → World → Prop} (hgd : o.guard = none) (s x : Operand) (t : TypeId)
    (ho : o.op = .call { callee := .builtin .append, args := #[s, x], argTypes := #[t, t] }) (v v2 v' : Value) (hs : a.eval s = v) (hx : a.eval x = v2) (hr : (Builtin.append_ #[t, t] o.type #[v, v2]).run P w = .ok v' w')
    (h : wpList P ops Q rest (a.put o.dst v') w') : wpList P ops Q (o :: rest) a w :=
  wpList_plain hgd fun _ hK => by
    unfold Oper.wp execOp
    simp only [ho, resolve, invoke, builtin, Sem.run_bind, Sem.run_pure, Result.andThen_ok, List.map_toArray, List.map_cons, List.map_nil, hs, hx, hr]
    exact hK _ _ h
theorem inC_one : ∀ x : Ins, ∀ u ∈ inC x, u.oneCell' = true := fun x u hu => by simp [inC] at hu; rcases hu with rfl | rfl | rfl | rfl | rfl | rfl | rfl <;> rfl
theorem info_Inst : (Tryz.prog.info? 45).map (fun i => (i.zero, i.size, i.bytes)) = some (some (.agg #[.int .i64 0, .int .i64 0, .int .i64 0, .int .i64 0, .int .i64 0, .int .i64 0, .int .u32 0]), 7, 56) := by kernel_rfl
/-- A copy of a list of instructions. -/
theorem app_ins {l : List Ins} {v : Value} {w : World} (h : RowG 7 inC w v l) (hl : l.length * 56 ≤ 140737488355328) (ty : TypeId) :
    ∃ v' w', (Builtin.append_ #[25, 25] ty #[.slice none 0 0, v]).run Tryz.prog w = .ok v' w' ∧ Below w.heap.size w w' ∧ w'.ownsRow w.heap.size 45 7 v' l.length (flat inC l) := by
  obtain ⟨i0, hi0, hz0, hz1, hz2⟩ := info_parts info_Inst
  exact app_rowG (by decide) inC_len inC_one Tryz.underlying25 hi0 hz0 hz1 hz2 rfl h (by unfold maxLen; omega) hl ty

end Go.Proofs.YtholhpmnicibgaaGreat
/- Layer 16's statements: small code, works. -/
namespace Go.Proofs.YtholhpmnicibgaaGreat
open Go.RowKit
set_option linter.unusedVariables false
set_option linter.unusedSimpArgs false

end Go.Proofs.YtholhpmnicibgaaGreat
/- Layer 16's statements: works. By program (tool/layer16/genworks.py). -/
namespace Go.Proofs.YtholhpmnicibgaaGreat
open Go.RowKit
set_option linter.unusedVariables false
set_option linter.unusedSimpArgs false

end Go.Proofs.YtholhpmnicibgaaGreat
/- latheref16: Sets, Reads, Elementwise. By program (tool/layer16/genrref.py). -/
namespace Go.Proofs.YtholhpmnicibgaaGreat
open Go.RowKit
set_option linter.unusedVariables false
set_option linter.unusedSimpArgs false

end Go.Proofs.YtholhpmnicibgaaGreat
/- Layer 16: lists that are equal. By program (tool/layer16/geneq.py). -/
namespace Go.Proofs.YtholhpmnicibgaaGreat
open Go.RowKit
set_option linter.unusedVariables false
set_option linter.unusedSimpArgs false

instance : DecidableEq Par := fun a b => by
  cases a; cases b
  simp only [Par.mk.injEq]
  exact inferInstanceAs (Decidable (_ ∧ _ ∧ _))
end Go.Proofs.YtholhpmnicibgaaGreat
/- Layer 16: codes that are equal. By program (tool/layer16/geneq2.py). -/
namespace Go.Proofs.YtholhpmnicibgaaGreat
open Go.RowKit
set_option linter.unusedVariables false
set_option linter.unusedSimpArgs false

end Go.Proofs.YtholhpmnicibgaaGreat
/- lathelaw16.copied: code of its own. By program (tool/layer16/gencopy.py). -/
namespace Go.Proofs.YtholhpmnicibgaaGreat
open Go.RowKit
set_option linter.unusedVariables false
set_option linter.unusedSimpArgs false

theorem parC_one : ∀ x : Par, ∀ u ∈ parCells x, u.oneCell' = true := fun x u hu => by simp [parCells] at hu; rcases hu with rfl | rfl | rfl <;> rfl
theorem tyC_one : ∀ x : Ty, ∀ u ∈ tyC x, u.oneCell' = true := fun x u hu => by simp [tyC] at hu; rcases hu with rfl | rfl <;> rfl
theorem slC_one : ∀ x : Sl, ∀ u ∈ slC x, u.oneCell' = true := fun x u hu => by simp [slC] at hu; rcases hu with rfl | rfl | rfl | rfl | rfl <;> rfl
theorem info_Type : (Tryz.prog.info? 63).map (fun i => (i.zero, i.size, i.bytes)) = some (some (.agg #[.int .i64 0, .int .i64 0]), 2, 16) := by kernel_rfl
theorem info_Slot : (Tryz.prog.info? 65).map (fun i => (i.zero, i.size, i.bytes)) = some (some (.agg #[.int .i64 0, .int .i64 0, .bool false, .int .u32 0, .int .i64 0]), 5, 32) := by kernel_rfl
theorem app_Par {l : List Par} {v : Value} {w : World} (h : RowG 3 parCells w v l) (hl : l.length * 32 ≤ 140737488355328) (ty : TypeId) :
    ∃ v' w', (Builtin.append_ #[22, 22] ty #[.slice none 0 0, v]).run Tryz.prog w = .ok v' w' ∧ Below w.heap.size w w' ∧ w'.ownsRow w.heap.size 72 3 v' l.length (flat parCells l) := by
  obtain ⟨i0, hi0, hz0, hz1, hz2⟩ := info_parts info_Param
  exact app_rowG (by decide) parC_len parC_one Tryz.underlying22 hi0 hz0 hz1 hz2 rfl h (by unfold maxLen; omega) hl ty
theorem app_Ty {l : List Ty} {v : Value} {w : World} (h : RowG 2 tyC w v l) (hl : l.length * 16 ≤ 140737488355328) (ty : TypeId) :
    ∃ v' w', (Builtin.append_ #[23, 23] ty #[.slice none 0 0, v]).run Tryz.prog w = .ok v' w' ∧ Below w.heap.size w w' ∧ w'.ownsRow w.heap.size 63 2 v' l.length (flat tyC l) := by
  obtain ⟨i0, hi0, hz0, hz1, hz2⟩ := info_parts info_Type
  exact app_rowG (by decide) tyC_len tyC_one Tryz.underlying23 hi0 hz0 hz1 hz2 rfl h (by unfold maxLen; omega) hl ty
theorem app_Sl {l : List Sl} {v : Value} {w : World} (h : RowG 5 slC w v l) (hl : l.length * 32 ≤ 140737488355328) (ty : TypeId) :
    ∃ v' w', (Builtin.append_ #[24, 24] ty #[.slice none 0 0, v]).run Tryz.prog w = .ok v' w' ∧ Below w.heap.size w w' ∧ w'.ownsRow w.heap.size 65 5 v' l.length (flat slC l) := by
  obtain ⟨i0, hi0, hz0, hz1, hz2⟩ := info_parts info_Slot
  exact app_rowG (by decide) slC_len slC_one Tryz.underlying24 hi0 hz0 hz1 hz2 rfl h (by unfold maxLen; omega) hl ty

def f4 (a b c d : Value) (j : Nat) : Value := if j = 0 then a else if j = 1 then b else if j = 2 then c else d
/-- The boxes: the code, the answer, the copy. -/
structure CW (w : World) (v0 v1 v2 v3 x0 x1 x2 x3 : Value) (v : World) : Prop where
  bel : Below w.heap.size w v
  c : CellsAt v w.heap.size 0 [v0, v1, v2, v3]
  r : v.rowIs (w.heap.size + 1) 27 4 (f4 (.slice none 0 0) (.slice none 0 0) (.slice none 0 0) (.slice none 0 0))
  d : v.rowIs (w.heap.size + 1 + 1) 27 4 (f4 x0 x1 x2 x3)
theorem CW.app {w : World} {v0 v1 v2 v3 x0 x1 x2 x3 : Value} {v v' : World} (h : CW w v0 v1 v2 v3 x0 x1 x2 x3 v) (k : Below v.heap.size v v') : CW w v0 v1 v2 v3 x0 x1 x2 x3 v' :=
  ⟨Go.Proofs.YtholhpmnicibgaaGreat.bel h.bel k, h.c.below k, h.r.of_block (k.block _ h.r.lt), h.d.of_block (k.block _ h.d.lt)⟩
theorem CW.put {w : World} {v0 v1 v2 v3 x0 x1 x2 x3 y0 y1 y2 y3 : Value} {v : World} (h : CW w v0 v1 v2 v3 x0 x1 x2 x3 v) (i : Nat) (x : Value) (e : ∀ j, j < 4 → (if j = i then x else f4 x0 x1 x2 x3 j) = f4 y0 y1 y2 y3 j) : CW w v0 v1 v2 v3 y0 y1 y2 y3 (v.setCell ⟨w.heap.size + 1 + 1, i, none⟩ x) := by
  have nb : ∀ b, b ≠ w.heap.size + 1 + 1 → (v.setCell ⟨w.heap.size + 1 + 1, i, none⟩ x).heap[b]? = v.heap[b]? := fun b hb => Below.heap_setCell _ _ _ _ hb
  exact ⟨h.bel.setCell (by show w.heap.size ≤ w.heap.size + 1 + 1; omega) _, h.c.of_block (nb _ (by omega)), h.r.of_block (nb _ (by omega)), (h.d.set i x).congr e⟩
theorem CW.start (w : World) (v0 v1 v2 v3 : Value) : CW w v0 v1 v2 v3 (.slice none 0 0) (.slice none 0 0) (.slice none 0 0) (.slice none 0 0) (((w.alloc (.cells #[v0, v1, v2, v3] 27)).alloc (.cells #[.slice none 0 0, .slice none 0 0, .slice none 0 0, .slice none 0 0] 27)).alloc (.cells #[.slice none 0 0, .slice none 0 0, .slice none 0 0, .slice none 0 0] 27)) := by
  have q : ∀ u : World, (u.alloc (.cells #[.slice none 0 0, .slice none 0 0, .slice none 0 0, .slice none 0 0] 27)).rowIs u.heap.size 27 4 (f4 (.slice none 0 0) (.slice none 0 0) (.slice none 0 0) (.slice none 0 0)) := fun u => World.rowIs_alloc u #[.slice none 0 0, .slice none 0 0, .slice none 0 0, .slice none 0 0] 27 _ (fun i hi => by
    have hi' : i < 4 := hi
    obtain rfl | rfl | rfl | rfl : i = 0 ∨ i = 1 ∨ i = 2 ∨ i = 3 := by omega
    all_goals rfl)
  have h1 := q (w.alloc (.cells #[v0, v1, v2, v3] 27))
  have h2 := q ((w.alloc (.cells #[v0, v1, v2, v3] 27)).alloc (.cells #[.slice none 0 0, .slice none 0 0, .slice none 0 0, .slice none 0 0] 27))
  have s1 : (w.alloc (.cells #[v0, v1, v2, v3] 27)).heap.size = w.heap.size + 1 := by simp
  have s2 : ((w.alloc (.cells #[v0, v1, v2, v3] 27)).alloc (.cells #[.slice none 0 0, .slice none 0 0, .slice none 0 0, .slice none 0 0] 27)).heap.size = w.heap.size + 1 + 1 := by simp
  rw [s1] at h1
  rw [s2] at h2
  refine ⟨Go.Proofs.YtholhpmnicibgaaGreat.bel (Go.Proofs.YtholhpmnicibgaaGreat.bel (bel_alloc _ _) (bel_alloc _ _)) (bel_alloc _ _), fun j hj => ?_, h1.alloc _, h2⟩
  have hj' : j < 4 := hj
  obtain rfl | rfl | rfl | rfl : j = 0 ∨ j = 1 ∨ j = 2 ∨ j = 3 := by omega
  all_goals simp [go_sem]
/-- What lies from E on, and was there, stays. -/
def Up (E : Nat) (v v' : World) : Prop := v.heap.size ≤ v'.heap.size ∧ ∀ b, E ≤ b → b < v.heap.size → v'.heap[b]? = v.heap[b]?
theorem Up.of {E : Nat} {v v' : World} (k : Below v.heap.size v v') : Up E v v' := ⟨k.size, fun b _ hb => k.block b hb⟩
theorem Up.set {E : Nat} (v : World) {D : Nat} (hD : D < E) (i : Nat) (x : Value) : Up E v (v.setCell ⟨D, i, none⟩ x) := ⟨by simp, fun b hb _ => Below.heap_setCell _ _ _ _ (by show b ≠ D; omega)⟩
theorem Up.trans {E : Nat} {a b c : World} (h : Up E a b) (k : Up E b c) : Up E a c := ⟨Nat.le_trans h.1 k.1, fun x hx hl => (k.2 x hx (Nat.lt_of_lt_of_le hl h.1)).trans (h.2 x hx hl)⟩
theorem Up.own {E B : Nat} {v v' : World} {t : TypeId} {k n : Nat} {u : Value} {xs : List Value} (h : Up E v v') (ho : v.ownsRow B t k u n xs) (hB : E ≤ B) : v'.ownsRow B t k u n xs := own_keep ho fun g hg => h.2 g (Nat.le_trans hB (ho.lt g hg).1) (ho.lt g hg).2

/-- Code whose four lists are one's own. -/
structure Own4 (B : Nat) (w : World) (u0 u1 u2 u3 : Value) (c : Cd) : Prop where
  sign : w.ownsRow B 72 3 u0 c.sign.length (flat parCells c.sign)
  regs : w.ownsRow B 63 2 u1 c.regs.length (flat tyC c.regs)
  slots : w.ownsRow B 65 5 u2 c.slots.length (flat slC c.slots)
  list : w.ownsRow B 45 7 u3 c.list.length (flat inC c.list)
/-- Code that may be copied. -/
structure CdSz (c : Cd) : Prop where
  s : c.sign.length * 32 ≤ 140737488351232
  r : c.regs.length * 16 ≤ 140737488351232
  l : c.slots.length * 32 ≤ 140737488351232
  i : c.list.length * 56 ≤ 140737488351232

end Go.Proofs.YtholhpmnicibgaaGreat
/- lathelaw17.twin: code of its own (as lathelaw16.copied). -/
namespace Go.Proofs.YtholhpmnicibgaaGreat
open Go.RowKit
set_option linter.unusedVariables false
set_option linter.unusedSimpArgs false

set_option maxRecDepth 100000 in
set_option maxHeartbeats 4000000 in
theorem twin_any (v0 v1 v2 v3 : Value) (c : Cd) (hz : CdSz c) (w : World) (hv : CdV w v0 v1 v2 v3 c) :
    Calls Tryz.prog 7 #[.agg #[v0, v1, v2, v3]] w fun e w' => ∃ u0 u1 u2 u3, e = .returned (.agg #[u0, u1, u2, u3]) ∧ CdV w' u0 u1 u2 u3 c ∧ Own4 w.heap.size w' u0 u1 u2 u3 c ∧ Below w.heap.size w w' := by
  have s0 := hz.s
  have s1 := hz.r
  have s2 := hz.l
  have s3 := hz.i
  have C0 := CW.start w v0 v1 v2 v3
  obtain ⟨W0, hW0⟩ : ∃ W, ((w.alloc (.cells #[v0, v1, v2, v3] 27)).alloc (.cells #[.slice none 0 0, .slice none 0 0, .slice none 0 0, .slice none 0 0] 27)).alloc (.cells #[.slice none 0 0, .slice none 0 0, .slice none 0 0, .slice none 0 0] 27) = W := ⟨_, rfl⟩
  have hE : W0.heap.size = w.heap.size + 1 + 1 + 1 := by rw [← hW0]; simp
  rw [hW0] at C0
  have U0 : Up (w.heap.size + 1 + 1 + 1) W0 W0 := ⟨Nat.le_refl _, fun _ _ _ => rfl⟩
  obtain ⟨z0, w1, r0, b0, o0⟩ := app_Par (hv.sign.below C0.bel) (by omega) 22
  obtain ⟨p0, q0, rfl⟩ := own_len o0
  have D0 := C0.app b0
  have c00 := C0.c.at 0 rfl
  have c01 : W0.cell? ⟨w.heap.size + 1 + 1, 0, none⟩ = some (.slice none 0 0) := C0.d.cell (i := 0) (by decide)
  have c02 : w1.cell? ⟨w.heap.size + 1 + 1, 0, none⟩ = some (.slice none 0 0) := D0.d.cell (i := 0) (by decide)
  have c03 := D0.d.frozen 0
  rw [Nat.zero_add] at c00
  have C1 := D0.put (y0 := (.slice p0 c.sign.length q0)) (y1 := (.slice none 0 0)) (y2 := (.slice none 0 0)) (y3 := (.slice none 0 0)) 0 (.slice p0 c.sign.length q0) (by intro j hj; rcases (show j = 0 ∨ j = 1 ∨ j = 2 ∨ j = 3 by omega) with rfl | rfl | rfl | rfl <;> rfl)
  obtain ⟨V1, hV1⟩ : ∃ V, w1.setCell ⟨w.heap.size + 1 + 1, 0, none⟩ (.slice p0 c.sign.length q0) = V := ⟨_, rfl⟩
  have U1 : Up (w.heap.size + 1 + 1 + 1) W0 V1 := by rw [← hV1]; exact (Up.of b0).trans (Up.set _ (by omega) _ _)
  have T1 : Up (w.heap.size + 1 + 1 + 1) w1 V1 := by rw [← hV1]; exact Up.set _ (by omega) _ _
  have HV0 : Hid (w1.setCell ⟨w.heap.size + 1 + 1, 0, none⟩ (.slice p0 c.sign.length q0) = V1) := hV1
  rw [hV1] at C1
  have HR0 : Hid ((Builtin.append_ #[22, 22] 22 #[.slice none 0 0, v0]).run Tryz.prog W0 = .ok (.slice p0 c.sign.length q0) w1) := r0
  have e0 : w.heap.size + 1 + 1 + 1 ≤ W0.heap.size := by have := U0.1; omega
  obtain ⟨z1, w2, r1, b1, o1⟩ := app_Ty (hv.regs.below C1.bel) (by omega) 23
  obtain ⟨p1, q1, rfl⟩ := own_len o1
  have D1 := C1.app b1
  have c10 := C1.c.at 1 rfl
  have c11 : V1.cell? ⟨w.heap.size + 1 + 1, 1, none⟩ = some (.slice none 0 0) := C1.d.cell (i := 1) (by decide)
  have c12 : w2.cell? ⟨w.heap.size + 1 + 1, 1, none⟩ = some (.slice none 0 0) := D1.d.cell (i := 1) (by decide)
  have c13 := D1.d.frozen 1
  rw [Nat.zero_add] at c10
  have C2 := D1.put (y0 := (.slice p0 c.sign.length q0)) (y1 := (.slice p1 c.regs.length q1)) (y2 := (.slice none 0 0)) (y3 := (.slice none 0 0)) 1 (.slice p1 c.regs.length q1) (by intro j hj; rcases (show j = 0 ∨ j = 1 ∨ j = 2 ∨ j = 3 by omega) with rfl | rfl | rfl | rfl <;> rfl)
  obtain ⟨V2, hV2⟩ : ∃ V, w2.setCell ⟨w.heap.size + 1 + 1, 1, none⟩ (.slice p1 c.regs.length q1) = V := ⟨_, rfl⟩
  have U2 : Up (w.heap.size + 1 + 1 + 1) V1 V2 := by rw [← hV2]; exact (Up.of b1).trans (Up.set _ (by omega) _ _)
  have T2 : Up (w.heap.size + 1 + 1 + 1) w2 V2 := by rw [← hV2]; exact Up.set _ (by omega) _ _
  have HV1 : Hid (w2.setCell ⟨w.heap.size + 1 + 1, 1, none⟩ (.slice p1 c.regs.length q1) = V2) := hV2
  rw [hV2] at C2
  have HR1 : Hid ((Builtin.append_ #[23, 23] 23 #[.slice none 0 0, v1]).run Tryz.prog V1 = .ok (.slice p1 c.regs.length q1) w2) := r1
  have e1 : w.heap.size + 1 + 1 + 1 ≤ V1.heap.size := by have := U1.1; omega
  obtain ⟨z2, w3, r2, b2, o2⟩ := app_Sl (hv.slots.below C2.bel) (by omega) 24
  obtain ⟨p2, q2, rfl⟩ := own_len o2
  have D2 := C2.app b2
  have c20 := C2.c.at 2 rfl
  have c21 : V2.cell? ⟨w.heap.size + 1 + 1, 2, none⟩ = some (.slice none 0 0) := C2.d.cell (i := 2) (by decide)
  have c22 : w3.cell? ⟨w.heap.size + 1 + 1, 2, none⟩ = some (.slice none 0 0) := D2.d.cell (i := 2) (by decide)
  have c23 := D2.d.frozen 2
  rw [Nat.zero_add] at c20
  have C3 := D2.put (y0 := (.slice p0 c.sign.length q0)) (y1 := (.slice p1 c.regs.length q1)) (y2 := (.slice p2 c.slots.length q2)) (y3 := (.slice none 0 0)) 2 (.slice p2 c.slots.length q2) (by intro j hj; rcases (show j = 0 ∨ j = 1 ∨ j = 2 ∨ j = 3 by omega) with rfl | rfl | rfl | rfl <;> rfl)
  obtain ⟨V3, hV3⟩ : ∃ V, w3.setCell ⟨w.heap.size + 1 + 1, 2, none⟩ (.slice p2 c.slots.length q2) = V := ⟨_, rfl⟩
  have U3 : Up (w.heap.size + 1 + 1 + 1) V2 V3 := by rw [← hV3]; exact (Up.of b2).trans (Up.set _ (by omega) _ _)
  have T3 : Up (w.heap.size + 1 + 1 + 1) w3 V3 := by rw [← hV3]; exact Up.set _ (by omega) _ _
  have HV2 : Hid (w3.setCell ⟨w.heap.size + 1 + 1, 2, none⟩ (.slice p2 c.slots.length q2) = V3) := hV3
  rw [hV3] at C3
  have HR2 : Hid ((Builtin.append_ #[24, 24] 24 #[.slice none 0 0, v2]).run Tryz.prog V2 = .ok (.slice p2 c.slots.length q2) w3) := r2
  have e2 : w.heap.size + 1 + 1 + 1 ≤ V2.heap.size := by have := U2.1; omega
  obtain ⟨z3, w4, r3, b3, o3⟩ := app_ins (hv.list.below C3.bel) (by omega) 25
  obtain ⟨p3, q3, rfl⟩ := own_len o3
  have D3 := C3.app b3
  have c30 := C3.c.at 3 rfl
  have c31 : V3.cell? ⟨w.heap.size + 1 + 1, 3, none⟩ = some (.slice none 0 0) := C3.d.cell (i := 3) (by decide)
  have c32 : w4.cell? ⟨w.heap.size + 1 + 1, 3, none⟩ = some (.slice none 0 0) := D3.d.cell (i := 3) (by decide)
  have c33 := D3.d.frozen 3
  rw [Nat.zero_add] at c30
  have C4 := D3.put (y0 := (.slice p0 c.sign.length q0)) (y1 := (.slice p1 c.regs.length q1)) (y2 := (.slice p2 c.slots.length q2)) (y3 := (.slice p3 c.list.length q3)) 3 (.slice p3 c.list.length q3) (by intro j hj; rcases (show j = 0 ∨ j = 1 ∨ j = 2 ∨ j = 3 by omega) with rfl | rfl | rfl | rfl <;> rfl)
  obtain ⟨V4, hV4⟩ : ∃ V, w4.setCell ⟨w.heap.size + 1 + 1, 3, none⟩ (.slice p3 c.list.length q3) = V := ⟨_, rfl⟩
  have U4 : Up (w.heap.size + 1 + 1 + 1) V3 V4 := by rw [← hV4]; exact (Up.of b3).trans (Up.set _ (by omega) _ _)
  have T4 : Up (w.heap.size + 1 + 1 + 1) w4 V4 := by rw [← hV4]; exact Up.set _ (by omega) _ _
  have HV3 : Hid (w4.setCell ⟨w.heap.size + 1 + 1, 3, none⟩ (.slice p3 c.list.length q3) = V4) := hV4
  rw [hV4] at C4
  have HR3 : Hid ((Builtin.append_ #[25, 25] 25 #[.slice none 0 0, v3]).run Tryz.prog V3 = .ok (.slice p3 c.list.length q3) w4) := r3
  have e3 : w.heap.size + 1 + 1 + 1 ≤ V3.heap.size := by have := U3.1; omega
  have U5 : Up (w.heap.size + 1 + 1 + 1) V4 ((((V4.setCell ⟨w.heap.size + 1, 0, none⟩ (.slice p0 c.sign.length q0)).setCell ⟨w.heap.size + 1, 1, none⟩ (.slice p1 c.regs.length q1)).setCell ⟨w.heap.size + 1, 2, none⟩ (.slice p2 c.slots.length q2)).setCell ⟨w.heap.size + 1, 3, none⟩ (.slice p3 c.list.length q3)) := (((Up.set _ (by omega) _ _).trans (Up.set _ (by omega) _ _)).trans (Up.set _ (by omega) _ _)).trans (Up.set _ (by omega) _ _)
  have HF : Hid (CdV ((((V4.setCell ⟨w.heap.size + 1, 0, none⟩ (.slice p0 c.sign.length q0)).setCell ⟨w.heap.size + 1, 1, none⟩ (.slice p1 c.regs.length q1)).setCell ⟨w.heap.size + 1, 2, none⟩ (.slice p2 c.slots.length q2)).setCell ⟨w.heap.size + 1, 3, none⟩ (.slice p3 c.list.length q3)) (.slice p0 c.sign.length q0) (.slice p1 c.regs.length q1) (.slice p2 c.slots.length q2) (.slice p3 c.list.length q3) c ∧ Own4 w.heap.size (((((V4.setCell ⟨w.heap.size + 1, 0, none⟩ (.slice p0 c.sign.length q0)).setCell ⟨w.heap.size + 1, 1, none⟩ (.slice p1 c.regs.length q1)).setCell ⟨w.heap.size + 1, 2, none⟩ (.slice p2 c.slots.length q2)).setCell ⟨w.heap.size + 1, 3, none⟩ (.slice p3 c.list.length q3))) (.slice p0 c.sign.length q0) (.slice p1 c.regs.length q1) (.slice p2 c.slots.length q2) (.slice p3 c.list.length q3) c ∧ Below w.heap.size w ((((V4.setCell ⟨w.heap.size + 1, 0, none⟩ (.slice p0 c.sign.length q0)).setCell ⟨w.heap.size + 1, 1, none⟩ (.slice p1 c.regs.length q1)).setCell ⟨w.heap.size + 1, 2, none⟩ (.slice p2 c.slots.length q2)).setCell ⟨w.heap.size + 1, 3, none⟩ (.slice p3 c.list.length q3))) := by
    have g0 := ((((T1.trans U2).trans U3).trans U4).trans U5).own o0 e0
    have g1 := (((T2.trans U3).trans U4).trans U5).own o1 e1
    have g2 := ((T3.trans U4).trans U5).own o2 e2
    have g3 := (T4.trans U5).own o3 e3
    refine ⟨⟨own_row parC_len g0, own_row tyC_len g1, own_row slC_len g2, own_row inC_len g3⟩, ⟨own_mono g0 (by omega), own_mono g1 (by omega), own_mono g2 (by omega), own_mono g3 (by omega)⟩, ?_⟩
    exact (((C4.bel.setCell (by show w.heap.size ≤ w.heap.size + 1; omega) _).setCell (by show w.heap.size ≤ w.heap.size + 1; omega) _).setCell (by show w.heap.size ≤ w.heap.size + 1; omega) _).setCell (by show w.heap.size ≤ w.heap.size + 1; omega) _
  have m0 : V4.cell? ⟨w.heap.size + 1 + 1, 0, none⟩ = some (.slice p0 c.sign.length q0) := C4.d.cell (i := 0) (by decide)
  have m1 : V4.cell? ⟨w.heap.size + 1 + 1, 1, none⟩ = some (.slice p1 c.regs.length q1) := C4.d.cell (i := 1) (by decide)
  have m2 : V4.cell? ⟨w.heap.size + 1 + 1, 2, none⟩ = some (.slice p2 c.slots.length q2) := C4.d.cell (i := 2) (by decide)
  have m3 : V4.cell? ⟨w.heap.size + 1 + 1, 3, none⟩ = some (.slice p3 c.list.length q3) := C4.d.cell (i := 3) (by decide)
  have k0 : V4.cell? ⟨w.heap.size + 1, 0, none⟩ = some (.slice none 0 0) := C4.r.cell (i := 0) (by decide)
  have k1 : V4.cell? ⟨w.heap.size + 1, 1, none⟩ = some (.slice none 0 0) := C4.r.cell (i := 1) (by decide)
  have k2 : V4.cell? ⟨w.heap.size + 1, 2, none⟩ = some (.slice none 0 0) := C4.r.cell (i := 2) (by decide)
  have k3 : V4.cell? ⟨w.heap.size + 1, 3, none⟩ = some (.slice none 0 0) := C4.r.cell (i := 3) (by decide)
  have y0 := C4.r.frozen 0
  have y1 := C4.r.frozen 1
  have y2 := C4.r.frozen 2
  have y3 := C4.r.frozen 3
  have HW : Hid (((w.alloc (.cells #[v0, v1, v2, v3] 27)).alloc (.cells #[.slice none 0 0, .slice none 0 0, .slice none 0 0, .slice none 0 0] 27)).alloc (.cells #[.slice none 0 0, .slice none 0 0, .slice none 0 0, .slice none 0 0] 27) = W0) := hW0
  clear C0 C1 C2 C3 C4 D0 D1 D2 D3 U0 U1 U2 U3 U4 U5 T1 T2 T3 T4 o0 o1 o2 o3 b0 b1 b2 b3 r0 r1 r2 r3 hv hz hV1 hV2 hV3 hV4 hW0 e0 e1 e2 e3 hE
  go_enter Tryz.func7, Tryz.ntmps7
  go_upto_region 2 with fail
  rw [HW.out]
  go_upto_region 3 with (at_builtin; refine wpList_app (by rfl) _ _ _ (by rfl) _ _ _ (by rfl) (by rfl) HR0.out ?_)
  rw [HV0.out]
  go_upto_region 4 with (at_builtin; refine wpList_app (by rfl) _ _ _ (by rfl) _ _ _ (by rfl) (by rfl) HR1.out ?_)
  rw [HV1.out]
  go_upto_region 5 with (at_builtin; refine wpList_app (by rfl) _ _ _ (by rfl) _ _ _ (by rfl) (by rfl) HR2.out ?_)
  rw [HV2.out]
  go_upto_region 6 with (at_builtin; refine wpList_app (by rfl) _ _ _ (by rfl) _ _ _ (by rfl) (by rfl) HR3.out ?_)
  rw [HV3.out]
  go_wp2
  refine bodyPost_ret (by simp [results, Tryz.results7, go_sem, *]; try rfl) rfl ?_
  exact ⟨_, _, _, _, rfl, HF.out.1, HF.out.2.1, HF.out.2.2⟩

end Go.Proofs.YtholhpmnicibgaaGreat
/- Maps keyed by whole numbers, as functions from keys to values. -/
namespace Go.Proofs.YtholhpmnicibgaaGreat
open Go.RowKit
open Go.Maps (Keyed)
set_option linter.unusedVariables false
set_option linter.unusedSimpArgs false

/-- Every value reads as itself. -/
def hRI : Value → Option (DataW Value × List MemPlace) := fun v => some (.held v, [])
def litI (k : Nat) : Lit := .int .i64 (k : Int)
theorem litI_inj {a b : Nat} (h : litI a = litI b) : a = b := by
  unfold litI at h
  simp only [Lit.int.injEq, true_and] at h
  omega
/-- A map that reads as this function, of n entries at most. -/
def MapI (w : World) (b n : Nat) (f : Nat → Option Value) : Prop :=
  ∃ D : DataW Value, w.ownsMap Tryz.prog 3 hRI b n D ∧ ∀ k zd, D.atKey (litI k) zd = match f k with | some v => .held v | none => zd
def updI (f : Nat → Option Value) (k : Nat) (v : Value) : Nat → Option Value := fun j => if j = k then some v else f j
theorem intK : Keyed Tryz.prog 3 := Maps.int_keyed Tryz.underlying3
theorem key_litI {k : Nat} (h : k ≤ 4611686018427387904) : keyOf Tryz.prog 3 (.int .i64 (k : Int)) = some (litI k) :=
  Maps.keyOf_int_mk Tryz.underlying3 (by
    have h1 : IntKind.i64.min ≤ (0 : Int) := by decide
    have h2 : (4611686018427387904 : Int) ≤ IntKind.i64.max := by decide
    simp only [Lit.wf, Bool.and_eq_true, decide_eq_true_eq]
    omega)
theorem MapI.new (w : World) : MapI (w.alloc (.map #[] 0)) w.heap.size 0 (fun _ => none) :=
  ⟨_, World.ownsMap_made _ _ _ _, fun k zd => rfl⟩
theorem MapI.block {w w' : World} {b n : Nat} {f : Nat → Option Value} (h : MapI w b n f) (hb : w'.heap[b]? = w.heap[b]?) : MapI w' b n f := by
  obtain ⟨D, ⟨es, clock, h0, h1⟩, h2⟩ := h
  exact ⟨D, ⟨es, clock, hb.trans h0, h1⟩, h2⟩
theorem MapI.lt {w : World} {b n : Nat} {f : Nat → Option Value} (h : MapI w b n f) : b < w.heap.size := by
  obtain ⟨D, h1, _⟩ := h
  exact h1.lt
theorem MapI.below {w w' : World} {b n : Nat} {f : Nat → Option Value} (h : MapI w b n f) (k : Below w.heap.size w w') : MapI w' b n f := h.block (k.block b h.lt)
theorem MapI.look1 {w : World} {b n : Nat} {f : Nat → Option Value} (h : MapI w b n f) {t e : TypeId} (ht : Tryz.prog.underlying t = some (.map 3 e)) {z : Value} (hz : (zeroValue e).run Tryz.prog w = .ok z w) {k : Nat} (hk : k ≤ 4611686018427387904) :
    (Instr.lookup t (.map (some b)) (.int .i64 (k : Int)) false).run Tryz.prog w = .ok ((f k).getD z) w := by
  obtain ⟨D, h1, h2⟩ := h
  obtain ⟨v, ps, hrun, hv⟩ := h1.lookup intK ht hz (zd := .held z) (zp := []) rfl (key_litI hk)
  rw [hrun]
  simp only [hRI, Option.some.injEq, Prod.mk.injEq, h2] at hv
  obtain ⟨hv, -⟩ := hv
  cases hf : f k with
  | none => rw [hf] at hv; simp only [DataW.held.injEq] at hv; rw [hv]; rfl
  | some u => rw [hf] at hv; simp only [DataW.held.injEq] at hv; rw [hv]; rfl
theorem isKeyI (k : Nat) : WideAt.IsKeyLit (litI k) := by unfold litI; simp [WideAt.IsKeyLit]
theorem MapI.put {w : World} {b n : Nat} {f : Nat → Option Value} (h : MapI w b n f) (hn : n < maxLen) {t e : TypeId} (ht : Tryz.prog.underlying t = some (.map 3 e)) {k : Nat} (hk : k ≤ 4611686018427387904) (v : Value) :
    ∃ w', (Instr.mapUpdate t (.map (some b)) (.int .i64 (k : Int)) v).run Tryz.prog w = .ok () w' ∧ MapI w' b (n + 1) (updI f k v) ∧ w.grownBy w' (some b) := by
  obtain ⟨D, h1, h2⟩ := h
  obtain ⟨w', hrun, r1, r2⟩ := h1.update intK ht hn (key_litI hk) (d := .held v) (ps := []) (val := v) rfl
  refine ⟨w', hrun, ⟨_, r1, fun j zd => ?_⟩, r2⟩
  unfold updI
  by_cases e : j = k
  · subst e
    rw [Maps.atKey_put_same (h1.canon intK |>.elim fun es hes => ⟨es, hes.1⟩) (isKeyI j)]
    simp
  · rw [Maps.atKey_put_other (fun he => e (litI_inj he)), h2, if_neg e]

end Go.Proofs.YtholhpmnicibgaaGreat
/- The walks of package bits and of its reference: integers alone. -/
namespace Go.Proofs.YtholhpmnicibgaaGreat
open Go.RowKit
set_option linter.unusedVariables false

set_option maxHeartbeats 400000 in
theorem partsV_any (a : Int) (h0 : 0 ≤ a) (h1 : a < 4294967296) (w : World) :
    Calls Tryz.prog 161 #[.int .u32 a] w fun e w' => e = .returned (.tuple #[.bool (decide (2147483648 ≤ a)), .int .i64 (a / 8388608 % 256), .int .i64 (a % 8388608)]) ∧ w' = w := by
  have e1 := and_sign_ne a h0 h1
  have e2 := and_8 (a / 8388608) (by omega) (by omega)
  have e3 := and_23 a h0 h1
  go_enter Tryz.func161, Tryz.ntmps161
  go_wp2
  go_ret3
  exact ⟨rfl, rfl⟩

set_option maxHeartbeats 400000 in
theorem classV_any (a : Int) (h0 : 0 ≤ a) (h1 : a < 4294967296) (w : World) :
    Calls Tryz.prog 137 #[.int .u32 a] w fun e w' => e = .returned (.int .i64 (cls a)) ∧ w' = w := by
  by_cases c1 : a / 8388608 % 256 = 255
  · by_cases c2 : a % 8388608 = 0
    · have hc : cls a = 4 := by unfold cls; rw [if_pos c1, if_pos c2]
      rw [hc]; clear hc
      go_enter Tryz.func137, Tryz.ntmps137
      go_wp2_with (go_at_call 161; refine (partsV_any _ h0 h1 _).mono ?_; rintro e w' ⟨rfl, rfl⟩)
      go_ret
      exact ⟨rfl, rfl⟩
    · have hc : cls a = 5 := by unfold cls; rw [if_pos c1, if_neg c2]
      rw [hc]; clear hc
      go_enter Tryz.func137, Tryz.ntmps137
      go_wp2_with (go_at_call 161; refine (partsV_any _ h0 h1 _).mono ?_; rintro e w' ⟨rfl, rfl⟩)
      go_ret
      exact ⟨rfl, rfl⟩
  · by_cases c2 : a / 8388608 % 256 = 0
    · by_cases c3 : a % 8388608 = 0
      · have hc : cls a = 1 := by unfold cls; rw [if_neg c1, if_pos c2, if_pos c3]
        rw [hc]; clear hc
        go_enter Tryz.func137, Tryz.ntmps137
        go_wp2_with (go_at_call 161; refine (partsV_any _ h0 h1 _).mono ?_; rintro e w' ⟨rfl, rfl⟩)
        go_ret
        exact ⟨rfl, rfl⟩
      · have hc : cls a = 2 := by unfold cls; rw [if_neg c1, if_pos c2, if_neg c3]
        rw [hc]; clear hc
        go_enter Tryz.func137, Tryz.ntmps137
        go_wp2_with (go_at_call 161; refine (partsV_any _ h0 h1 _).mono ?_; rintro e w' ⟨rfl, rfl⟩)
        go_ret
        exact ⟨rfl, rfl⟩
    · have hc : cls a = 3 := by unfold cls; rw [if_neg c1, if_neg c2]
      rw [hc]; clear hc
      go_enter Tryz.func137, Tryz.ntmps137
      go_wp2_with (go_at_call 161; refine (partsV_any _ h0 h1 _).mono ?_; rintro e w' ⟨rfl, rfl⟩)
      go_ret
      exact ⟨rfl, rfl⟩

theorem class_nanV (a : Int) (h0 : 0 ≤ a) (h1 : a < 4294967296) (hn : nan a = true) (w : World) :
    Calls Tryz.prog 137 #[.int .u32 a] w fun e w' => e = .returned (.int .i64 5) ∧ w' = w := by
  have := classV_any a h0 h1 w
  rwa [cls_nan a hn h0 h1] at this

set_option maxHeartbeats 400000 in
theorem canonV_any (a : Int) (h0 : 0 ≤ a) (h1 : a < 4294967296) (w : World) :
    Calls Tryz.prog 104 #[.int .u32 a] w fun e w' => e = .returned (.int .u32 (canon a)) ∧ w' = w := by
  cases hn : nan a
  · have hc : canon a = a := by unfold canon; simp [hn]
    have h5 : (cls a == 5) = false := by have := cls_num a hn h0 h1; simpa using this
    rw [hc]; clear hc hn
    go_enter Tryz.func104, Tryz.ntmps104
    go_wp2_with (go_at_call 137; refine (classV_any _ h0 h1 _).mono ?_; rintro e w' ⟨rfl, rfl⟩)
    go_ret
    exact ⟨rfl, rfl⟩
  · have hc : canon a = 2143289344 := by unfold canon; simp [hn]
    rw [hc]; clear hc
    go_enter Tryz.func104, Tryz.ntmps104
    go_wp2_with (go_at_call 137; refine (class_nanV _ h0 h1 hn _).mono ?_; rintro e w' ⟨rfl, rfl⟩)
    go_ret
    exact ⟨rfl, rfl⟩

end Go.Proofs.YtholhpmnicibgaaGreat
