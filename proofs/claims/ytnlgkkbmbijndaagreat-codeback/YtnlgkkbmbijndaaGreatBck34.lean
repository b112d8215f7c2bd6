import Derived.Test.YtnlgkkbmbijndaaGreatBck33
import Derived.Test.YtnlgkkbmbijndaaGreatBck24
import Derived.Deep.DeepCutAuto
import Derived.Test.YtnlgkkbmbijndaaGreatBck14
import Derived.Test.YtnlgkkbmbijndaaGreatRows
import Derived.WalkKit
import Derived.ProofKit
import Derived.OpenShut
import Derived.JoinedCond
import Derived.Deep.Slices
import Derived.Deep.Strs
import Derived.SizedLaws
/- The reference of layer 16: Check, whatever the code. -/
namespace Go.Proofs.YtnlgkkbmbijndaaGreat
open Go.RowKit
set_option linter.unusedVariables false
set_option linter.unusedSimpArgs false

/-- latheref16.Check of any code whose lists are read is IR1's answer. -/
theorem rcheck16_any (v0 v1 v2 v3 : Value) (c : Cd) (hk : CdOk c) (w : World) (hv : CdV w v0 v1 v2 v3 c) :
    Calls Tryz.prog 15 #[.agg #[v0, v1, v2, v3]] w fun e w' => e = .returned (.tuple #[.int .i64 (checkC c).1, .int .i64 (checkC c).2]) ∧ Below w.heap.size w w' := by
  by_cases h0 : checkP c.sign = 0
  · by_cases h1 : 16384 < c.regs.length ∨ 32768 < c.list.length
    · have e : checkC c = (181, -1) := by unfold checkC aheadP; simp [h0, h1]
      rw [e]
      exact rcheck_early v0 v1 v2 v3 c hk w hv 181 (.inr (.inl ⟨h0, h1, rfl⟩))
    · by_cases h2 : 4096 < c.slots.length
      · have e : checkC c = (180, -1) := by unfold checkC aheadP; simp [h0, h1, h2]
        rw [e]
        exact rcheck_early v0 v1 v2 v3 c hk w hv 180 (.inr (.inr ⟨h0, fun e => h1 (.inl e), fun e => h1 (.inr e), h2, rfl⟩))
      · refine rcheck_walk v0 v1 v2 v3 c hk w hv h0 (by omega) (by omega) (by omega) _ _ ?_
        have hA : aheadP c = if (typesMay c && slotsMay c) = true then 0 else 160 := by
          unfold aheadP
          rw [if_neg (fun e => e h0), if_neg h1, if_neg h2]
        unfold checkC
        rw [hA]
        by_cases h3 : (typesMay c && slotsMay c) = true
        · rw [if_pos h3, if_pos h3, if_neg (by decide)]
        · rw [if_neg h3, if_neg h3, if_pos (by decide)]
  · have e : checkC c = (checkP c.sign, -1) := by unfold checkC aheadP; simp [h0]
    rw [e]
    exact rcheck_early v0 v1 v2 v3 c hk w hv _ (.inl ⟨h0, rfl⟩)

end Go.Proofs.YtnlgkkbmbijndaaGreat
/- The statement CodeBack: its walk. -/
namespace Go.Proofs.YtnlgkkbmbijndaaGreat
open Go.RowKit
set_option linter.unusedVariables false
set_option linter.unusedSimpArgs false

theorem encode_one (c : Cd) (hk : CdOk c) : ∃ (T : ByteArray) (ee : Int), (∀ (v : World) (x0 x1 x2 x3 : Value), CdV v x0 x1 x2 x3 c → Calls Tryz.prog 8 #[.agg #[x0, x1, x2, x3]] v fun e w' => e = .returned (.tuple #[.string T, .int .i64 ee]) ∧ Below v.heap.size v w') ∧ (ee = 0 → T.size ≤ 140737488355328 ∧ decN (bytN T) = .ok c) := by
  by_cases hc : (checkC c).1 = 0
  · have hok := check_code hk.sbits hk.ibits hc
    refine ⟨ofN (encN c), 0, fun v x0 x1 x2 x3 h => encode_good x0 x1 x2 x3 c hk v h hc, fun _ => ⟨?_, ?_⟩⟩
    · rw [ofN_size, enc_len]
      have := eCode_len hok
      omega
    · rw [bytN_ofN (enc_lt hok)]
      exact dec_fw hok hc
  · exact ⟨_, _, fun v x0 x1 x2 x3 h => encode_bad x0 x1 x2 x3 c hk v h hc, fun h => absurd h hc⟩
theorem bytN_app (a b : ByteArray) : bytN (a ++ b) = bytN a ++ bytN b := by
  unfold bytN
  rw [ByteArray.data_append, Array.toList_append, List.map_append]

set_option maxRecDepth 100000 in
set_option maxHeartbeats 16000000 in
theorem walk_CodeBack (v0 v1 v2 v3 : Value) (c : Cd) (hk : CdOk c) (hz : CdSz c) (s : ByteArray) (hs : s.size ≤ 140737488351232) (w : World) (hv : CdV w v0 v1 v2 v3 c) :
    Calls Tryz.prog 6 #[.agg #[v0, v1, v2, v3], .string s] w fun e w' => e = .returned (.bool true) ∧ Below w.heap.size w w' := by
  have KW := hidC (fun v => works24_any v)
  obtain ⟨p0, q0, rfl⟩ : ∃ p q, v0 = .slice p c.sign.length q := by obtain ⟨p, q, e, _⟩ := hv.sign; exact ⟨p, q, e⟩
  obtain ⟨p1, q1, rfl⟩ : ∃ p q, v1 = .slice p c.regs.length q := by obtain ⟨p, q, e, _⟩ := hv.regs; exact ⟨p, q, e⟩
  obtain ⟨p2, q2, rfl⟩ : ∃ p q, v2 = .slice p c.slots.length q := by obtain ⟨p, q, e, _⟩ := hv.slots; exact ⟨p, q, e⟩
  obtain ⟨p3, q3, rfl⟩ : ∃ p q, v3 = .slice p c.list.length q := by obtain ⟨p, q, e, _⟩ := hv.list; exact ⟨p, q, e⟩
  obtain ⟨X, hX⟩ : ∃ X, w.heap.size = X := ⟨_, rfl⟩
  obtain ⟨W0, hW0⟩ : ∃ W, w.alloc (.cells #[.slice p0 c.sign.length q0, .slice p1 c.regs.length q1, .slice p2 c.slots.length q2, .slice p3 c.list.length q3] 27) = W := ⟨_, rfl⟩
  have hb0 : Below w.heap.size w W0 := by rw [← hW0]; exact bel_alloc _ _
  have x0 : W0.cell? ⟨X, 0, none⟩ = some (.slice p0 c.sign.length q0) := by rw [← hW0, ← hX]; simp [go_sem]
  have x1 : W0.cell? ⟨X, 1, none⟩ = some (.slice p1 c.regs.length q1) := by rw [← hW0, ← hX]; simp [go_sem]
  have x2 : W0.cell? ⟨X, 2, none⟩ = some (.slice p2 c.slots.length q2) := by rw [← hW0, ← hX]; simp [go_sem]
  have x3 : W0.cell? ⟨X, 3, none⟩ = some (.slice p3 c.list.length q3) := by rw [← hW0, ← hX]; simp [go_sem]
  have hv0 := hv.below hb0
  have KT := hidC (twin20_any _ _ _ _ c hz W0 hv0)
  have HX := hidC (fun (u : World) (h : Below W0.heap.size W0 u) => (⟨kc h x0, kc h x1, kc h x2, kc h x3⟩ : u.cell? ⟨X, 0, none⟩ = some (.slice p0 c.sign.length q0) ∧ u.cell? ⟨X, 1, none⟩ = some (.slice p1 c.regs.length q1) ∧ u.cell? ⟨X, 2, none⟩ = some (.slice p2 c.slots.length q2) ∧ u.cell? ⟨X, 3, none⟩ = some (.slice p3 c.list.length q3)))
  have HV := hidC (fun (u : World) (h : Below W0.heap.size W0 u) => hv0.below h)
  have HB0 := hidC hb0
  obtain ⟨T, ee, hKE, hTE⟩ := encode_one c hk
  have KE := hidC hKE
  have HTE := hidC hTE
  have KQ := hidC (fun (v : World) (a0 a1 a2 a3 b0 b1 b2 b3 : Value) (ha : CdV v a0 a1 a2 a3 c) (hb : CdV v b0 b1 b2 b3 c) => rEqual_any a0 a1 a2 a3 b0 b1 b2 b3 c c hk hk v ha hb)
  rw [eqC_self] at KQ
  have KQ0 := hidC (fun (v : World) => rEqual_any (.slice none 0 0) (.slice none 0 0) (.slice none 0 0) (.slice none 0 0) (.slice none 0 0) (.slice none 0 0) (.slice none 0 0) (.slice none 0 0) cd0 cd0 (ok_cd cd0_ok) (ok_cd cd0_ok) v (cd0_V v) (cd0_V v))
  rw [eqC_self] at KQ0
  obtain ⟨S, hS⟩ : ∃ S : ByteArray, (⟨#[108, 116, 104, 49]⟩ : ByteArray) ++ s = S := ⟨_, rfl⟩
  have hSz : S.size ≤ 140737488354000 := by
    rw [← bytN_len, ← hS, bytN_app, List.length_append, bytN_len s]
    show 4 + s.size ≤ _
    omega
  have KS := hidC (fun v => sealed_any S hSz v)
  have hUb : ∀ b ∈ bytN S ++ lowB 8 (crP (bytN S)), b < 256 := fun b hb => by
    rcases List.mem_append.1 hb with h | h
    · exact bytN_lt S b h
    · exact lowB_lt _ _ b h
  obtain ⟨U, hU⟩ : ∃ U, ofN (bytN S ++ lowB 8 (crP (bytN S))) = U := ⟨_, rfl⟩
  have hUz : U.size ≤ 140737488355328 := by rw [← hU, ofN_size, List.length_append, lowB_len, bytN_len]; omega
  rw [hU] at KS
  have HDU : Hid ((∃ er at_, er ≠ 0 ∧ ∀ v, Calls Tryz.prog 12 #[.string U] v fun e w' => e = .returned (.tuple #[.agg #[.slice none 0 0, .slice none 0 0, .slice none 0 0, .slice none 0 0], .int .i64 er, .int .i64 ((at_ : Nat) : Int)]) ∧ Below v.heap.size v w') ∨ (∃ d : Cd, okCode d ∧ (checkC d).1 = 0 ∧ ofN (encN d) = U ∧ ∀ v, Calls Tryz.prog 12 #[.string U] v (DecP v (.ok d)))) := by
    cases hq : decN (bytN U) with
    | error e =>
      obtain ⟨er, at_⟩ := e
      refine .inl ⟨er, at_, dec_err hq, fun v => ?_⟩
      have h9 := decode_any U hUz v
      rw [hq] at h9
      exact h9
    | ok d =>
      obtain ⟨h1, h2, h3, -⟩ := dec_bw (bytN_lt U) hq
      refine .inr ⟨d, h2, h3, by rw [← h1, ofN_bytN], fun v => ?_⟩
      have h9 := decode_any U hUz v
      rw [hq] at h9
      exact h9
  clear hb0 hv hv0 hKE hTE hU hUb hUz hSz
  go_enter Tryz.func6, Tryz.ntmps6
  go_upto_region 1 with fail
  try rw [hW0]
  try rw [hX]
  go_upto_if 25 with (first | (go_at_call 7; (with_reducible refine KT.out.mono ?_); rintro e9 w3 ⟨t0, t1, t2, t3, rfl, ht3, ho3, hb3⟩; have HB3 := hidC hb3; have KE3 := hidC (KE.out w3 _ _ _ _ ht3); clear ht3 ho3 hb3) | (go_at_call 8; (with_reducible refine KE3.out.mono ?_); rintro e9 w4 ⟨rfl, hb4⟩; have HB4 : Hid (Below W0.heap.size W0 w4) := bel HB3.out hb4; clear hb4))
  clear hW0 hX x0 x1 x2 x3 KE3 HB3 KT
  go_cut [4] (fun rv wx => rv = .bool false ∧ Hid (Below W0.heap.size W0 wx))
  case first =>
    by_cases he : ee = 0
    · obtain ⟨hTz, hTd⟩ := HTE.out he
      have KD := hidC (fun v => decode_any T hTz v)
      rw [hTd] at KD
      unfold DecP at KD
      simp only at KD
      subst he
      clear hTz hTd HTE
      go_upto_region 4 with (go_at_call 12; (with_reducible refine (KD.out _).mono ?_); rintro e9 w5 ⟨a0, e0, a1, e1, a2, e2, a3, e3, rfl, ho5, hb5⟩; have HO5 := hidC ho5; have HB5 := hidC hb5; clear ho5 hb5)
      obtain ⟨Z, hZ⟩ : ∃ Z, w5.heap.size = Z := ⟨_, rfl⟩
      obtain ⟨V, hV⟩ : ∃ V, w5.alloc (.cells #[.slice a0 c.sign.length e0, .slice a1 c.regs.length e1, .slice a2 c.slots.length e2, .slice a3 c.list.length e3] 27) = V := ⟨_, rfl⟩
      have hbV : Below w5.heap.size w5 V := by rw [← hV]; exact bel_alloc _ _
      have z0 : V.cell? ⟨Z, 0, none⟩ = some (.slice a0 c.sign.length e0) := by rw [← hV, ← hZ]; simp [go_sem]
      have z1 : V.cell? ⟨Z, 1, none⟩ = some (.slice a1 c.regs.length e1) := by rw [← hV, ← hZ]; simp [go_sem]
      have z2 : V.cell? ⟨Z, 2, none⟩ = some (.slice a2 c.slots.length e2) := by rw [← hV, ← hZ]; simp [go_sem]
      have z3 : V.cell? ⟨Z, 3, none⟩ = some (.slice a3 c.list.length e3) := by rw [← hV, ← hZ]; simp [go_sem]
      have hbW : Below W0.heap.size W0 V := bel (bel HB4.out HB5.out) hbV
      obtain ⟨y0, y1, y2, y3⟩ := HX.out V hbW
      have KQV := hidC (KQ.out V _ _ _ _ _ _ _ _ (HV.out V hbW) ((cd_own HO5.out).below hbV))
      have HBW := hidC hbW
      try rw [hV]
      try rw [hZ]
      clear hV hZ hbV hbW HO5 HB5 HB4 KD KQ
      go_wp2_with (go_at_call 10; (with_reducible refine KQV.out.mono ?_); rintro e9 w6 ⟨rfl, hb6⟩; have HB6 := hidC (bel HBW.out hb6); clear hb6)
      go_meet
      exact ⟨rfl, HB6.out⟩
    · have s1 : (ee == 0) = false := by simpa using he
      clear he HTE
      go_wp2
      go_meet
      exact ⟨rfl, HB4.out⟩
  case rest =>
  obtain ⟨rfl, HBC⟩ := hcut
  clear HB4 HX HV KQ KE HTE
  rcases HDU.out with ⟨er, at_, he0, hKD⟩ | ⟨d, hdo, hdc, hdu, hKD⟩
  · have s1 : (er == 0) = false := by simpa using he0
    have s2 : (er != 0) = true := by simpa using he0
    have KD := hidC hKD
    clear hKD HDU he0
    go_upto_region 8 with (first | (go_at_call 14; (with_reducible refine (KS.out _).mono ?_); rintro e9 w5 ⟨rfl, hb5⟩; have HB5 := hidC (bel HBC.out hb5); clear hb5) | (go_at_call 12; (with_reducible refine (KD.out _).mono ?_); rintro e9 w6 ⟨rfl, hb6⟩; have HB6 := hidC (bel HB5.out hb6); clear hb6))
    obtain ⟨Z, hZ⟩ : ∃ Z, w6.heap.size = Z := ⟨_, rfl⟩
    obtain ⟨V, hV⟩ : ∃ V, w6.alloc (.cells #[.slice none 0 0, .slice none 0 0, .slice none 0 0, .slice none 0 0] 27) = V := ⟨_, rfl⟩
    have z0 : V.cell? ⟨Z, 0, none⟩ = some (.slice none 0 0) := by rw [← hV, ← hZ]; simp [go_sem]
    have z1 : V.cell? ⟨Z, 1, none⟩ = some (.slice none 0 0) := by rw [← hV, ← hZ]; simp [go_sem]
    have z2 : V.cell? ⟨Z, 2, none⟩ = some (.slice none 0 0) := by rw [← hV, ← hZ]; simp [go_sem]
    have z3 : V.cell? ⟨Z, 3, none⟩ = some (.slice none 0 0) := by rw [← hV, ← hZ]; simp [go_sem]
    have HBV : Hid (Below W0.heap.size W0 V) := by
      show Below _ _ _
      rw [← hV]
      exact bel HB6.out (bel_alloc _ _)
    try rw [hV]
    try rw [hZ]
    clear hV hZ
    go_wp2_with (first | (go_at_call 10; (with_reducible refine (KQ0.out _).mono ?_); rintro e9 w7 ⟨rfl, hb7⟩; have HB7 := hidC (bel HBV.out hb7); clear hb7) | (go_at_call 11; (with_reducible refine (KW.out _).mono ?_); rintro e9 wz ⟨rfl, hbz⟩; have HBz := hidC (bel HB0.out (bel HB7.out hbz)); clear hbz))
    refine bodyPost_ret (by simp [results, Tryz.results6, go_sem, *]; try rfl) rfl ?_
    exact ⟨by first | rfl | simp, HBz.out⟩
  · have KD := hidC hKD
    unfold DecP at KD
    simp only at KD
    have KC := hidC (fun (v : World) (x0 x1 x2 x3 : Value) (h : CdV v x0 x1 x2 x3 d) => rcheck16_any x0 x1 x2 x3 d (ok_cd hdo) v h)
    have KE := hidC (fun (v : World) (x0 x1 x2 x3 : Value) (h : CdV v x0 x1 x2 x3 d) => encode_good x0 x1 x2 x3 d (ok_cd hdo) v h hdc)
    rw [hdu] at KE
    rw [hdc] at KC
    obtain ⟨ed, hed⟩ : ∃ e, (checkC d).2 = e := ⟨_, rfl⟩
    rw [hed] at KC
    clear hKD HDU hdo hdc hdu hed
    go_upto_region 8 with (first | (go_at_call 14; (with_reducible refine (KS.out _).mono ?_); rintro e9 w5 ⟨rfl, hb5⟩; have HB5 := hidC (bel HBC.out hb5); clear hb5) | (go_at_call 12; (with_reducible refine (KD.out _).mono ?_); rintro e9 w6 ⟨a0, e0, a1, e1, a2, e2, a3, e3, rfl, ho6, hb6⟩; have HO6 := hidC ho6; have HB6 := hidC (bel HB5.out hb6); clear ho6 hb6))
    obtain ⟨Z, hZ⟩ : ∃ Z, w6.heap.size = Z := ⟨_, rfl⟩
    obtain ⟨V, hV⟩ : ∃ V, w6.alloc (.cells #[.slice a0 d.sign.length e0, .slice a1 d.regs.length e1, .slice a2 d.slots.length e2, .slice a3 d.list.length e3] 27) = V := ⟨_, rfl⟩
    have hbV : Below w6.heap.size w6 V := by rw [← hV]; exact bel_alloc _ _
    have z0 : V.cell? ⟨Z, 0, none⟩ = some (.slice a0 d.sign.length e0) := by rw [← hV, ← hZ]; simp [go_sem]
    have z1 : V.cell? ⟨Z, 1, none⟩ = some (.slice a1 d.regs.length e1) := by rw [← hV, ← hZ]; simp [go_sem]
    have z2 : V.cell? ⟨Z, 2, none⟩ = some (.slice a2 d.slots.length e2) := by rw [← hV, ← hZ]; simp [go_sem]
    have z3 : V.cell? ⟨Z, 3, none⟩ = some (.slice a3 d.list.length e3) := by rw [← hV, ← hZ]; simp [go_sem]
    have hcv := (cd_own HO6.out).below hbV
    have HBV : Hid (Below W0.heap.size W0 V) := bel HB6.out hbV
    have KCV := hidC (KC.out V _ _ _ _ hcv)
    have KEV := hidC (fun (v : World) (h : Below V.heap.size V v) => KE.out v _ _ _ _ (hcv.below h))
    have HZC := hidC (fun (u : World) (h : Below V.heap.size V u) => (⟨kc h z0, kc h z1, kc h z2, kc h z3⟩ : u.cell? ⟨Z, 0, none⟩ = some (.slice a0 d.sign.length e0) ∧ u.cell? ⟨Z, 1, none⟩ = some (.slice a1 d.regs.length e1) ∧ u.cell? ⟨Z, 2, none⟩ = some (.slice a2 d.slots.length e2) ∧ u.cell? ⟨Z, 3, none⟩ = some (.slice a3 d.list.length e3)))
    try rw [hV]
    try rw [hZ]
    clear hV hZ hbV hcv HO6 HB6 HB5 KC KE KD
    go_upto_region 11 with (go_at_call 15; (with_reducible refine KCV.out.mono ?_); rintro e9 w7 ⟨rfl, hb7⟩; have HB7 := hidC hb7; clear hb7)
    obtain ⟨y0, y1, y2, y3⟩ := HZC.out w7 HB7.out
    have KE7 := hidC (KEV.out w7 HB7.out)
    clear z0 z1 z2 z3 KCV KEV HZC
    go_wp2_with (first | (go_at_call 8; (with_reducible refine KE7.out.mono ?_); rintro e9 w8 ⟨rfl, hb8⟩; have HB8 := hidC (bel HBV.out (bel HB7.out hb8)); clear hb8) | (go_at_call 11; (with_reducible refine (KW.out _).mono ?_); rintro e9 wz ⟨rfl, hbz⟩; have HBz := hidC (bel HB0.out (bel HB8.out hbz)); clear hbz))
    refine bodyPost_ret (by simp [results, Tryz.results6, go_sem, *]; try rfl) rfl ?_
    exact ⟨by first | rfl | simp, HBz.out⟩

end Go.Proofs.YtnlgkkbmbijndaaGreat
/- Arguments opened: an instruction; code. -/
namespace Go.Proofs.YtnlgkkbmbijndaaGreat
open Go.ChangeShapes Go.WideShapes Go.ChangeAt Go.RowKit
set_option linter.unusedVariables false
set_option maxRecDepth 100000

theorem cells_Inst : Tryz.prog.cellsOf 70 = 7 := by kernel_rfl
theorem cells_Param : Tryz.prog.cellsOf 59 = 3 := by kernel_rfl
theorem cells_Type : Tryz.prog.cellsOf 62 = 2 := by kernel_rfl
theorem cells_Slot : Tryz.prog.cellsOf 66 = 5 := by kernel_rfl
theorem cells_Code : Tryz.prog.cellsOf 27 = 4 := by kernel_rfl
theorem bytes_Inst : Tryz.prog.bytesOf 70 = 56 := by kernel_rfl
theorem bytes_Param : Tryz.prog.bytesOf 59 = 32 := by kernel_rfl
theorem bytes_Type : Tryz.prog.bytesOf 62 = 16 := by kernel_rfl
theorem bytes_Slot : Tryz.prog.bytesOf 66 = 32 := by kernel_rfl
theorem weights_mem_all {H : Type} {P : Program} {e : TypeId} : ∀ {l : List (DataW H)} {d : DataW H}, d ∈ l → ∀ n ∈ d.weights P e, n ∈ DataW.weightsAll P e l
  | [], d, h, n, hn => by cases h
  | x :: r, d, h, n, hn => by
    simp only [DataW.weightsAll, List.mem_append]
    rcases List.mem_cons.1 h with rfl | h
    · exact .inl hn
    · exact .inr (weights_mem_all h n hn)

section
variable {H : Type} {enc : TypeId × Value → H} {w : World} {base : Nat} {held : Bool}

def InsOk (i : Ins) : Prop := 0 ≤ i.bits ∧ i.bits < 4294967296
theorem open_Ins {fuel : Nat} {cs : List Value} {x : DataW H × List MemPlace} (h : DataW.trod enc Tryz.prog w base (fun _ => true) held fuel 70 cs = some x) : ∃ i : Ins, cs = inC i ∧ InsOk i := by
  obtain ⟨xs, n, hfn, hx, hl, hxl, hf⟩ := DataW.trod_struct Tryz.underlying70 h
  rw [cells_Inst] at hl
  match cs, hl with
  | [v0, v1, v2, v3, v4, v5, v6], _ =>
  match xs, hxl with
  | [y0, y1, y2, y3, y4, y5, y6], _ =>
    have e0 : DataW.trod enc Tryz.prog w base (fun _ => true) held n 3 [v0] = some y0 := hf 0 _ rfl
    have e1 : DataW.trod enc Tryz.prog w base (fun _ => true) held n 3 [v1] = some y1 := hf 1 _ rfl
    have e2 : DataW.trod enc Tryz.prog w base (fun _ => true) held n 3 [v2] = some y2 := hf 2 _ rfl
    have e3 : DataW.trod enc Tryz.prog w base (fun _ => true) held n 3 [v3] = some y3 := hf 3 _ rfl
    have e4 : DataW.trod enc Tryz.prog w base (fun _ => true) held n 3 [v4] = some y4 := hf 4 _ rfl
    have e5 : DataW.trod enc Tryz.prog w base (fun _ => true) held n 3 [v5] = some y5 := hf 5 _ rfl
    have e6 : DataW.trod enc Tryz.prog w base (fun _ => true) held n 64 [v6] = some y6 := hf 6 _ rfl
    obtain ⟨a0, c0, -, w0⟩ := DataW.trod_int Tryz.underlying3 e0
    obtain ⟨a1, c1, -, w1⟩ := DataW.trod_int Tryz.underlying3 e1
    obtain ⟨a2, c2, -, w2⟩ := DataW.trod_int Tryz.underlying3 e2
    obtain ⟨a3, c3, -, w3⟩ := DataW.trod_int Tryz.underlying3 e3
    obtain ⟨a4, c4, -, w4⟩ := DataW.trod_int Tryz.underlying3 e4
    obtain ⟨a5, c5, -, w5⟩ := DataW.trod_int Tryz.underlying3 e5
    obtain ⟨a6, c6, -, w6⟩ := DataW.trod_int Tryz.underlying64 e6
    simp only [List.cons.injEq, and_true] at c0 c1 c2 c3 c4 c5 c6
    subst c0 c1 c2 c3 c4 c5 c6
    exact ⟨⟨a0, a1, a2, a3, a4, a5, a6⟩, rfl, (bounds_u32 w6).1, Int.lt_add_one_of_le (bounds_u32 w6).2⟩
theorem open_Par {fuel : Nat} {cs : List Value} {x : DataW H × List MemPlace} (h : DataW.trod enc Tryz.prog w base (fun _ => true) held fuel 59 cs = some x) (hw : ∀ n ∈ x.1.weights Tryz.prog 59, n ≤ reachBytes) :
    ∃ p : Par, cs = parCells p ∧ p.name.size ≤ 140737488351232 := by
  obtain ⟨xs, n, hfn, hx, hl, hxl, hf⟩ := DataW.trod_struct Tryz.underlying59 h
  rw [cells_Param] at hl
  match cs, hl with
  | [v0, v1, v2], _ =>
  match xs, hxl with
  | [y0, y1, y2], _ =>
    have e0 : DataW.trod enc Tryz.prog w base (fun _ => true) held n 9 [v0] = some y0 := hf 0 _ rfl
    have e1 : DataW.trod enc Tryz.prog w base (fun _ => true) held n 3 [v1] = some y1 := hf 1 _ rfl
    have e2 : DataW.trod enc Tryz.prog w base (fun _ => true) held n 3 [v2] = some y2 := hf 2 _ rfl
    obtain ⟨a0, c0, hd0, w0⟩ := DataW.trod_string Tryz.underlying9 e0
    obtain ⟨a1, c1, hd1, w1⟩ := DataW.trod_int Tryz.underlying3 e1
    obtain ⟨a2, c2, hd2, w2⟩ := DataW.trod_int Tryz.underlying3 e2
    simp only [List.cons.injEq, and_true] at c0 c1 c2
    subst c0 c1 c2
    subst hx
    have hws : ∀ (j : Nat) (t : TypeId) (d : DataW H), [9, 3, 3][j]? = some t → [y0.1, y1.1, y2.1][j]? = some d → ∀ n ∈ d.weights Tryz.prog t, n ≤ reachBytes := fun j t d ht hd n hn => by
      refine hw n ?_
      show n ∈ DataW.weights Tryz.prog 59 (.agg [y0.1, y1.1, y2.1])
      rw [DataW.weights, Tryz.underlying59]
      exact DataW.weights_mem_each (ts := [9, 3, 3]) ht hd n hn
    have s1 : a0.size ≤ 140737488351232 := by
      have := hws 0 _ _ rfl rfl a0.data.toList.length (by rw [hd0]; simp [DataW.weights])
      simpa [reachBytes] using this
    exact ⟨⟨a0, a1, a2⟩, rfl, s1⟩
theorem open_Ty {fuel : Nat} {cs : List Value} {x : DataW H × List MemPlace} (h : DataW.trod enc Tryz.prog w base (fun _ => true) held fuel 62 cs = some x) : ∃ t : Ty, cs = tyC t ∧ True := by
  obtain ⟨xs, n, hfn, hx, hl, hxl, hf⟩ := DataW.trod_struct Tryz.underlying62 h
  rw [cells_Type] at hl
  match cs, hl with
  | [v0, v1], _ =>
  match xs, hxl with
  | [y0, y1], _ =>
    have e0 : DataW.trod enc Tryz.prog w base (fun _ => true) held n 3 [v0] = some y0 := hf 0 _ rfl
    have e1 : DataW.trod enc Tryz.prog w base (fun _ => true) held n 3 [v1] = some y1 := hf 1 _ rfl
    obtain ⟨a0, c0, -, w0⟩ := DataW.trod_int Tryz.underlying3 e0
    obtain ⟨a1, c1, -, w1⟩ := DataW.trod_int Tryz.underlying3 e1
    simp only [List.cons.injEq, and_true] at c0 c1
    subst c0 c1
    exact ⟨⟨a0, a1⟩, rfl, trivial⟩
def SlOk (s : Sl) : Prop := 0 ≤ s.bits ∧ s.bits < 4294967296
theorem open_Sl {fuel : Nat} {cs : List Value} {x : DataW H × List MemPlace} (h : DataW.trod enc Tryz.prog w base (fun _ => true) held fuel 66 cs = some x) : ∃ s : Sl, cs = slC s ∧ SlOk s := by
  obtain ⟨xs, n, hfn, hx, hl, hxl, hf⟩ := DataW.trod_struct Tryz.underlying66 h
  rw [cells_Slot] at hl
  match cs, hl with
  | [v0, v1, v2, v3, v4], _ =>
  match xs, hxl with
  | [y0, y1, y2, y3], _ =>
    have e0 : DataW.trod enc Tryz.prog w base (fun _ => true) held n 62 [v0, v1] = some y0 := hf 0 _ rfl
    have e1 : DataW.trod enc Tryz.prog w base (fun _ => true) held n 4 [v2] = some y1 := hf 1 _ rfl
    have e2 : DataW.trod enc Tryz.prog w base (fun _ => true) held n 64 [v3] = some y2 := hf 2 _ rfl
    have e3 : DataW.trod enc Tryz.prog w base (fun _ => true) held n 3 [v4] = some y3 := hf 3 _ rfl
    obtain ⟨t, ht, -⟩ := open_Ty e0
    obtain ⟨a1, c1, -⟩ := DataW.trod_bool Tryz.underlying4 e1
    obtain ⟨a2, c2, -, w2⟩ := DataW.trod_int Tryz.underlying64 e2
    obtain ⟨a3, c3, -, w3⟩ := DataW.trod_int Tryz.underlying3 e3
    obtain ⟨K, P⟩ := t
    simp only [tyC, List.cons.injEq, and_true] at ht c1 c2 c3
    obtain ⟨rfl, rfl⟩ := ht
    subst c1 c2 c3
    exact ⟨⟨⟨K, P⟩, a1, a2, a3⟩, rfl, (bounds_u32 w2).1, Int.lt_add_one_of_le (bounds_u32 w2).2⟩

/-- A slice of structs, told by how one of them is opened. -/
theorem open_rowG {α : Type} [Inhabited α] {f : α → List Value} {k bytes : Nat} {t e : TypeId} {Good : α → Prop} (hk : 0 < k) (hf : ∀ x, (f x).length = k) (ht : Tryz.prog.underlying t = some (.slice e)) (hce : Tryz.prog.cellsOf e = k) (hby : Tryz.prog.bytesOf e = bytes) (hb0 : 0 < bytes)
    (hop : ∀ {fuel : Nat} {cs : List Value} {x : DataW H × List MemPlace}, DataW.trod enc Tryz.prog w base (fun _ => true) held fuel e cs = some x → (∀ n ∈ x.1.weights Tryz.prog e, n ≤ reachBytes) → ∃ a : α, cs = f a ∧ Good a)
    {fuel : Nat} {v : Value} {x : DataW H × List MemPlace} (h : DataW.trod enc Tryz.prog w base (fun _ => true) held fuel t [v] = some x) (hw : ∀ n ∈ x.1.weights Tryz.prog t, n ≤ reachBytes) :
    ∃ l : List α, RowG k f w v l ∧ l.length * bytes ≤ 140737488351232 ∧ ∀ a ∈ l, Good a := by
  rcases DataW.trod_slice ht h with ⟨hcs, hx⟩ | ⟨a, len, cap, elems, rest, m, hm, hcs, hx, _, hl, _, hel, hread, _, _⟩
  · simp only [List.cons.injEq, and_true] at hcs
    subst hcs
    exact ⟨[], ⟨none, 0, rfl, .inl rfl⟩, by simp, fun a h => by cases h⟩
  · simp only [List.cons.injEq, and_true] at hcs
    subst hcs
    subst hx
    have key : ∀ i, i < len → ∃ q : α, (∀ j, j < k → w.cell? (a.add (i * k + j)) = (f q)[j]?) ∧ Good q := by
      intro i hi
      have h1 := hread i hi
      rw [hce] at h1
      have hie : i < elems.length := by omega
      rw [List.getElem?_eq_getElem hie] at h1
      obtain ⟨cs', h2, h3⟩ := Option.bind_eq_some_iff.1 h1
      obtain ⟨_, hlen3, hcell⟩ := World.cells?_some h2
      obtain ⟨q, hcs, hok⟩ := hop h3 (fun n hn => hw n (by
        rw [DataW.weights, ht]
        exact List.mem_cons_of_mem _ (List.mem_append_left _ (weights_mem_all (List.mem_map.2 ⟨elems[i], List.getElem_mem hie, rfl⟩) n hn))))
      refine ⟨q, fun j hj => ?_, hok⟩
      have := hcell j hj
      rw [Go.Deep.add_add, hcs] at this
      exact this
    obtain ⟨g, hg⟩ := Go.Deep.choose_lt key
    have hTl : ((List.range len).map g).length = len := by simp
    have hbig : len * bytes ≤ 140737488351232 := by
      have := hw _ (by rw [DataW.weights, ht]; exact List.mem_cons_self)
      rw [hby] at this
      simp only [List.length_map, reachBytes] at this
      have hln : elems.length = len := by omega
      simp only [hln] at this
      exact Nat.le_trans (Nat.mul_le_mul_right _ (Nat.le_add_right _ _)) this
    refine ⟨(List.range len).map g, ?_, by rw [hTl]; exact hbig, ?_⟩
    · refine ⟨some a, cap, by rw [hTl], ?_⟩
      by_cases hl0 : len = 0
      · left; simp [hl0]
      · obtain ⟨b, off, spot⟩ := a
        have hne : 0 < (f (g 0)).length := by rw [hf]; exact hk
        have hspot : spot = none := by
          have := (hg 0 (by omega)).1 0 hk
          rw [List.getElem?_eq_getElem hne] at this
          simpa [Addr.add] using World.cell?_spot this
        subst hspot
        refine .inr ⟨b, off, rfl, fun i hi j hj => ?_⟩
        have hi' : i < len := by rw [hTl] at hi; exact hi
        obtain ⟨q, -⟩ := hg i hi'
        have e : ((List.range len).map g)[i] = g i := by simp
        have hj2 : j < (f (g i)).length := by simpa [e] using hj
        have hj3 : j < k := by rw [← hf (g i)]; exact hj2
        have q' := q j hj3
        rw [add_none, ← Nat.add_assoc] at q'
        rw [q', List.getElem?_eq_getElem hj2]
        congr 1
        simp [e]
    · intro q hq
      obtain ⟨i, hi, rfl⟩ := List.mem_map.1 hq
      exact (hg i (List.mem_range.1 hi)).2

instance : Inhabited Ins := ⟨⟨0, 0, 0, 0, 0, 0, 0⟩⟩
instance : Inhabited Ty := ⟨⟨0, 0⟩⟩
instance : Inhabited Sl := ⟨⟨⟨0, 0⟩, false, 0, 0⟩⟩
instance : Inhabited Par := ⟨⟨⟨#[]⟩, 0, 0⟩⟩

/-- Code that came in. -/
theorem open_Code {r : Reach} {b0 : Nat} {v : Value} {d : DataW H} {pl : List MemPlace} (hv : Value.okWide Tryz.prog w r b0 27 v) (h : DataW.Trod enc Tryz.prog w base (fun _ => true) held 27 v d pl) (hw : ∀ n ∈ d.weights Tryz.prog 27, n ≤ reachBytes) :
    ∃ (v0 v1 v2 v3 : Value) (c : Cd), v = .agg #[v0, v1, v2, v3] ∧ CdV w v0 v1 v2 v3 c ∧ CdOk c ∧ c.sign.length * 32 ≤ 140737488351232 ∧ c.regs.length * 16 ≤ 140737488351232 ∧ c.slots.length * 32 ≤ 140737488351232 ∧ c.list.length * 56 ≤ 140737488351232 := by
  obtain ⟨cs, rfl, hsz⟩ := okWide_struct Tryz.underlying27 hv
  obtain ⟨fuel, hf0⟩ := h
  obtain ⟨xs, n, hfn, hx, hl, hxl, hf⟩ := DataW.trod_struct Tryz.underlying27 hf0
  rw [cells_Code] at hl
  obtain ⟨cl, hcl⟩ : ∃ cl, (Value.agg cs).cells.toList = cl := ⟨_, rfl⟩
  rw [hcl] at hl hf
  have hcs : cs.toList = cl := by rw [← hcl]; simp [Value.cells]
  match cl, hl with
  | [v0, v1, v2, v3], _ =>
  match xs, hxl with
  | [y0, y1, y2, y3], _ =>
    have e0 : DataW.trod enc Tryz.prog w base (fun _ => true) held n 22 [v0] = some y0 := hf 0 _ rfl
    have e1 : DataW.trod enc Tryz.prog w base (fun _ => true) held n 23 [v1] = some y1 := hf 1 _ rfl
    have e2 : DataW.trod enc Tryz.prog w base (fun _ => true) held n 24 [v2] = some y2 := hf 2 _ rfl
    have e3 : DataW.trod enc Tryz.prog w base (fun _ => true) held n 25 [v3] = some y3 := hf 3 _ rfl
    have hd : d = .agg [y0.1, y1.1, y2.1, y3.1] := congrArg Prod.fst hx
    have hws : ∀ (j : Nat) (t : TypeId) (d : DataW H), [22, 23, 24, 25][j]? = some t → [y0.1, y1.1, y2.1, y3.1][j]? = some d → ∀ n ∈ d.weights Tryz.prog t, n ≤ reachBytes := fun j t d' ht hd' n hn => by
      refine hw n ?_
      rw [hd]
      show n ∈ DataW.weights Tryz.prog 27 (.agg [y0.1, y1.1, y2.1, y3.1])
      rw [DataW.weights, Tryz.underlying27]
      exact DataW.weights_mem_each (ts := [22, 23, 24, 25]) ht hd' n hn
    obtain ⟨l0, r0, s0, g0⟩ := open_rowG (Good := fun p : Par => p.name.size ≤ 140737488351232) (by decide) parC_len Tryz.underlying22 cells_Param bytes_Param (by decide) (fun h hw => open_Par h hw) e0 (hws 0 _ _ rfl rfl)
    obtain ⟨l1, r1, s1, g1⟩ := open_rowG (Good := fun _ : Ty => True) (by decide) tyC_len Tryz.underlying23 cells_Type bytes_Type (by decide) (fun h _ => open_Ty h) e1 (hws 1 _ _ rfl rfl)
    obtain ⟨l2, r2, s2, g2⟩ := open_rowG (Good := SlOk) (by decide) slC_len Tryz.underlying24 cells_Slot bytes_Slot (by decide) (fun h _ => open_Sl h) e2 (hws 2 _ _ rfl rfl)
    obtain ⟨l3, r3, s3, g3⟩ := open_rowG (Good := InsOk) (by decide) inC_len Tryz.underlying25 cells_Inst bytes_Inst (by decide) (fun h _ => open_Ins h) e3 (hws 3 _ _ rfl rfl)
    refine ⟨v0, v1, v2, v3, ⟨l0, l1, l2, l3⟩, ?_, ⟨r0, r1, r2, r3⟩, ⟨by show l0.length ≤ _; omega, g0, by show l1.length ≤ _; omega, by show l2.length ≤ _; omega, by show l3.length ≤ _; omega, g2, g3⟩, s0, s1, s2, s3⟩
    rw [Value.agg.injEq]
    apply Array.toList_inj.1
    exact hcs
end

end Go.Proofs.YtnlgkkbmbijndaaGreat
