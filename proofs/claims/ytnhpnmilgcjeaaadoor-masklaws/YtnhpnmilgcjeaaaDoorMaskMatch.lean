import Derived.Test.YtnhpnmilgcjeaaaDoorMaskPlain
import Derived.Test.YtnhpnmilgcjeaaaDoorRows
import Derived.WalkKit
import Derived.WalkSpells
import Derived.WalkLawsBesides
import Derived.LoopN
import Derived.Below
import Derived.OwnWalk
import Derived.Deep.OwnRows
import Derived.Deep.DeepCutAuto
import Derived.Deep.QuietTactic
import Derived.Deep.RegionHeld3
import Derived.BigQuiet
import Derived.Handy
/- The reference: Match. -/
namespace Go.Proofs.YtnhpnmilgcjeaaaDoor
open Go.RowKit
set_option linter.unusedVariables false
set_option linter.unusedSimpArgs false

theorem mbel {a b c : World} (h : Below a.heap.size a b) (k : Below b.heap.size b c) : Below a.heap.size a c := h.trans (k.mono h.size)
theorem mbel_dn (w : World) (n : Nat) : Below w.heap.size w (w.drewN n) := ⟨rfl, rfl, rfl, Nat.le_refl _, fun _ _ => rfl⟩
theorem mret_bool {a b : Bool} (h : a = b) : Ending.returned (.bool a) = .returned (.bool b) := by rw [h]

theorem byte_of {x : UInt8} {n : Nat} (h : (x.toNat : Int) = (n : Int)) : x = n.toUInt8 := by
  have : x.toNat = n := by omega
  rw [← this]
  simp

theorem info_bool : (Tryd.prog.info? 4).map (fun i => (i.zero, i.size, i.bytes)) = some (some (.bool false), 1, 1) := by kernel_rfl
theorem make_B (m : Nat) (h : m ≤ 281474976710656) (w : World) : (Instr.makeSlice 49 (.int .i64 m) (.int .i64 m)).run Tryd.prog w = .ok (.slice (some ⟨w.heap.size, 0, none⟩) m m) (w.alloc (.cells (madeCells #[.bool false] m) 4)) :=
  run_make_row' (P := Tryd.prog) 49 4 (.bool false) 1 Tryd.underlying49 info_bool rfl .i64 .i64 m (by omega) (by omega) w

/-- A row of bools. -/
def BR (w : World) (g n : Nat) (f : Nat → Bool) : Prop := w.rowIs g 4 n (fun i => .bool (f i))
theorem BR.congr {w : World} {g n : Nat} {f h : Nat → Bool} (k : BR w g n f) (e : ∀ i, i < n → f i = h i) : BR w g n h := World.rowIs.congr k fun i hi => by rw [e i hi]
theorem BR.set {w : World} {g n : Nat} {f : Nat → Bool} (k : BR w g n f) (i : Nat) (v : Bool) : BR (w.setCell ⟨g, i, none⟩ (.bool v)) g n (fun j => if j = i then v else f j) := by
  have := World.rowIs.set k i (.bool v)
  exact World.rowIs.congr this fun j _ => by show _ = Value.bool (if j = i then v else f j); split <;> rfl
theorem BR.cell {w : World} {g n : Nat} {f : Nat → Bool} (k : BR w g n f) {i : Nat} (hi : i < n) : w.cell? ⟨g, i, none⟩ = some (.bool (f i)) := World.rowIs.cell k hi
theorem BR.made (w : World) (n : Nat) : BR (w.alloc (.cells (madeCells #[.bool false] n) 4)) w.heap.size n (fun _ => false) := World.rowIs_made w (.bool false) n 4

set_option maxRecDepth 100000 in
set_option maxHeartbeats 4000000 in
theorem rMatch_any (a b : ByteArray) (ha : a.size ≤ 281474976710655) (hb : b.size ≤ 281474976710655) (w : World) :
    Calls Tryd.prog 9 #[.string a, .string b] w fun e w' => e = .returned (.bool (matchP (gs a) (gs b))) ∧ Below w.heap.size w w' := by
  obtain ⟨N, hN⟩ : ∃ N, b.size = N := ⟨_, rfl⟩
  obtain ⟨R, hR⟩ : ∃ R, gR (gs a) (gs b) = R := ⟨_, rfl⟩
  have HM : Hid (matchP (gs a) (gs b) = R a.size N) := by show _ = _; unfold matchP; rw [hR, gs_length, gs_length, hN]
  have hmk := make_B (N + 1) (by omega)
  have hw1 : IntKind.i64.wrap ((N : Int) + 1) = (N : Int) + 1 := by rw [IntKind.wrap_i64]; omega
  have hcast : ((N + 1 : Nat) : Int) = (N : Int) + 1 := by omega
  rw [hcast] at hmk
  have hR0 : ∀ k, R 0 k = (k == 0) := fun k => by rw [← hR]; rfl
  have HR0 : Hid (∀ k, R 0 k = (k == 0)) := hR0
  have HSt0 : Hid (∀ i, (gs a)[i]? = some 42 → R (i + 1) 0 = R i 0) := fun i h => by rw [← hR]; exact gR_star0 h
  have HStS : Hid (∀ i, (gs a)[i]? = some 42 → ∀ k, R (i + 1) (k + 1) = (R i (k + 1) || R (i + 1) k)) := fun i h k => by rw [← hR]; exact gR_starS h k
  have HNo0 : Hid (∀ i, (gs a)[i]? ≠ some 42 → R (i + 1) 0 = false) := fun i h => by rw [← hR]; exact gR_no0 h
  have HNoS : Hid (∀ i, (gs a)[i]? ≠ some 42 → ∀ k, R (i + 1) (k + 1) = (((gs a)[i]? == some 63 || (gs a)[i]? == (gs b)[k]?) && R i k)) := fun i h k => by rw [← hR]; exact gR_noS h k
  clear hR hR0
  go_enter Tryd.func9, Tryd.ntmps9
  go_upto_region 1 with fail
  go_cut [5] (fun v wx => v = .slice (some ⟨w.heap.size, 0, none⟩) (N + 1) (N + 1) ∧ BR wx w.heap.size (N + 1) (fun _ => false) ∧ Below w.heap.size w wx)
  case first =>
    clear HR0 HSt0 HStS HNo0 HNoS
    go_wp2
    go_meet
    exact ⟨rfl, BR.made w _, (Below.refl _ _).alloc (Nat.le_refl _) _⟩
  case rest =>
  obtain ⟨rfl, hbr, hbw⟩ := hcut
  have c0 := hbr.cell (i := 0) (by omega)
  have f0 := World.rowIs.frozen hbr 0
  have HB1 : Hid (BR (wc.setCell ⟨w.heap.size, 0, none⟩ (.bool true)) w.heap.size (N + 1) (R 0)) := (hbr.set 0 true).congr fun k _ => by
    rw [HR0.out k]
    by_cases e : k = 0 <;> simp [e]
  have HBW : Hid (Below w.heap.size w (wc.setCell ⟨w.heap.size, 0, none⟩ (.bool true))) := hbw.setCell (Nat.le_refl _) _
  clear hbr hbw HR0
  go_wp2
  go_loopw [5, 6] (fun sv iv wr => Below w.heap.size w wr ∧ ∃ (i g : Nat), i ≤ a.size ∧ w.heap.size ≤ g ∧ iv = .int .i64 i ∧ sv = .slice (some ⟨g, 0, none⟩) (N + 1) (N + 1) ∧ Hid (BR wr g (N + 1) (R i))) (fun _ iv _ => a.size - (intOf iv).toNat)
  case atStart => exact ⟨HBW.out, 0, w.heap.size, Nat.zero_le _, Nat.le_refl _, rfl, rfl, HB1.out⟩
  case round =>
    obtain ⟨hb1, i, g, hi, hg, rfl, rfl, HRI⟩ := hrel
    clear HB1 HBW c0 f0
    by_cases hlt : i < a.size
    · have i1 : (0 : Int) ≤ (i : Int) := by omega
      have i2 : (i : Int) < (a.size : Int) := by omega
      have hga := gs_at a i hlt
      have hgl := World.rowIs.lt HRI.out
      go_upto_region 6 with fail
      go_cut [7] (fun v wx => ∃ h, v = .slice (some ⟨h, 0, none⟩) (N + 1) (N + 1) ∧ g < h ∧ BR wx h (N + 1) (fun _ => false) ∧ BR wx g (N + 1) (R i) ∧ Below w.heap.size w wx)
      case first =>
        have HBA : Hid (BR (wr.alloc (.cells (madeCells #[.bool false] (N + 1)) 4)) g (N + 1) (R i)) := World.rowIs.alloc HRI.out _
        clear HSt0 HStS HNo0 HNoS
        have szr := hb1.size
        go_wp2
        go_meet
        exact ⟨wr.heap.size, rfl, hgl, BR.made wr _, HBA.out, hb1.alloc szr _⟩
      case rest =>
      obtain ⟨h, rfl, hgh, hbh, hbg, hbw⟩ := hcut
      have HBH : Hid (BR wc h (N + 1) (fun p => if p < 0 then R (i + 1) p else false)) := hbh.congr fun p _ => by rw [if_neg (by omega)]
      have HBG : Hid (BR wc g (N + 1) (R i)) := hbg
      have HB6 : Hid (Below w.heap.size w wc) := hbw
      clear hbh hbg hbw HRI hb1 hgl
      go_wp2
      go_loopw [8] (fun kv wr => Below w.heap.size w wr ∧ ∃ k : Nat, k ≤ N + 1 ∧ kv = .int .i64 k ∧ Hid (BR wr h (N + 1) (fun p => if p < k then R (i + 1) p else false)) ∧ Hid (BR wr g (N + 1) (R i))) (fun kv _ => N + 1 - (intOf kv).toNat)
      case atStart => exact ⟨HB6.out, 0, Nat.zero_le _, rfl, HBH.out, HBG.out⟩
      case round =>
        obtain ⟨hbk, k, hk, rfl, HH, HG⟩ := hrel
        clear HBH HBG HB6
        have k1 : (0 : Int) ≤ (k : Int) := by omega
        by_cases hkn : k ≤ N
        · have k2 : (k : Int) ≤ (N : Int) := by omega
          have k3 : (k : Int) < (N : Int) + 1 := by omega
          have HDG : Hid (∀ (wr : World) v, v = R (i + 1) k → BR wr h (N + 1) (fun p => if p < k then R (i + 1) p else false) → BR wr g (N + 1) (R i) → Below w.heap.size w wr → BR (wr.setCell ⟨h, k, none⟩ (.bool v)) h (N + 1) (fun p => if p < k + 1 then R (i + 1) p else false) ∧ BR (wr.setCell ⟨h, k, none⟩ (.bool v)) g (N + 1) (R i) ∧ Below w.heap.size w (wr.setCell ⟨h, k, none⟩ (.bool v))) := fun wr v hv HH HG hbk => by
            refine ⟨(HH.set k v).congr fun p _ => ?_, World.rowIs.setOther HG (a := ⟨h, k, none⟩) (by show g ≠ h; omega) _, hbk.setCell (by show w.heap.size ≤ h; omega) _⟩
            by_cases e : p = k
            · subst e; simp [hv]
            · by_cases e2 : p < k
              · rw [if_neg e, if_pos e2, if_pos (by omega)]
              · rw [if_neg e, if_neg e2, if_neg (by omega)]
          have HD : Hid (∀ v, v = R (i + 1) k → BR (wr.setCell ⟨h, k, none⟩ (.bool v)) h (N + 1) (fun p => if p < k + 1 then R (i + 1) p else false) ∧ BR (wr.setCell ⟨h, k, none⟩ (.bool v)) g (N + 1) (R i) ∧ Below w.heap.size w (wr.setCell ⟨h, k, none⟩ (.bool v))) := fun v hv => HDG.out wr v hv HH.out HG.out hbk
          have HS : Hid (R (i + 1) k = false → BR wr h (N + 1) (fun p => if p < k + 1 then R (i + 1) p else false)) := fun hv => HH.out.congr fun p _ => by
            by_cases e : p = k
            · subst e; simp [hv]
            · by_cases e2 : p < k
              · rw [if_pos e2, if_pos (by omega)]
              · rw [if_neg e2, if_neg (by omega)]
          have c1 := HG.out.cell (i := k) (by omega)
          have c2 := HH.out.cell (i := k) (by omega)
          have f2 := World.rowIs.frozen HH.out k
          rw [if_neg (Nat.lt_irrefl k)] at c2
          by_cases hst : (a[i].toNat : Int) = 42
          · have hst' : ((a[i].toNat : Int) == 42) = true := by simpa using hst
            have hs42 : (gs a)[i]? = some 42 := by rw [hga, byte_of hst]; rfl
            by_cases hk0 : k = 0
            · subst hk0
              have hv := HSt0.out i hs42
              obtain ⟨X, hX⟩ : ∃ X, R i 0 = X := ⟨_, rfl⟩
              rw [hX] at c1 hv
              have HV : Hid (X = R (i + 1) 0) := hv.symm
              clear HSt0 HStS HNo0 HNoS hv hX hs42 hst
              cases X
              all_goals
                go_wp2
                go_roundw
                case rel => exact ⟨(HD.out _ HV.out).2.2, 1, by omega, by go_num, (HD.out _ HV.out).1, (HD.out _ HV.out).2.1⟩
                case measure => simp [intOf]
            · obtain ⟨q, hq⟩ : ∃ q, k = q + 1 := ⟨k - 1, by omega⟩
              have k4 : (0 : Int) < (k : Int) := by omega
              have hv := HStS.out i hs42 q
              have c3 := HH.out.cell (i := q) (by omega)
              rw [if_pos (by omega)] at c3
              rw [← hq] at hv
              have q1 : (0 : Int) ≤ (q : Int) := by omega
              have q2 : (q : Int) < (N : Int) + 1 := by omega
              have hwq : IntKind.i64.wrap ((k : Int) - 1) = (q : Int) := by rw [IntKind.wrap_i64]; omega
              obtain ⟨X, hX⟩ : ∃ X, R i k = X := ⟨_, rfl⟩
              obtain ⟨Y, hY⟩ : ∃ Y, R (i + 1) q = Y := ⟨_, rfl⟩
              rw [hX] at c1
              rw [hX, hY] at hv
              rw [hY] at c3
              have HV0 : Hid ((X || Y) = R (i + 1) k) := hv.symm
              clear HSt0 HStS HNo0 HNoS hv hX hY hs42 hst hq hk0
              cases X <;> cases Y
              all_goals
                have HV := HV0
                simp only [Bool.or_false, Bool.or_true, Bool.false_or, Bool.true_or] at HV
                clear HV0
                go_wp2
                go_roundw
                case rel => exact ⟨(HD.out _ HV.out).2.2, k + 1, by omega, by go_num, (HD.out _ HV.out).1, (HD.out _ HV.out).2.1⟩
                case measure => simp [intOf]; omega
          · have hst' : ((a[i].toNat : Int) == 42) = false := by simpa using hst
            have hs42 : (gs a)[i]? ≠ some 42 := by
              rw [hga]
              intro e
              have := Option.some.inj e
              rw [this] at hst
              exact hst rfl
            by_cases hk0 : k = 0
            · subst hk0
              have HSK : Hid (BR wr h (N + 1) (fun p => if p < 0 + 1 then R (i + 1) p else false)) := HS.out (HNo0.out i hs42)
              clear HSt0 HStS HNo0 HNoS hs42 hst HD HS HDG
              go_wp2
              go_quiet (fail)
              go_wp2
              go_roundw
              case rel => exact ⟨mbel hbk (mbel_dn _ _), 1, by omega, by go_num, HSK.out, HG.out⟩
              case measure => simp [intOf]
            · obtain ⟨q, hq⟩ : ∃ q, k = q + 1 := ⟨k - 1, by omega⟩
              have hqb : q < b.size := by omega
              have hgb := gs_at b q hqb
              have k4 : (0 : Int) < (k : Int) := by omega
              have k4n : 0 < k := by omega
              have hv := HNoS.out i hs42 q
              have c3 := HG.out.cell (i := q) (by omega)
              rw [← hq, hga, hgb] at hv
              have q1 : (0 : Int) ≤ (q : Int) := by omega
              have q2 : (q : Int) < (N : Int) + 1 := by omega
              have q3 : (q : Int) < (b.size : Int) := by omega
              have q4 : (q : Int) < (N : Int) := by omega
              have hwq : IntKind.i64.wrap ((k : Int) - 1) = (q : Int) := by rw [IntKind.wrap_i64]; omega
              by_cases hco : (a[i].toNat : Int) = 63 ∨ (a[i].toNat : Int) = (b[q].toNat : Int)
              · have HV : Hid (R i q = R (i + 1) k) := by
                  show _ = _
                  rw [hv]
                  rcases hco with h63 | heq
                  · rw [byte_of h63]
                    simp
                  · have : a[i] = b[q] := UInt8.toNat_inj.1 (by omega)
                    rw [this]
                    simp
                have HCO : Hid ((a[i].toNat : Int) = 63 ∨ (a[i].toNat : Int) = (b[q].toNat : Int)) := hco
                clear HSt0 HStS HNo0 HNoS hs42 hst HS hv hgb hga hco HD c1 c2 f2 c3 hq
                go_upto_region 12 with fail
                go_cut [54] (fun cv wx => cv = .bool true ∧ BR wx h (N + 1) (fun p => if p < k then R (i + 1) p else false) ∧ BR wx g (N + 1) (R i) ∧ Below w.heap.size w wx)
                case first =>
                  have hcc : ((a[i].toNat : Int) == 63) = true ∨ ((a[i].toNat : Int) == 63) = false ∧ ((a[i].toNat : Int) == (b[q].toNat : Int)) = true := by
                    by_cases h63 : (a[i].toNat : Int) = 63
                    · exact .inl (by simpa using h63)
                    · exact .inr ⟨by simpa using h63, by rcases HCO.out with h | h; exact absurd h h63; simpa using h⟩
                  rcases hcc with h63' | ⟨h63', heq'⟩
                  all_goals
                    go_quiet (fail)
                    go_wp2
                    go_meet
                    exact ⟨rfl, HH.out, HG.out, mbel hbk (mbel_dn _ _)⟩
                case rest =>
                obtain ⟨rfl, hh2, hg2, hb2⟩ := hcut
                have c2 := hh2.cell (i := k) (by omega)
                have f2 := World.rowIs.frozen hh2 k
                rw [if_neg (Nat.lt_irrefl k)] at c2
                have c3 := hg2.cell (i := q) (by omega)
                have HD2 := HDG.out wc _ HV.out hh2 hg2 hb2
                have HD3 : Hid (BR (wc.setCell ⟨h, k, none⟩ (.bool (R i q))) h (N + 1) (fun p => if p < k + 1 then R (i + 1) p else false) ∧ BR (wc.setCell ⟨h, k, none⟩ (.bool (R i q))) g (N + 1) (R i) ∧ Below w.heap.size w (wc.setCell ⟨h, k, none⟩ (.bool (R i q)))) := HD2
                clear HD2 hh2 hg2 hb2 HDG HV HCO
                go_wp2
                go_roundw
                case rel => exact ⟨HD3.out.2.2, k + 1, by omega, by go_num, HD3.out.1, HD3.out.2.1⟩
                case measure => simp [intOf]; omega
              · have h63 : ¬ (a[i].toNat : Int) = 63 := fun h => hco (.inl h)
                have heq : ¬ (a[i].toNat : Int) = (b[q].toNat : Int) := fun h => hco (.inr h)
                have h63' : ((a[i].toNat : Int) == 63) = false := by simpa using h63
                have hn63 : (some a[i] == some (63 : UInt8)) = false := by
                  rw [beq_eq_false_iff_ne]
                  intro e
                  have := Option.some.inj e
                  rw [this] at h63
                  exact h63 rfl
                have heq' : ((a[i].toNat : Int) == (b[q].toNat : Int)) = false := by simpa using heq
                have HSK : Hid (BR wr h (N + 1) (fun p => if p < k + 1 then R (i + 1) p else false)) := HS.out (by
                  have : (some a[i] == some b[q]) = false := by
                    rw [beq_eq_false_iff_ne]
                    intro e
                    rw [Option.some.inj e] at heq
                    exact heq rfl
                  rw [hv, hn63, this]
                  rfl)
                clear HSt0 HStS HNo0 HNoS hs42 hst HS HD HDG hv hgb h63 hga hn63 heq hco hq
                go_wp2
                go_quiet (fail)
                go_wp2
                go_roundw
                case rel => exact ⟨mbel hbk (mbel_dn _ _), k + 1, by omega, by go_num, HSK.out, HG.out⟩
                case measure => simp [intOf]; omega
        · have hkn' : k = N + 1 := by omega
          have k5 : ¬ ((k : Int) ≤ (N : Int)) := by omega
          have HFI : Hid (BR wr h (N + 1) (R (i + 1))) := HH.out.congr fun p hp => by rw [if_pos (by omega)]
          clear HSt0 HStS HNo0 HNoS HH HG
          go_wp2
          go_roundw
          case rel => exact ⟨hbk, i + 1, h, by omega, by omega, by go_num, rfl, HFI.out⟩
          case measure => simp [intOf]; omega
    · have : i = a.size := by omega
      subst this
      have c9 := HRI.out.cell (i := N) (by omega)
      have n1 : (0 : Int) ≤ (N : Int) := by omega
      have n2 : (N : Int) < (N : Int) + 1 := by omega
      clear HSt0 HStS HNo0 HNoS
      go_wp2
      go_ret
      exact ⟨mret_bool HM.out.symm, hb1⟩

end Go.Proofs.YtnhpnmilgcjeaaaDoor
