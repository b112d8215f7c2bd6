import Derived.Test.YtnlgkkbmbijndaaDam23
import Derived.Laws.IdiomStrings
import Derived.Deep.DeepCutAuto
import Derived.Test.YtnlgkkbmbijndaaDam14
import Derived.Test.YtnlgkkbmbijndaaRows
import Derived.WalkKit
import Derived.ProofKit
import Derived.OpenShut
import Derived.JoinedCond
import Derived.Deep.Slices
import Derived.Deep.Strs
import Derived.SizedLaws
/- The statement CodeDamage: its walk. By program (tool/layer25/gendamage.py). -/
namespace Go.Proofs.Ytnlgkkbmbijndaa
open Go.RowKit
set_option linter.unusedVariables false
set_option linter.unusedSimpArgs false

/-- A row of bytes that may be written. -/
def ByR (w : World) (g : Nat) (l : List Nat) : Prop := ∀ j (hj : j < l.length), w.cell? ⟨g, j, none⟩ = some (.int .u8 ((l[j] : Nat) : Int)) ∧ w.frozen? ⟨g, j, none⟩ = false
theorem ByR.set {w : World} {g : Nat} {l : List Nat} (h : ByR w g l) (i : Nat) (hi : i < l.length) (v : Nat) : ByR (w.setCell ⟨g, i, none⟩ (.int .u8 (v : Int))) g (l.set i v) := fun j hj => by
  have hj' : j < l.length := by simpa using hj
  obtain ⟨h1, h2⟩ := h j hj'
  obtain ⟨h3, h4⟩ := h i hi
  by_cases e : i = j
  · subst e
    exact ⟨by simp [go_sem, h3], by simpa [go_sem] using h2⟩
  · exact ⟨by simp [go_sem, h1, List.getElem_set, e, Ne.symm e], by simpa [go_sem] using h2⟩
theorem ByR.below {w w' : World} {g : Nat} {l : List Nat} (h : ByR w g l) (k : Below w.heap.size w w') : ByR w' g l := fun j hj => ⟨kc k (h j hj).1, kf k (h j hj).1 (h j hj).2⟩
theorem bx8 {x y : Nat} (hx : x < 256) (hy : y < 256) : bits .xor .u8 (x : Int) (y : Int) = ((x ^^^ y : Nat) : Int) := by
  have h : (BitVec.ofInt 8 (x : Int) ^^^ BitVec.ofInt 8 (y : Int)).toNat = x ^^^ y := by
    rw [BitVec.toNat_xor]
    simp only [BitVec.ofInt_natCast, BitVec.toNat_ofNat]
    rw [Nat.mod_eq_of_lt hx, Nat.mod_eq_of_lt hy]
  have h2 : x ^^^ y < 256 := Nat.xor_lt_two_pow (n := 8) hx hy
  show IntKind.u8.wrap (((BitVec.ofInt 8 (x : Int) ^^^ BitVec.ofInt 8 (y : Int)).toNat : Nat) : Int) = _
  rw [h, IntKind.wrap_u8']
  omega
theorem conv_by (t : ByteArray) (w : World) : ∃ cap w', (convert 9 40 (.string t)).run Try.prog w = .ok (.slice (some ⟨w.heap.size, 0, none⟩) t.size cap) w' ∧ Below w.heap.size w w' ∧ ByR w' w.heap.size (bytN t) := by
  refine ⟨_, _, Go.Lib.run_convert_string_bytes w _ _ 5 t Try.underlying9 Try.underlying40 Try.underlying5, ⟨rfl, rfl, rfl, ?_, fun k hk => Go.Lib.bytesWorld_at_old _ _ _ k hk⟩, fun j hj => ?_⟩
  · rw [Go.Lib.bytesWorld_size]; omega
  · have hj0 : j < t.size := by rw [bytN_len] at hj; exact hj
    have hj' : j < t.data.size := hj0
    refine ⟨?_, ?_⟩
    · rw [Go.Lib.bytesWorld_cell _ _ _ j hj0, List.getD, Array.getElem?_toList, Array.getElem?_eq_getElem hj']
      simp [bytN]
    · unfold World.frozen?
      rw [show ((⟨w.heap.size, j, none⟩ : Addr).block) = w.heap.size from rfl, Go.Lib.bytesWorld_at_new]
      simp [Go.Lib.bytesCells]
      omega
theorem conv_str {w : World} {g : Nat} {l : List Nat} (h : ByR w g l) (hb : ∀ b ∈ l, b < 256) (cap : Nat) : (convert 40 9 (.slice (some ⟨g, 0, none⟩) l.length cap)).run Try.prog w = .ok (.string (ofN l)) w := by
  have hl : (l.map UInt8.ofNat).length = l.length := List.length_map _
  have := run_convert_bytes_back (P := Try.prog) w 40 9 5 ⟨g, 0, none⟩ cap (l.map UInt8.ofNat) Try.underlying40 Try.underlying5 Try.underlying9 (fun j hj => by
    have hj' : j < l.length := by rw [← hl]; exact hj
    have hlt := hb l[j] (List.getElem_mem hj')
    have hadd : (⟨g, 0, none⟩ : Addr).add j = ⟨g, j, none⟩ := by unfold Addr.add; split <;> simp_all
    rw [hadd, (h j hj').1, List.getElem_map, UInt8.toNat_ofNat', Nat.mod_eq_of_lt hlt])
  rw [hl] at this
  exact this

set_option maxRecDepth 100000 in
set_option maxHeartbeats 16000000 in
theorem walk_CodeDamage (v0 v1 v2 v3 : Value) (c : Cd) (hk : CdOk c) (hz : CdSz c) (cut : Bool) (At : Int) (hA1 : -9223372036854775808 ≤ At) (hA2 : At ≤ 9223372036854775807) (B : Nat) (hB : B < 18446744073709551616) (w : World) (hv : CdV w v0 v1 v2 v3 c) :
    Calls Try.prog 4 #[.agg #[v0, v1, v2, v3], .agg #[.bool cut, .int .i64 At, .int .u64 (B : Int)]] w fun e w' => e = .returned (.bool true) ∧ Below w.heap.size w w' := by
  have KW := hidC (fun v => works24_any v)
  obtain ⟨p0, q0, rfl⟩ : ∃ p q, v0 = .slice p c.sign.length q := by obtain ⟨p, q, e, _⟩ := hv.sign; exact ⟨p, q, e⟩
  obtain ⟨p1, q1, rfl⟩ : ∃ p q, v1 = .slice p c.regs.length q := by obtain ⟨p, q, e, _⟩ := hv.regs; exact ⟨p, q, e⟩
  obtain ⟨p2, q2, rfl⟩ : ∃ p q, v2 = .slice p c.slots.length q := by obtain ⟨p, q, e, _⟩ := hv.slots; exact ⟨p, q, e⟩
  obtain ⟨p3, q3, rfl⟩ : ∃ p q, v3 = .slice p c.list.length q := by obtain ⟨p, q, e, _⟩ := hv.list; exact ⟨p, q, e⟩
  obtain ⟨X, hX⟩ : ∃ X, w.heap.size = X := ⟨_, rfl⟩
  obtain ⟨W0, hW0⟩ : ∃ W, (w.alloc (.cells #[.slice p0 c.sign.length q0, .slice p1 c.regs.length q1, .slice p2 c.slots.length q2, .slice p3 c.list.length q3] 31)).alloc (.cells #[.bool cut, .int .i64 At, .int .u64 (B : Int)] 33) = W := ⟨_, rfl⟩
  have hb0 : Below w.heap.size w W0 := by rw [← hW0]; exact bel (bel_alloc _ _) (bel_alloc _ _)
  have x0 : W0.cell? ⟨X, 0, none⟩ = some (.slice p0 c.sign.length q0) := by rw [← hW0, ← hX]; simp [go_sem]
  have x1 : W0.cell? ⟨X, 1, none⟩ = some (.slice p1 c.regs.length q1) := by rw [← hW0, ← hX]; simp [go_sem]
  have x2 : W0.cell? ⟨X, 2, none⟩ = some (.slice p2 c.slots.length q2) := by rw [← hW0, ← hX]; simp [go_sem]
  have x3 : W0.cell? ⟨X, 3, none⟩ = some (.slice p3 c.list.length q3) := by rw [← hW0, ← hX]; simp [go_sem]
  have y0 : W0.cell? ⟨X + 1, 0, none⟩ = some (.bool cut) := by rw [← hW0, ← hX]; simp [go_sem]
  have y1 : W0.cell? ⟨X + 1, 1, none⟩ = some (.int .i64 At) := by rw [← hW0, ← hX]; simp [go_sem]
  have y2 : W0.cell? ⟨X + 1, 2, none⟩ = some (.int .u64 (B : Int)) := by rw [← hW0, ← hX]; simp [go_sem]
  have HY := hidC (fun (u : World) (h : Below W0.heap.size W0 u) => (⟨kc h y0, kc h y1, kc h y2⟩ : u.cell? ⟨X + 1, 0, none⟩ = some (.bool cut) ∧ u.cell? ⟨X + 1, 1, none⟩ = some (.int .i64 At) ∧ u.cell? ⟨X + 1, 2, none⟩ = some (.int .u64 (B : Int))))
  have HXL : Hid (X + 1 < W0.heap.size) := mcell_lt y0
  have KT := hidC (twin20_any _ _ _ _ c hz W0 (hv.below hb0))
  have HB0 := hidC hb0
  clear hb0 hv y0 y1 y2
  by_cases hc : (checkC c).1 = 0
  · have hok := check_code hk.sbits hk.ibits hc
    have KE := hidC (fun (v : World) (x0 x1 x2 x3 : Value) (h : CdV v x0 x1 x2 x3 c) => encode_good x0 x1 x2 x3 c hk v h hc)
    have hel : (ofN (encN c)).size ≤ 4000000 := by
      rw [ofN_size, enc_len]
      have := eCode_len hok
      omega
    have hge : 16 ≤ (ofN (encN c)).size := by rw [ofN_size]; exact enc_ge c
    have hTB : bytN (ofN (encN c)) = encN c := bytN_ofN (enc_lt hok)
    obtain ⟨T, hT⟩ : ∃ T, ofN (encN c) = T := ⟨_, rfl⟩
    rw [hT] at KE hel hge hTB
    obtain ⟨N, hN⟩ : ∃ N, T.size = N := ⟨_, rfl⟩
    have HTB := hidC hTB
    have HNE : Hid ((encN c).length = N) := by show _ = _; rw [← hTB, bytN_len, hN]
    have HOK := hidC hok
    have HC := hidC hc
    have n1 : ¬ (N : Int) < 16 := by omega
    have KQ := hidC (fun (v : World) => rEqual_any (.slice none 0 0) (.slice none 0 0) (.slice none 0 0) (.slice none 0 0) (.slice none 0 0) (.slice none 0 0) (.slice none 0 0) (.slice none 0 0) cd0 cd0 (ok_cd cd0_ok) (ok_cd cd0_ok) v (cd0_V v) (cd0_V v))
    rw [eqC_self] at KQ
    clear hc hok hTB hT
    rw [hN] at hel hge
    go_enter Try.func4, Try.ntmps4
    go_upto_region 1 with fail
    try rw [hW0]
    try rw [hX]
    go_upto_region 6 with (first | (go_at_call 9; (with_reducible refine KT.out.mono ?_); rintro e9 w3 ⟨t0, t1, t2, t3, rfl, ht3, ho3, hb3⟩; have HB3 := hidC hb3; have KE3 := hidC (KE.out w3 _ _ _ _ ht3); clear ht3 ho3 hb3) | (go_at_call 8; (with_reducible refine KE3.out.mono ?_); rintro e9 w4 ⟨rfl, hb4⟩; have HB4 : Hid (Below W0.heap.size W0 w4) := bel HB3.out hb4; clear hb4))
    obtain ⟨z0, z1, z2⟩ := HY.out w4 HB4.out
    clear hW0 hX x0 x1 x2 x3 KE KE3 HB3 KT
    cases cut with
    | true =>
      obtain ⟨r, hr⟩ : ∃ r, At.tmod (N : Int) = r := ⟨_, rfl⟩
      have hr1 : -(N : Int) < r := by rw [← hr]; have := Int.lt_tmod_of_pos At (show (0 : Int) < (N : Int) by omega); omega
      have hr2 : r < (N : Int) := by rw [← hr]; exact Int.tmod_lt_of_pos At (by omega)
      have wr : IntKind.i64.wrap r = r := by rw [IntKind.wrap_i64]; omega
      have n0 : ¬ (N : Int) = 0 := by omega
      have n0' : ((N : Int) == 0) = false := by simp; omega
      have HDEC : Hid (∀ k : Nat, k < N → ∃ er at_, er ≠ 0 ∧ ∀ v, Calls Try.prog 10 #[.string (T.extract 0 k)] v fun e w' => e = .returned (.tuple #[.agg #[.slice none 0 0, .slice none 0 0, .slice none 0 0, .slice none 0 0], .int .i64 er, .int .i64 (at_ : Nat)]) ∧ Below v.heap.size v w') := fun k hk => by
        have hb9 := bytN_ext T 0 k
        rw [Nat.zero_add, List.drop_zero, HTB.out] at hb9
        cases hq : decN ((encN c).take k) with
        | ok d => exact absurd hq (dec_cut HOK.out HC.out (by rw [HNE.out]; exact hk) d)
        | error e =>
          obtain ⟨er, at_⟩ := e
          refine ⟨er, at_, dec_err hq, fun v => ?_⟩
          have h9 := decode_any (T.extract 0 k) (by rw [← bytN_len, hb9, List.length_take, HNE.out]; omega) v
          rw [hb9, hq] at h9
          exact h9
      by_cases hneg : r < 0
      · obtain ⟨k, hk⟩ : ∃ k : Nat, r + (N : Int) = (k : Int) := ⟨(r + (N : Int)).toNat, by omega⟩
        have wk : IntKind.i64.wrap (r + (N : Int)) = (k : Int) := by rw [IntKind.wrap_i64]; omega
        have k1 : (0 : Int) ≤ (k : Int) := by omega
        have k2 : (k : Int) ≤ (N : Int) := by omega
        have k3 : k ≤ N := by omega
        obtain ⟨er, at_, he0, KD⟩ := HDEC.out k (by omega)
        have s1 : (er == 0) = false := by simpa using he0
        have s2 : (er != 0) = true := by simpa using he0
        obtain ⟨T2, hT2⟩ : ∃ t, T.extract 0 k = t := ⟨_, rfl⟩
        rw [hT2] at KD
        have KD' := hidC KD
        clear hk KD HDEC he0
        go_wp2_with (first | (go_at_call 10; (with_reducible refine (KD'.out _).mono ?_); rintro e9 w5 ⟨rfl, hb5⟩; have HB5 := hidC (bel HB4.out hb5); clear hb5) | (go_at_call 7; (with_reducible refine (KW.out _).mono ?_); rintro e9 wz ⟨rfl, hbz⟩; have HBz := hidC (bel HB0.out (bel HB5.out (bel (bel_alloc _ _) hbz))); clear hbz))
        refine bodyPost_ret (by simp [results, Try.results4, go_sem, *]; try rfl) rfl ?_
        exact ⟨by first | rfl | simp, HBz.out⟩
      · obtain ⟨k, hk⟩ : ∃ k : Nat, r = (k : Int) := ⟨r.toNat, by omega⟩
        have k1 : (0 : Int) ≤ (k : Int) := by omega
        have k2 : (k : Int) ≤ (N : Int) := by omega
        have k3 : k ≤ N := by omega
        obtain ⟨er, at_, he0, KD⟩ := HDEC.out k (by omega)
        have s1 : (er == 0) = false := by simpa using he0
        have s2 : (er != 0) = true := by simpa using he0
        obtain ⟨T2, hT2⟩ : ∃ t, T.extract 0 k = t := ⟨_, rfl⟩
        rw [hT2] at KD
        have KD' := hidC KD
        subst hk
        clear KD HDEC he0
        go_wp2_with (first | (go_at_call 10; (with_reducible refine (KD'.out _).mono ?_); rintro e9 w5 ⟨rfl, hb5⟩; have HB5 := hidC (bel HB4.out hb5); clear hb5) | (go_at_call 7; (with_reducible refine (KW.out _).mono ?_); rintro e9 wz ⟨rfl, hbz⟩; have HBz := hidC (bel HB0.out (bel HB5.out (bel (bel_alloc _ _) hbz))); clear hbz))
        refine bodyPost_ret (by simp [results, Try.results4, go_sem, *]; try rfl) rfl ?_
        exact ⟨by first | rfl | simp, HBz.out⟩
    | false =>
      obtain ⟨M, hM⟩ : ∃ M, 8 * N = M := ⟨_, rfl⟩
      have w8 : IntKind.i64.wrap (8 * (N : Int)) = (M : Int) := by rw [IntKind.wrap_i64]; omega
      obtain ⟨r, hr⟩ : ∃ r, At.tmod (M : Int) = r := ⟨_, rfl⟩
      have hr1 : -(M : Int) < r := by rw [← hr]; have := Int.lt_tmod_of_pos At (show (0 : Int) < (M : Int) by omega); omega
      have hr2 : r < (M : Int) := by rw [← hr]; exact Int.tmod_lt_of_pos At (by omega)
      have wr : IntKind.i64.wrap r = r := by rw [IntKind.wrap_i64]; omega
      have n0 : ¬ (M : Int) = 0 := by omega
      have n0' : ((M : Int) == 0) = false := by simp; omega
      go_upto_if 64 with fail
      go_cut [12] (fun av wx => wx = w4 ∧ ∃ A : Nat, A < M ∧ av = .int .i64 (A : Int))
      case first =>
        by_cases hneg : r < 0
        · obtain ⟨k, hk⟩ : ∃ k : Nat, r + (M : Int) = (k : Int) := ⟨(r + (M : Int)).toNat, by omega⟩
          have wk : IntKind.i64.wrap (r + (M : Int)) = (k : Int) := by rw [IntKind.wrap_i64]; omega
          have HK : Hid (k < M) := by show k < M; omega
          clear hk
          go_wp2
          go_meet
          exact ⟨rfl, k, HK.out, rfl⟩
        · obtain ⟨k, hk⟩ : ∃ k : Nat, r = (k : Int) := ⟨r.toNat, by omega⟩
          have HK : Hid (k < M) := by show k < M; omega
          subst hk
          go_wp2
          go_meet
          exact ⟨rfl, k, HK.out, rfl⟩
      case rest =>
      obtain ⟨rfl, A, hA, rfl⟩ := hcut
      clear hr hr1 hr2 wr n0 n0' hA1 hA2
      obtain ⟨cap, w5, hr5, hb5, hy5⟩ := conv_by T wc
      obtain ⟨g, hg⟩ : ∃ g, wc.heap.size = g := ⟨_, rfl⟩
      rw [hN, hg] at hr5
      rw [hg] at hy5
      have HY5 : Hid (ByR w5 g (bytN T)) := hy5
      have HB5 : Hid (Below W0.heap.size W0 w5) := bel HB4.out hb5
      have HGE : Hid (W0.heap.size ≤ g) := by show _ ≤ _; rw [← hg]; exact HB4.out.size
      clear hb5 hy5 hg z0 z1 z2
      go_upto_block 0 with fail
      have HST : Hid (Below W0.heap.size W0 w5 ∧ ByR w5 g (encN c) ∧ (encN c).length = N ∧ (∀ b ∈ encN c, b < 256) ∧ lowN (encN c) = lowN (encN c) ^^^ (2 ^ A * msk B 0)) := ⟨HB5.out, (by rw [← HTB.out]; exact HY5.out), HNE.out, enc_lt HOK.out, by show _ = lowN (encN c) ^^^ (2 ^ A * 0); rw [Nat.mul_zero, Nat.xor_zero]⟩
      go_cut [14] (fun iv wx => ∃ (i : Nat) (l : List Nat), Hid (i ≤ 64 ∧ Below W0.heap.size W0 wx ∧ ByR wx g l ∧ l.length = N ∧ (∀ b ∈ l, b < 256) ∧ lowN l = lowN (encN c) ^^^ (2 ^ A * msk B i)))
      case first =>
        clear hr5
        go_wp2_with fail
        go_loopw [14] (fun iv wx => ∃ (i : Nat) (l : List Nat), i ≤ 64 ∧ iv = .int .i64 (i : Int) ∧ Hid (Below W0.heap.size W0 wx ∧ ByR wx g l ∧ l.length = N ∧ (∀ b ∈ l, b < 256) ∧ lowN l = lowN (encN c) ^^^ (2 ^ A * msk B i))) (fun iv _ => 64 - (intOf iv).toNat)
        case atStart => exact ⟨0, encN c, by decide, rfl, HST.out⟩
        case round =>
          clear HST HY5 HB5
          obtain ⟨i, l, hi, rfl, HJ⟩ := hrel
          by_cases hi64 : i < 64
          · have e1 : (i : Int) < 64 := by omega
            have wai : IntKind.i64.wrap ((A : Int) + (i : Int)) = ((A + i : Nat) : Int) := by rw [IntKind.wrap_i64]; omega
            obtain ⟨P, hP⟩ : ∃ P, A + i = P := ⟨_, rfl⟩
            rw [hP] at wai
            by_cases hPM : P < M
            · have e2 : (P : Int) < (M : Int) := by omega
              obtain ⟨j1, j2, j3, j4, j5⟩ := HJ.out
              obtain ⟨-, -, z2⟩ := HY.out wr j1
              have hj8 : P / 8 < l.length := by omega
              obtain ⟨hcell, hfro⟩ := j2 (P / 8) hj8
              obtain ⟨Q, hQ⟩ : ∃ Q, B / 2 ^ i = Q := ⟨_, rfl⟩
              have HS1 := hidC (fun (hq : Q % 2 = 1) => flip_step (L := encN c) (A := A) (i := i) (B := B) j4 j5 (by rw [hQ]; exact hq) (by rw [hP]; exact hj8))
              simp only [hP] at HS1
              have HS2 := hidC (fun (hq : ¬ Q % 2 = 1) => flip_stay (L := encN c) (A := A) (i := i) (B := B) j5 (by rw [hQ]; exact hq))
              have wi : IntKind.i64.wrap ((i : Int) + 1) = ((i + 1 : Nat) : Int) := by rw [IntKind.wrap_i64]; omega
              have wu : IntKind.u64.wrap (i : Int) = (i : Int) := by unfold IntKind.wrap; simp [IntKind.signed, IntKind.bits]; omega
              have hsr : (B : Int) / 2 ^ i = (Q : Int) := by rw [← hQ, Int.natCast_ediv, Int.natCast_pow]; rfl
              obtain ⟨D, hD⟩ : ∃ D, P / 8 = D := ⟨_, rfl⟩
              obtain ⟨R, hR⟩ : ∃ R, P % 8 = R := ⟨_, rfl⟩
              have hR8 : R < 8 := by omega
              have td : (P : Int).tdiv 8 = (D : Int) := by rw [Int.tdiv_eq_ediv_of_nonneg (by omega)]; omega
              have tm : (P : Int).tmod 8 = (R : Int) := by rw [Int.tmod_eq_emod_of_nonneg (by omega)]; omega
              have td' : (P : Int) / 8 = (D : Int) := by omega
              have tm' : (P : Int) % 8 = (R : Int) := by omega
              have wD : IntKind.i64.wrap (D : Int) = (D : Int) := by rw [IntKind.wrap_i64]; omega
              have wR : IntKind.i64.wrap (R : Int) = (R : Int) := by rw [IntKind.wrap_i64]; omega
              have wR2 : IntKind.u64.wrap (R : Int) = (R : Int) := by unfold IntKind.wrap; simp [IntKind.signed, IntKind.bits]; omega
              simp only [hD] at hcell hfro hj8 HS1
              simp only [hR] at HS1
              have d1 : (0 : Int) ≤ (D : Int) := by omega
              have d2 : (D : Int) < (N : Int) := by omega
              have hb8 := j4 l[D] (List.getElem_mem hj8)
              obtain ⟨Y, hYe⟩ : ∃ Y, l[D] = Y := ⟨_, rfl⟩
              rw [hYe] at hb8 hcell
              have h2R : 2 ^ R < 256 := Nat.lt_of_lt_of_le (Nat.pow_lt_pow_right (by decide) hR8) (by decide)
              obtain ⟨E2, hE2⟩ : ∃ E, 2 ^ R = E := ⟨_, rfl⟩
              have hsl : (1 : Int) * 2 ^ R = (E2 : Int) := by rw [← hE2, Int.one_mul, Int.natCast_pow]; rfl
              have hsl' : (2 : Int) ^ R = (E2 : Int) := by rw [← hE2, Int.natCast_pow]; rfl
              have wE : IntKind.u8.wrap (E2 : Int) = (E2 : Int) := by rw [IntKind.wrap_u8']; omega
              have hxo : bits .xor .u8 (Y : Int) (E2 : Int) = ((Y ^^^ E2 : Nat) : Int) := bx8 hb8 (by omega)
              by_cases hq : Q % 2 = 1
              · have tq : (Q : Int).tmod 2 = 1 := by rw [Int.tmod_eq_emod_of_nonneg (by omega)]; omega
                have tq' : (Q : Int) % 2 = 1 := by omega
                have wq : IntKind.u64.wrap 1 = 1 := by decide
                have HS : Hid (lowN (l.set D (Y ^^^ E2)) = lowN (encN c) ^^^ (2 ^ A * msk B (i + 1)) ∧ (∀ b ∈ l.set D (Y ^^^ E2), b < 256) ∧ (l.set D (Y ^^^ E2)).length = N) := by
                  have h9 := HS1.out hq
                  have h8 := flip_lt hj8 hR8 j4
                  rw [← hYe, ← hE2]
                  exact ⟨h9, h8, by rw [List.length_set]; exact j3⟩
                have HR5 : Hid (Below W0.heap.size W0 (wr.setCell ⟨g, D, none⟩ (.int .u8 ((Y ^^^ E2 : Nat) : Int))) ∧ ByR (wr.setCell ⟨g, D, none⟩ (.int .u8 ((Y ^^^ E2 : Nat) : Int))) g (l.set D (Y ^^^ E2))) := ⟨j1.setCell HGE.out _, j2.set D hj8 _⟩
                clear HS1 HS2 hQ hq hP j1 j2 j4 j5 hYe hE2 hD hR
                go_wp2
                go_roundw
                case rel => exact ⟨i + 1, l.set D (Y ^^^ E2), by omega, by go_num, HR5.out.1, HR5.out.2, HS.out.2.2, HS.out.2.1, HS.out.1⟩
                case measure => simp [intOf]; omega
              · have tq : (Q : Int).tmod 2 = 0 := by rw [Int.tmod_eq_emod_of_nonneg (by omega)]; omega
                have tq' : (Q : Int) % 2 = 0 := by omega
                have wq : IntKind.u64.wrap 0 = 0 := by decide
                have HS := hidC (And.intro j1 (And.intro j2 (And.intro j3 (And.intro j4 (HS2.out hq)))))
                clear HS1 HS2 hQ hq hP hD hR j1 j2 j3 j4 j5 hYe hE2
                go_wp2
                go_roundw
                case rel => exact ⟨i + 1, l, by omega, by go_num, HS.out⟩
                case measure => simp [intOf]; omega
            · have e2 : ¬ (P : Int) < (M : Int) := by omega
              clear hP
              go_wp2
              go_meet
              exact ⟨i, l, hi, HJ.out⟩
          · have e1 : ¬ (i : Int) < 64 := by omega
            go_wp2
            go_meet
            exact ⟨i, l, hi, HJ.out⟩
      case rest =>
      obtain ⟨i, l, HJ⟩ := hcut
      clear HST hr5 HY5 HB5
      obtain ⟨hi, j1, j2, j3, j4, j5⟩ := HJ.out
      have hcv : ∀ cp, (convert 40 9 (.slice (some ⟨g, 0, none⟩) N cp)).run Try.prog wc = .ok (.string (ofN l)) wc := fun cp => by rw [← j3]; exact conv_str j2 j4 cp
      have hlz : (ofN l).size ≤ 140737488355328 := by rw [ofN_size, j3]; omega
      have KD := decode_any (ofN l) hlz wc
      rw [bytN_ofN j4] at KD
      have hm64 : msk B i < 2 ^ 64 := Nat.lt_of_lt_of_le (msk_lt B i) (Nat.pow_le_pow_right (by decide) hi)
      have hxr : lowN (encN c) ^^^ lowN l = 2 ^ A * msk B i := by rw [j5, ← Nat.xor_assoc, Nat.xor_self, Nat.zero_xor]
      have hll : l.length = (encN c).length := by rw [j3, HNE.out]
      have HBU := hidC (fun (d : Cd) (hd : decN l = .ok d) => dec_burst HOK.out j4 hll hm64 (by rw [j3]; omega) hxr hd)
      have HEQ := hidC (eqB (ofN l) T)
      rw [bytN_ofN j4, HTB.out] at HEQ
      obtain ⟨T2, hT2⟩ : ∃ t, ofN l = t := ⟨_, rfl⟩
      rw [hT2] at hcv KD HEQ
      have HJ1 := hidC j1
      have HCW : Hid (∀ u, Below wc.heap.size wc u → ∀ cp, (convert 40 9 (.slice (some ⟨g, 0, none⟩) N cp)).run Try.prog u = .ok (.string T2) u) := fun u hu cp => by rw [← j3, ← hT2]; exact conv_str (j2.below hu) j4 cp
      by_cases hle : l = encN c
      · have h9 : decN l = .ok c := by rw [hle]; exact dec_fw HOK.out HC.out
        rw [h9] at KD
        unfold DecP at KD
        simp only at KD
        have KD' := hidC KD
        have q0 := HEQ.out
        rw [decide_eq_true hle] at q0
        clear HJ hi j1 j2 j3 j4 j5 hlz KD hm64 hxr hll HBU HEQ hT2 hle h9
        go_wp2_with (first | (go_at_call 10; (with_reducible refine KD'.out.mono ?_); rintro e9 w7 ⟨a0, e0, a1, e1', a2, e2', a3, e3, rfl, ho7, hb7⟩; have HB7 := hidC (bel HJ1.out hb7); have hcw : ∀ o cp, (convert 40 9 (.slice (some ⟨g, 0, none⟩) N cp)).run Try.prog (w7.alloc o) = .ok (.string T2) (w7.alloc o) := fun o cp => HCW.out _ (bel hb7 (bel_alloc _ _)) cp; clear ho7 hb7) | (go_at_call 7; (with_reducible refine (KW.out _).mono ?_); rintro e9 wz ⟨rfl, hbz⟩; have HBz := hidC (bel HB0.out (bel HB7.out (bel (bel_alloc _ _) hbz))); clear hbz))
        refine bodyPost_ret (by simp [results, Try.results4, go_sem, *]; try rfl) rfl ?_
        exact ⟨by first | rfl | simp, HBz.out⟩
      · cases hdl : decN l with
        | ok d => exact absurd (HBU.out d hdl) hle
        | error er =>
          obtain ⟨er, at_⟩ := er
          have he0 := dec_err hdl
          have s1 : (er == 0) = false := by simpa using he0
          have s2 : (er != 0) = true := by simpa using he0
          rw [hdl] at KD
          unfold DecP at KD
          simp only at KD
          have KD' := hidC KD
          have q0 := HEQ.out
          rw [decide_eq_false hle] at q0
          clear HJ hi j1 j2 j3 j4 j5 hlz KD hm64 hxr hll HBU HEQ hT2 hle hdl he0
          go_wp2_with (first | (go_at_call 10; (with_reducible refine KD'.out.mono ?_); rintro e9 w7 ⟨rfl, hb7⟩; have HB7 := hidC (bel HJ1.out hb7); have hcw : ∀ o cp, (convert 40 9 (.slice (some ⟨g, 0, none⟩) N cp)).run Try.prog (w7.alloc o) = .ok (.string T2) (w7.alloc o) := fun o cp => HCW.out _ (bel hb7 (bel_alloc _ _)) cp; clear hb7) | (go_at_call 11; (with_reducible refine (KQ.out _).mono ?_); rintro e9 wq ⟨rfl, hbq⟩; have HBq := hidC (bel HB7.out (bel (bel_alloc _ _) hbq)); clear hbq) | (go_at_call 7; (with_reducible refine (KW.out _).mono ?_); rintro e9 wz ⟨rfl, hbz⟩; have HBz := hidC (bel HB0.out (bel HBq.out hbz)); clear hbz))
          refine bodyPost_ret (by simp [results, Try.results4, go_sem, *]; try rfl) rfl ?_
          exact ⟨by first | rfl | simp, HBz.out⟩

  · have KE := hidC (fun (v : World) (x0 x1 x2 x3 : Value) (h : CdV v x0 x1 x2 x3 c) => encode_bad x0 x1 x2 x3 c hk v h hc)
    obtain ⟨ee, hee⟩ : ∃ e, (checkC c).1 = e := ⟨_, rfl⟩
    rw [hee] at KE hc
    have s1 : (ee == 0) = false := by simpa using hc
    have s2 : (ee != 0) = true := by simpa using hc
    clear hc hee
    go_enter Try.func4, Try.ntmps4
    go_upto_region 1 with fail
    try rw [hW0]
    try rw [hX]
    go_wp2_with (first | (go_at_call 9; (with_reducible refine KT.out.mono ?_); rintro e9 w3 ⟨t0, t1, t2, t3, rfl, ht3, ho3, hb3⟩; have HB3 := hidC hb3; have KE3 := hidC (KE.out w3 _ _ _ _ ht3); clear ht3 ho3 hb3) | (go_at_call 8; (with_reducible refine KE3.out.mono ?_); rintro e9 w4 ⟨rfl, hb4⟩; have HB4 : Hid (Below W0.heap.size W0 w4) := bel HB3.out hb4; clear hb4) | (go_at_call 7; (with_reducible refine (KW.out _).mono ?_); rintro e9 wz ⟨rfl, hbz⟩; have HBz := hidC (bel (bel HB0.out HB4.out) hbz); clear hbz))
    refine bodyPost_ret (by simp [results, Try.results4, go_sem, *]; try rfl) rfl ?_
    exact ⟨by first | rfl | simp, HBz.out⟩

end Go.Proofs.Ytnlgkkbmbijndaa
/- The statement CodeDamage: bits as a whole number. -/
namespace Go.Proofs.Ytnlgkkbmbijndaa
open Go.RowKit
set_option linter.unusedVariables false

theorem walk_CodeDamageI (v0 v1 v2 v3 : Value) (c : Cd) (hk : CdOk c) (hz : CdSz c) (cut : Bool) (At : Int) (hA1 : -9223372036854775808 ≤ At) (hA2 : At ≤ 9223372036854775807) (B : Int) (hB0 : 0 ≤ B) (hB : B ≤ 18446744073709551615) (w : World) (hv : CdV w v0 v1 v2 v3 c) :
    Calls Try.prog 4 #[.agg #[v0, v1, v2, v3], .agg #[.bool cut, .int .i64 At, .int .u64 B]] w fun e w' => e = .returned (.bool true) ∧ Below w.heap.size w w' := by
  obtain ⟨N, rfl⟩ : ∃ N : Nat, B = (N : Int) := ⟨B.toNat, by omega⟩
  exact walk_CodeDamage v0 v1 v2 v3 c hk hz cut At hA1 hA2 N (by omega) w hv

end Go.Proofs.Ytnlgkkbmbijndaa
/- Arguments opened: an instruction; code. -/
namespace Go.Proofs.Ytnlgkkbmbijndaa
open Go.ChangeShapes Go.WideShapes Go.ChangeAt Go.RowKit
set_option linter.unusedVariables false
set_option maxRecDepth 100000

theorem cells_Inst : Try.prog.cellsOf 66 = 7 := by kernel_rfl
theorem cells_Param : Try.prog.cellsOf 58 = 3 := by kernel_rfl
theorem cells_Type : Try.prog.cellsOf 60 = 2 := by kernel_rfl
theorem cells_Slot : Try.prog.cellsOf 64 = 5 := by kernel_rfl
theorem cells_Code : Try.prog.cellsOf 31 = 4 := by kernel_rfl
theorem bytes_Inst : Try.prog.bytesOf 66 = 56 := by kernel_rfl
theorem bytes_Param : Try.prog.bytesOf 58 = 32 := by kernel_rfl
theorem bytes_Type : Try.prog.bytesOf 60 = 16 := by kernel_rfl
theorem bytes_Slot : Try.prog.bytesOf 64 = 32 := by kernel_rfl
theorem weights_mem_all {H : Type} {P : Program} {e : TypeId} : ∀ {l : List (DataW H)} {d : DataW H}, d ∈ l → ∀ n ∈ d.weights P e, n ∈ DataW.weightsAll P e l
  | [], d, h, n, hn => by cases h
  | x :: r, d, h, n, hn => by
    simp only [DataW.weightsAll, List.mem_append]
    rcases List.mem_cons.1 h with rfl | h
    · exact .inl hn
    · exact .inr (weights_mem_all h n hn)

section
variable {H : Type} {enc : TypeId × Value → H} {w : World} {base : Nat} {held : Bool}

def InsOk (i : Ins) : Prop := 0 ≤ i.bits ∧ i.bits < 4294967296
theorem open_Ins {fuel : Nat} {cs : List Value} {x : DataW H × List MemPlace} (h : DataW.trod enc Try.prog w base (fun _ => true) held fuel 66 cs = some x) : ∃ i : Ins, cs = inC i ∧ InsOk i := by
  obtain ⟨xs, n, hfn, hx, hl, hxl, hf⟩ := DataW.trod_struct Try.underlying66 h
  rw [cells_Inst] at hl
  match cs, hl with
  | [v0, v1, v2, v3, v4, v5, v6], _ =>
  match xs, hxl with
  | [y0, y1, y2, y3, y4, y5, y6], _ =>
    have e0 : DataW.trod enc Try.prog w base (fun _ => true) held n 3 [v0] = some y0 := hf 0 _ rfl
    have e1 : DataW.trod enc Try.prog w base (fun _ => true) held n 3 [v1] = some y1 := hf 1 _ rfl
    have e2 : DataW.trod enc Try.prog w base (fun _ => true) held n 3 [v2] = some y2 := hf 2 _ rfl
    have e3 : DataW.trod enc Try.prog w base (fun _ => true) held n 3 [v3] = some y3 := hf 3 _ rfl
    have e4 : DataW.trod enc Try.prog w base (fun _ => true) held n 3 [v4] = some y4 := hf 4 _ rfl
    have e5 : DataW.trod enc Try.prog w base (fun _ => true) held n 3 [v5] = some y5 := hf 5 _ rfl
    have e6 : DataW.trod enc Try.prog w base (fun _ => true) held n 62 [v6] = some y6 := hf 6 _ rfl
    obtain ⟨a0, c0, -, w0⟩ := DataW.trod_int Try.underlying3 e0
    obtain ⟨a1, c1, -, w1⟩ := DataW.trod_int Try.underlying3 e1
    obtain ⟨a2, c2, -, w2⟩ := DataW.trod_int Try.underlying3 e2
    obtain ⟨a3, c3, -, w3⟩ := DataW.trod_int Try.underlying3 e3
    obtain ⟨a4, c4, -, w4⟩ := DataW.trod_int Try.underlying3 e4
    obtain ⟨a5, c5, -, w5⟩ := DataW.trod_int Try.underlying3 e5
    obtain ⟨a6, c6, -, w6⟩ := DataW.trod_int Try.underlying62 e6
    simp only [List.cons.injEq, and_true] at c0 c1 c2 c3 c4 c5 c6
    subst c0 c1 c2 c3 c4 c5 c6
    exact ⟨⟨a0, a1, a2, a3, a4, a5, a6⟩, rfl, (bounds_u32 w6).1, Int.lt_add_one_of_le (bounds_u32 w6).2⟩
theorem open_Par {fuel : Nat} {cs : List Value} {x : DataW H × List MemPlace} (h : DataW.trod enc Try.prog w base (fun _ => true) held fuel 58 cs = some x) (hw : ∀ n ∈ x.1.weights Try.prog 58, n ≤ reachBytes) :
    ∃ p : Par, cs = parCells p ∧ p.name.size ≤ 140737488351232 := by
  obtain ⟨xs, n, hfn, hx, hl, hxl, hf⟩ := DataW.trod_struct Try.underlying58 h
  rw [cells_Param] at hl
  match cs, hl with
  | [v0, v1, v2], _ =>
  match xs, hxl with
  | [y0, y1, y2], _ =>
    have e0 : DataW.trod enc Try.prog w base (fun _ => true) held n 9 [v0] = some y0 := hf 0 _ rfl
    have e1 : DataW.trod enc Try.prog w base (fun _ => true) held n 3 [v1] = some y1 := hf 1 _ rfl
    have e2 : DataW.trod enc Try.prog w base (fun _ => true) held n 3 [v2] = some y2 := hf 2 _ rfl
    obtain ⟨a0, c0, hd0, w0⟩ := DataW.trod_string Try.underlying9 e0
    obtain ⟨a1, c1, hd1, w1⟩ := DataW.trod_int Try.underlying3 e1
    obtain ⟨a2, c2, hd2, w2⟩ := DataW.trod_int Try.underlying3 e2
    simp only [List.cons.injEq, and_true] at c0 c1 c2
    subst c0 c1 c2
    subst hx
    have hws : ∀ (j : Nat) (t : TypeId) (d : DataW H), [9, 3, 3][j]? = some t → [y0.1, y1.1, y2.1][j]? = some d → ∀ n ∈ d.weights Try.prog t, n ≤ reachBytes := fun j t d ht hd n hn => by
      refine hw n ?_
      show n ∈ DataW.weights Try.prog 58 (.agg [y0.1, y1.1, y2.1])
      rw [DataW.weights, Try.underlying58]
      exact DataW.weights_mem_each (ts := [9, 3, 3]) ht hd n hn
    have s1 : a0.size ≤ 140737488351232 := by
      have := hws 0 _ _ rfl rfl a0.data.toList.length (by rw [hd0]; simp [DataW.weights])
      simpa [reachBytes] using this
    exact ⟨⟨a0, a1, a2⟩, rfl, s1⟩
theorem open_Ty {fuel : Nat} {cs : List Value} {x : DataW H × List MemPlace} (h : DataW.trod enc Try.prog w base (fun _ => true) held fuel 60 cs = some x) : ∃ t : Ty, cs = tyC t ∧ True := by
  obtain ⟨xs, n, hfn, hx, hl, hxl, hf⟩ := DataW.trod_struct Try.underlying60 h
  rw [cells_Type] at hl
  match cs, hl with
  | [v0, v1], _ =>
  match xs, hxl with
  | [y0, y1], _ =>
    have e0 : DataW.trod enc Try.prog w base (fun _ => true) held n 3 [v0] = some y0 := hf 0 _ rfl
    have e1 : DataW.trod enc Try.prog w base (fun _ => true) held n 3 [v1] = some y1 := hf 1 _ rfl
    obtain ⟨a0, c0, -, w0⟩ := DataW.trod_int Try.underlying3 e0
    obtain ⟨a1, c1, -, w1⟩ := DataW.trod_int Try.underlying3 e1
    simp only [List.cons.injEq, and_true] at c0 c1
    subst c0 c1
    exact ⟨⟨a0, a1⟩, rfl, trivial⟩
def SlOk (s : Sl) : Prop := 0 ≤ s.bits ∧ s.bits < 4294967296
theorem open_Sl {fuel : Nat} {cs : List Value} {x : DataW H × List MemPlace} (h : DataW.trod enc Try.prog w base (fun _ => true) held fuel 64 cs = some x) : ∃ s : Sl, cs = slC s ∧ SlOk s := by
  obtain ⟨xs, n, hfn, hx, hl, hxl, hf⟩ := DataW.trod_struct Try.underlying64 h
  rw [cells_Slot] at hl
  match cs, hl with
  | [v0, v1, v2, v3, v4], _ =>
  match xs, hxl with
  | [y0, y1, y2, y3], _ =>
    have e0 : DataW.trod enc Try.prog w base (fun _ => true) held n 60 [v0, v1] = some y0 := hf 0 _ rfl
    have e1 : DataW.trod enc Try.prog w base (fun _ => true) held n 4 [v2] = some y1 := hf 1 _ rfl
    have e2 : DataW.trod enc Try.prog w base (fun _ => true) held n 62 [v3] = some y2 := hf 2 _ rfl
    have e3 : DataW.trod enc Try.prog w base (fun _ => true) held n 3 [v4] = some y3 := hf 3 _ rfl
    obtain ⟨t, ht, -⟩ := open_Ty e0
    obtain ⟨a1, c1, -⟩ := DataW.trod_bool Try.underlying4 e1
    obtain ⟨a2, c2, -, w2⟩ := DataW.trod_int Try.underlying62 e2
    obtain ⟨a3, c3, -, w3⟩ := DataW.trod_int Try.underlying3 e3
    obtain ⟨K, P⟩ := t
    simp only [tyC, List.cons.injEq, and_true] at ht c1 c2 c3
    obtain ⟨rfl, rfl⟩ := ht
    subst c1 c2 c3
    exact ⟨⟨⟨K, P⟩, a1, a2, a3⟩, rfl, (bounds_u32 w2).1, Int.lt_add_one_of_le (bounds_u32 w2).2⟩

/-- A slice of structs, told by how one of them is opened. -/
theorem open_rowG {α : Type} [Inhabited α] {f : α → List Value} {k bytes : Nat} {t e : TypeId} {Good : α → Prop} (hk : 0 < k) (hf : ∀ x, (f x).length = k) (ht : Try.prog.underlying t = some (.slice e)) (hce : Try.prog.cellsOf e = k) (hby : Try.prog.bytesOf e = bytes) (hb0 : 0 < bytes)
    (hop : ∀ {fuel : Nat} {cs : List Value} {x : DataW H × List MemPlace}, DataW.trod enc Try.prog w base (fun _ => true) held fuel e cs = some x → (∀ n ∈ x.1.weights Try.prog e, n ≤ reachBytes) → ∃ a : α, cs = f a ∧ Good a)
    {fuel : Nat} {v : Value} {x : DataW H × List MemPlace} (h : DataW.trod enc Try.prog w base (fun _ => true) held fuel t [v] = some x) (hw : ∀ n ∈ x.1.weights Try.prog t, n ≤ reachBytes) :
    ∃ l : List α, RowG k f w v l ∧ l.length * bytes ≤ 140737488351232 ∧ ∀ a ∈ l, Good a := by
  rcases DataW.trod_slice ht h with ⟨hcs, hx⟩ | ⟨a, len, cap, elems, rest, m, hm, hcs, hx, _, hl, _, hel, hread, _, _⟩
  · simp only [List.cons.injEq, and_true] at hcs
    subst hcs
    exact ⟨[], ⟨none, 0, rfl, .inl rfl⟩, by simp, fun a h => by cases h⟩
  · simp only [List.cons.injEq, and_true] at hcs
    subst hcs
    subst hx
    have key : ∀ i, i < len → ∃ q : α, (∀ j, j < k → w.cell? (a.add (i * k + j)) = (f q)[j]?) ∧ Good q := by
      intro i hi
      have h1 := hread i hi
      rw [hce] at h1
      have hie : i < elems.length := by omega
      rw [List.getElem?_eq_getElem hie] at h1
      obtain ⟨cs', h2, h3⟩ := Option.bind_eq_some_iff.1 h1
      obtain ⟨_, hlen3, hcell⟩ := World.cells?_some h2
      obtain ⟨q, hcs, hok⟩ := hop h3 (fun n hn => hw n (by
        rw [DataW.weights, ht]
        exact List.mem_cons_of_mem _ (List.mem_append_left _ (weights_mem_all (List.mem_map.2 ⟨elems[i], List.getElem_mem hie, rfl⟩) n hn))))
      refine ⟨q, fun j hj => ?_, hok⟩
      have := hcell j hj
      rw [Go.Deep.add_add, hcs] at this
      exact this
    obtain ⟨g, hg⟩ := Go.Deep.choose_lt key
    have hTl : ((List.range len).map g).length = len := by simp
    have hbig : len * bytes ≤ 140737488351232 := by
      have := hw _ (by rw [DataW.weights, ht]; exact List.mem_cons_self)
      rw [hby] at this
      simp only [List.length_map, reachBytes] at this
      have hln : elems.length = len := by omega
      simp only [hln] at this
      exact Nat.le_trans (Nat.mul_le_mul_right _ (Nat.le_add_right _ _)) this
    refine ⟨(List.range len).map g, ?_, by rw [hTl]; exact hbig, ?_⟩
    · refine ⟨some a, cap, by rw [hTl], ?_⟩
      by_cases hl0 : len = 0
      · left; simp [hl0]
      · obtain ⟨b, off, spot⟩ := a
        have hne : 0 < (f (g 0)).length := by rw [hf]; exact hk
        have hspot : spot = none := by
          have := (hg 0 (by omega)).1 0 hk
          rw [List.getElem?_eq_getElem hne] at this
          simpa [Addr.add] using World.cell?_spot this
        subst hspot
        refine .inr ⟨b, off, rfl, fun i hi j hj => ?_⟩
        have hi' : i < len := by rw [hTl] at hi; exact hi
        obtain ⟨q, -⟩ := hg i hi'
        have e : ((List.range len).map g)[i] = g i := by simp
        have hj2 : j < (f (g i)).length := by simpa [e] using hj
        have hj3 : j < k := by rw [← hf (g i)]; exact hj2
        have q' := q j hj3
        rw [add_none, ← Nat.add_assoc] at q'
        rw [q', List.getElem?_eq_getElem hj2]
        congr 1
        simp [e]
    · intro q hq
      obtain ⟨i, hi, rfl⟩ := List.mem_map.1 hq
      exact (hg i (List.mem_range.1 hi)).2

instance : Inhabited Ins := ⟨⟨0, 0, 0, 0, 0, 0, 0⟩⟩
instance : Inhabited Ty := ⟨⟨0, 0⟩⟩
instance : Inhabited Sl := ⟨⟨⟨0, 0⟩, false, 0, 0⟩⟩
instance : Inhabited Par := ⟨⟨⟨#[]⟩, 0, 0⟩⟩

/-- Code that came in. -/
theorem open_Code {r : Reach} {b0 : Nat} {v : Value} {d : DataW H} {pl : List MemPlace} (hv : Value.okWide Try.prog w r b0 31 v) (h : DataW.Trod enc Try.prog w base (fun _ => true) held 31 v d pl) (hw : ∀ n ∈ d.weights Try.prog 31, n ≤ reachBytes) :
    ∃ (v0 v1 v2 v3 : Value) (c : Cd), v = .agg #[v0, v1, v2, v3] ∧ CdV w v0 v1 v2 v3 c ∧ CdOk c ∧ c.sign.length * 32 ≤ 140737488351232 ∧ c.regs.length * 16 ≤ 140737488351232 ∧ c.slots.length * 32 ≤ 140737488351232 ∧ c.list.length * 56 ≤ 140737488351232 := by
  obtain ⟨cs, rfl, hsz⟩ := okWide_struct Try.underlying31 hv
  obtain ⟨fuel, hf0⟩ := h
  obtain ⟨xs, n, hfn, hx, hl, hxl, hf⟩ := DataW.trod_struct Try.underlying31 hf0
  rw [cells_Code] at hl
  obtain ⟨cl, hcl⟩ : ∃ cl, (Value.agg cs).cells.toList = cl := ⟨_, rfl⟩
  rw [hcl] at hl hf
  have hcs : cs.toList = cl := by rw [← hcl]; simp [Value.cells]
  match cl, hl with
  | [v0, v1, v2, v3], _ =>
  match xs, hxl with
  | [y0, y1, y2, y3], _ =>
    have e0 : DataW.trod enc Try.prog w base (fun _ => true) held n 26 [v0] = some y0 := hf 0 _ rfl
    have e1 : DataW.trod enc Try.prog w base (fun _ => true) held n 27 [v1] = some y1 := hf 1 _ rfl
    have e2 : DataW.trod enc Try.prog w base (fun _ => true) held n 28 [v2] = some y2 := hf 2 _ rfl
    have e3 : DataW.trod enc Try.prog w base (fun _ => true) held n 29 [v3] = some y3 := hf 3 _ rfl
    have hd : d = .agg [y0.1, y1.1, y2.1, y3.1] := congrArg Prod.fst hx
    have hws : ∀ (j : Nat) (t : TypeId) (d : DataW H), [26, 27, 28, 29][j]? = some t → [y0.1, y1.1, y2.1, y3.1][j]? = some d → ∀ n ∈ d.weights Try.prog t, n ≤ reachBytes := fun j t d' ht hd' n hn => by
      refine hw n ?_
      rw [hd]
      show n ∈ DataW.weights Try.prog 31 (.agg [y0.1, y1.1, y2.1, y3.1])
      rw [DataW.weights, Try.underlying31]
      exact DataW.weights_mem_each (ts := [26, 27, 28, 29]) ht hd' n hn
    obtain ⟨l0, r0, s0, g0⟩ := open_rowG (Good := fun p : Par => p.name.size ≤ 140737488351232) (by decide) parC_len Try.underlying26 cells_Param bytes_Param (by decide) (fun h hw => open_Par h hw) e0 (hws 0 _ _ rfl rfl)
    obtain ⟨l1, r1, s1, g1⟩ := open_rowG (Good := fun _ : Ty => True) (by decide) tyC_len Try.underlying27 cells_Type bytes_Type (by decide) (fun h _ => open_Ty h) e1 (hws 1 _ _ rfl rfl)
    obtain ⟨l2, r2, s2, g2⟩ := open_rowG (Good := SlOk) (by decide) slC_len Try.underlying28 cells_Slot bytes_Slot (by decide) (fun h _ => open_Sl h) e2 (hws 2 _ _ rfl rfl)
    obtain ⟨l3, r3, s3, g3⟩ := open_rowG (Good := InsOk) (by decide) inC_len Try.underlying29 cells_Inst bytes_Inst (by decide) (fun h _ => open_Ins h) e3 (hws 3 _ _ rfl rfl)
    refine ⟨v0, v1, v2, v3, ⟨l0, l1, l2, l3⟩, ?_, ⟨r0, r1, r2, r3⟩, ⟨by show l0.length ≤ _; omega, g0, by show l1.length ≤ _; omega, by show l2.length ≤ _; omega, by show l3.length ≤ _; omega, g2, g3⟩, s0, s1, s2, s3⟩
    rw [Value.agg.injEq]
    apply Array.toList_inj.1
    exact hcs
end

end Go.Proofs.Ytnlgkkbmbijndaa
