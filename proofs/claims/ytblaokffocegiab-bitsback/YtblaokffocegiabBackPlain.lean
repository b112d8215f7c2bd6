import Derived.Test.YtblaokffocegiabHexPlain
/- Plain facts: digits there and back. -/
namespace Go.Proofs.Ytblaokffocegiab
open Go.RowKit
set_option linter.unusedVariables false

theorem digI_dgN (n : Nat) (h : n < 16) : digI ((dgN n).toNat : Int) = n := by
  rw [dgN_toNat n h]; unfold digI; split <;> split <;> omega
theorem isHex_dgN (n : Nat) (h : n < 16) : isHex ((dgN n).toNat : Int) = true := by
  rw [dgN_toNat n h, isHex_iff]; split <;> omega
theorem dgN_digI (c : UInt8) (h : isHex (c.toNat : Int) = true) : dgN (digI (c.toNat : Int)).toNat = c := by
  have hd := digI_lo _ h
  obtain ⟨n, hn⟩ : ∃ n : Nat, (n : Int) = digI (c.toNat : Int) := ⟨(digI (c.toNat : Int)).toNat, by omega⟩
  have hn' : (digI (c.toNat : Int)).toNat = n := by omega
  rw [hn']
  have e := dgN_toNat n (by omega)
  rw [isHex_iff] at h
  apply UInt8.toNat_inj.1
  unfold digI at hn
  split at e <;> split at hn <;> omega
theorem good_hexB (a : Int) : goodL (hexB a).data.toList = true := by
  apply goodL_of
  · rfl
  · intro c hc
    have hc' : c ∈ [dgN (a / 268435456 % 16).toNat, dgN (a / 16777216 % 16).toNat, dgN (a / 1048576 % 16).toNat, dgN (a / 65536 % 16).toNat, dgN (a / 4096 % 16).toNat, dgN (a / 256 % 16).toNat, dgN (a / 16 % 16).toNat, dgN (a % 16).toNat] := hc
    simp only [List.mem_cons, List.not_mem_nil, or_false] at hc'
    rcases hc' with rfl | rfl | rfl | rfl | rfl | rfl | rfl | rfl
    all_goals exact isHex_dgN _ (by omega)
theorem val8 (x0 x1 x2 x3 x4 x5 x6 x7 : Nat) (h0 : x0 < 16) (h1 : x1 < 16) (h2 : x2 < 16) (h3 : x3 < 16) (h4 : x4 < 16) (h5 : x5 < 16) (h6 : x6 < 16) (h7 : x7 < 16) :
    valL [dgN x7, dgN x6, dgN x5, dgN x4, dgN x3, dgN x2, dgN x1, dgN x0] = x7 * 268435456 + x6 * 16777216 + x5 * 1048576 + x4 * 65536 + x3 * 4096 + x2 * 256 + x1 * 16 + x0 := by
  unfold valL
  simp only [List.foldl_cons, List.foldl_nil, digI_dgN _ h0, digI_dgN _ h1, digI_dgN _ h2, digI_dgN _ h3, digI_dgN _ h4, digI_dgN _ h5, digI_dgN _ h6, digI_dgN _ h7]
  omega
theorem sum8 (a q1 q2 q3 q4 q5 q6 q7 : Int) (b0 : a % 16 + 16 * q1 = a) (b1 : q1 / 16 = q2) (b2 : q2 / 16 = q3) (b3 : q3 / 16 = q4) (b4 : q4 / 16 = q5) (b5 : q5 / 16 = q6) (b6 : q6 / 16 = q7) (b7 : q7 / 16 = 0) :
    (q7 % 16) * 268435456 + (q6 % 16) * 16777216 + (q5 % 16) * 1048576 + (q4 % 16) * 65536 + (q3 % 16) * 4096 + (q2 % 16) * 256 + (q1 % 16) * 16 + a % 16 = a := by omega
theorem rdv_hexB (a : Int) (h0 : 0 ≤ a) (h1 : a < 4294967296) : rdv (hexB a).data.toList = a := by
  rw [rdv_yes _ (good_hexB a)]
  have hl : (hexB a).data.toList = [dgN (a / 268435456 % 16).toNat, dgN (a / 16777216 % 16).toNat, dgN (a / 1048576 % 16).toNat, dgN (a / 65536 % 16).toNat, dgN (a / 4096 % 16).toNat, dgN (a / 256 % 16).toNat, dgN (a / 16 % 16).toNat, dgN (a % 16).toNat] := rfl
  rw [hl, val8 _ _ _ _ _ _ _ _ (by omega) (by omega) (by omega) (by omega) (by omega) (by omega) (by omega) (by omega)]
  have s := sum8 a (a / 16) (a / 256) (a / 4096) (a / 65536) (a / 1048576) (a / 16777216) (a / 268435456) (by omega) (by omega) (by omega) (by omega) (by omega) (by omega) (by omega) (by omega)
  have t : ∀ y : Int, ((y % 16).toNat : Int) = y % 16 := fun y => by omega
  rw [t, t, t, t, t, t, t, t]
  exact s
theorem list8 {α : Type} (l : List α) (h : l.length = 8) : ∃ a b c d e f g i, l = [a, b, c, d, e, f, g, i] := by
  match l, h with
  | [a, b, c, d, e, f, g, i], _ => exact ⟨a, b, c, d, e, f, g, i, rfl⟩
theorem hexB_rdv (s : ByteArray) (h : goodL s.data.toList = true) : hexB (rdv s.data.toList) = s := by
  obtain ⟨h8, ha⟩ := goodL_all _ h
  rw [rdv_yes _ h]
  obtain ⟨c0, c1, c2, c3, c4, c5, c6, c7, hl⟩ := list8 _ h8
  have hs : s = ⟨[c0, c1, c2, c3, c4, c5, c6, c7].toArray⟩ := by
    apply ByteArray.ext; rw [← hl]
  rw [hl] at ha ⊢
  have a0 := ha c0 (by simp)
  have a1 := ha c1 (by simp)
  have a2 := ha c2 (by simp)
  have a3 := ha c3 (by simp)
  have a4 := ha c4 (by simp)
  have a5 := ha c5 (by simp)
  have a6 := ha c6 (by simp)
  have a7 := ha c7 (by simp)
  have d0 := digI_lo _ a0
  have d1 := digI_lo _ a1
  have d2 := digI_lo _ a2
  have d3 := digI_lo _ a3
  have d4 := digI_lo _ a4
  have d5 := digI_lo _ a5
  have d6 := digI_lo _ a6
  have d7 := digI_lo _ a7
  rw [hs]
  have e0 := dgN_digI c0 a0
  have e1 := dgN_digI c1 a1
  have e2 := dgN_digI c2 a2
  have e3 := dgN_digI c3 a3
  have e4 := dgN_digI c4 a4
  have e5 := dgN_digI c5 a5
  have e6 := dgN_digI c6 a6
  have e7 := dgN_digI c7 a7
  have hv : valL [c0, c1, c2, c3, c4, c5, c6, c7] = digI (c0.toNat : Int) * 268435456 + digI (c1.toNat : Int) * 16777216 + digI (c2.toNat : Int) * 1048576 + digI (c3.toNat : Int) * 65536 + digI (c4.toNat : Int) * 4096 + digI (c5.toNat : Int) * 256 + digI (c6.toNat : Int) * 16 + digI (c7.toNat : Int) := by
    unfold valL; simp only [List.foldl_cons, List.foldl_nil]; omega
  rw [hv]
  clear hv ha hl hs h8 h
  generalize digI (c0.toNat : Int) = x0 at *
  generalize digI (c1.toNat : Int) = x1 at *
  generalize digI (c2.toNat : Int) = x2 at *
  generalize digI (c3.toNat : Int) = x3 at *
  generalize digI (c4.toNat : Int) = x4 at *
  generalize digI (c5.toNat : Int) = x5 at *
  generalize digI (c6.toNat : Int) = x6 at *
  generalize digI (c7.toNat : Int) = x7 at *
  obtain ⟨v, hv⟩ : ∃ v, x0 * 268435456 + x1 * 16777216 + x2 * 1048576 + x3 * 65536 + x4 * 4096 + x5 * 256 + x6 * 16 + x7 = v := ⟨_, rfl⟩
  rw [hv]
  unfold hexB
  rw [show v / 268435456 % 16 = x0 by omega, show v / 16777216 % 16 = x1 by omega, show v / 1048576 % 16 = x2 by omega, show v / 65536 % 16 = x3 by omega, show v / 4096 % 16 = x4 by omega, show v / 256 % 16 = x5 by omega, show v / 16 % 16 = x6 by omega, show v % 16 = x7 by omega]
  rw [e0, e1, e2, e3, e4, e5, e6, e7]

end Go.Proofs.Ytblaokffocegiab
