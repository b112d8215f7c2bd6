import Derived.Test.YtmiidhgbdecdkaaGreatPart12
import Derived.Test.YtmiidhgbdecdkaaGreatPart18
import Derived.Test.YtmiidhgbdecdkaaGreatPart1
namespace Go.Proofs.YtmiidhgbdecdkaaGreat
open Go.RowKit
set_option linter.unusedVariables false
set_option linter.unusedSimpArgs false
theorem findE_in {t : Nd} {e : Rent} (h : findE t = some e) : e ∈ allE := by
 unfold findE at h
 by_cases hk : t.kind = 1
 ·rw [if_pos hk] at h; exact List.mem_of_find?_eq_some h
 ·rw [if_neg hk] at h; cases h
theorem all_small : allE.all (fun e => decide (e.2.1.length ≤ 100) && e.2.1.all (fun x => decide (x.1.size ≤ 100))) = true := by decide
theorem row_small {e : Rent} (h : e ∈ allE) : e.2.1.length ≤ 100 ∧ ∀ x ∈ e.2.1, x.1.size ≤ 100 := by
 have := List.all_eq_true.1 all_small e h
 rw [Bool.and_eq_true, List.all_eq_true] at this
 exact ⟨of_decide_eq_true this.1, fun x hx => of_decide_eq_true (this.2 x hx)⟩
theorem row_sizes {e : Rent} (h : e ∈ allE) : ∀ x ∈ e.2.1, x.1.size ≤ maxLen := fun x hx => by have := (row_small h).2 x hx; unfold maxLen; omega
theorem keys_size {l : List Nd} (h : okL l) : ∀ x ∈ l, x.key.size ≤ maxLen := fun x hx => by
 obtain ⟨i, hi, rfl⟩ := List.getElem_of_mem hx
 have := (okL_get h hi).1.2.1
 unfold maxLen
 omega
theorem RowE.args {w : World} {e : Rent} {q : Option Addr} {c : Nat} {fv : Value} (h : RowE w (.agg #[.slice q e.2.1.length c, fv]) e) : ArgsG w q e.2.1 ∧ FvOK w fv e.2.2 := by
 obtain ⟨q', c', fv', h1, h2, h3⟩ := h
 simp only [Value.agg.injEq, Array.mk.injEq, List.cons.injEq, Value.slice.injEq, and_true, true_and] at h1
 obtain ⟨⟨rfl, rfl⟩, rfl⟩ := h1
 exact ⟨h2, h3⟩
def FaultM (N : Nat) : Prop := ∀ (bt : Nat) (t : Nd) (b o : Nat) (S : Blk) (w : World), dep t ≤ N → cnt t ≤ 40000 → ok1 t → Tab w bt → (∀ j, S j → j < w.heap.size) → NodeA w (inH S) b o t →
 Calls Tryz.prog 20 #[.map (some bt), .pointer (some ⟨b, o, none⟩)] w fun e w' => e = .returned (.tuple #[.int .i64 (faultA t).1, .int .i64 (faultA t).2]) ∧ Below w.heap.size w w'
set_option maxRecDepth 100000 in
set_option maxHeartbeats 4000000 in
theorem faultm_step (N : Nat) (ih : FaultM N) : FaultM (N + 1) := by
 intro bt t b o S w hd hc hok ht hS hn
 have hlen : t.args.length ≤ 40000 := by have := cntL_len t.args; unfold cnt at hc; omega
 have HIH : Hid (∀ j (hj : j < t.args.length) (b' : Nat) (x : World), Below w.heap.size w x → NodeA x (inH S) b' (j * 7) t.args[j] → Calls Tryz.prog 20 #[.map (some bt), .pointer (some ⟨b', j * 7, none⟩)] x fun e w' => e = .returned (.tuple #[.int .i64 (faultA t.args[j]).1, .int .i64 (faultA t.args[j]).2]) ∧ Below x.heap.size x w') := fun j hj b' x hx hnx =>
  ih bt t.args[j] b' (j * 7) S x (by have h1 := dep_get hj; unfold dep at hd; omega) (by have h1 := cnt_get hj; unfold cnt at hc; omega) (okL_get hok.2 hj) (ht.below hx) (fun k hk => by have := hS k hk; have := hx.size; omega) hnx
 have HFD : Hid (Calls Tryz.prog 46 #[.map (some bt), .pointer (some ⟨b, o, none⟩)] w fun e w' => Below w.heap.size w w' ∧ ((∃ en q c f x1 x2, findE t = some en ∧ RowE w' (.agg #[.slice q en.2.1.length c, .func f x1 x2]) en ∧ e = .returned (.tuple #[.agg #[.slice q en.2.1.length c, .func f x1 x2], .bool true])) ∨ (findE t = none ∧ e = .returned (.tuple #[.agg #[.slice none 0 0, .nilFunc], .bool false])))) :=
  tfind_any bt b o t w (by have := hok.1.1; unfold maxLen; omega) ht (hn.weak fun _ _ _ _ => trivial)
 have hGV := fun (en : Rent) (he : en ∈ allE) (q : Option Addr) (c : Nat) (f : Fn) (x1 x2 : Array Value) (x : World) (k : Below w.heap.size w x) (ha : ArgsG x q en.2.1) => give_any en.2.1 t q c f x1 x2 b o S x (by have := (row_small he).1; omega) hlen (row_sizes he) (keys_size hok.2) (fun j hj => by have := hS j hj; have := k.size; omega) ha (hn.below k)
 have HGV := hidM hGV
 have HNA : Hid (NodeA w (inH S) b o t) := hn
 have hER := errE_eq t
 unfold errE at hER
 clear hd hc hok ht hS hn ih hGV
 cases hfe : findE t with
 | none =>
  rw [hfe] at hER HFD
  have HFT : Hid (faultA t = faultAL t.args) := by show _ = _; unfold faultA; rw [← hER]; simp
  clear hER hfe HGV
  go_enter Tryz.func20, Tryz.ntmps20
  go_upto_region 2 with (go_at_call 46; (with_reducible refine HFD.out.mono ?_); rintro e v1 ⟨hb1, ⟨en, q, c, f, x1, x2, hh, -⟩ | ⟨-, rfl⟩⟩; (exact absurd hh (by simp)); have HB1 : Hid (Below w.heap.size w v1) := hb1; clear hb1; obtain ⟨W3, hW3, hX3, hB3⟩ := new_row v1; obtain ⟨⟨u0, u1⟩, a0, a1⟩ := twoC hX3; have HB3 := hidM hB3; clear hX3 hB3)
  have hb9 := bel HB1.out (below_at (below_at HB3.out (Nat.le_refl _) 0 (.slice none 0 0)) (Nat.le_refl _) 1 .nilFunc)
  obtain ⟨U, hU⟩ : ∃ UU, (W3.setCell ⟨v1.heap.size, 0, none⟩ (.slice none 0 0)).setCell ⟨v1.heap.size, 1, none⟩ .nilFunc = UU := ⟨_, rfl⟩
  rw [hU] at hb9 ⊢
  have HBU : Hid (Below w.heap.size w U) := hb9
  clear hU hW3 u0 u1 a0 a1 HB3 HFD
  clear hb9 HB1
  obtain ⟨⟨e0, e1, e2, e3, e4, e6, sv, e5, hk⟩⟩ := Nonempty.intro HNA.out
  obtain ⟨pa, d, rfl, hq, hka⟩ := hk
  have HKA : Hid (t.args = [] ∨ ∃ b', pa = some ⟨b', 0, none⟩ ∧ KA w (inH S) b' 0 t.args) := by
   rcases hka with e | ⟨b', o', rfl, hka⟩
   ·exact .inl e
   ·rcases hq with ⟨hh, -⟩ | ⟨b2, hh, -, hc⟩
    ·cases hh
    ·simp only [Option.some.injEq, Addr.mk.injEq] at hh
     obtain ⟨rfl, rfl, -⟩ := hh
     exact .inr ⟨b', rfl, hka⟩
  obtain ⟨n, hnn⟩ : ∃ n, t.args.length = n := ⟨_, rfl⟩
  have HN : Hid (t.args.length = n) := hnn
  rw [hnn] at e5 hlen
  have H5 : Hid (w.cell? ⟨b, o + 5, none⟩ = some (.slice pa n d)) := e5
  have z5 := (HBU.out.cell (mcell_lt e5)).trans e5
  clear e0 e1 e2 e3 e4 e5 e6 hq hka hnn HNA
  go_wp2
  go_loopw [37] (fun iv wr => ∃ j : Nat, j ≤ n ∧ iv = .int .i64 j ∧ Hid (Below w.heap.size w wr ∧ faultAL t.args = faultAL (t.args.drop j))) (fun iv _ => n - (intOf iv).toNat)
  case atStart => exact ⟨0, Nat.zero_le _, rfl, HBU.out, rfl⟩
  case round =>
   obtain ⟨j, hj, rfl, HS⟩ := hrel
   obtain ⟨hb, hfl⟩ := HS.out
   have HB : Hid (Below w.heap.size w wr) := hb
   clear HS HBU z5
   by_cases hlt0 : j < n
   ·have hll : j < t.args.length := by rw [HN.out]; exact hlt0
    obtain ⟨b', rfl, hka⟩ : ∃ b', pa = some ⟨b', 0, none⟩ ∧ KA w (inH S) b' 0 t.args := by
     rcases HKA.out with e | e
     ·rw [e] at hll; exact absurd hll (Nat.not_lt_zero _)
     ·exact e
    have hdr : t.args.drop j = t.args[j] :: t.args.drop (j + 1) := List.drop_eq_getElem_cons hll
    rw [hdr, faultAL_cons] at hfl
    have hca := HIH.out j hll b' wr hb (by have := (KA_get hka hll).below hb; rw [Nat.zero_add] at this; exact this)
    have z5 := (hb.cell (mcell_lt H5.out)).trans H5.out
    have i1 : (0 : Int) ≤ (j : Int) := by omega
    have i2 : (j : Int) < (n : Int) := by omega
    obtain ⟨FA, hFA⟩ : ∃ F, faultA t.args[j] = F := ⟨_, rfl⟩
    rw [hFA] at hca hfl
    obtain ⟨FE, FP⟩ := FA
    have HCA : Hid (Calls Tryz.prog 20 #[.map (some bt), .pointer (some ⟨b', j * 7, none⟩)] wr fun e w' => e = .returned (.tuple #[.int .i64 FE, .int .i64 FP]) ∧ Below wr.heap.size wr w') := hca
    by_cases her : FE = 0
    ·subst her
     have HFL : Hid (faultAL t.args = faultAL (t.args.drop (j + 1))) := by show _ = _; rw [hfl]; simp
     clear hfl hca hFA hdr hka HKA hb
     go_wp2_with (go_at_call 20; (with_reducible refine HCA.out.mono ?_); rintro e w3 ⟨rfl, hb3⟩; have HB3 : Hid (Below w.heap.size w w3) := bel HB.out hb3; clear hb3)
     go_roundw
     case rel => exact ⟨j + 1, by omega, by go_num, HB3.out, HFL.out⟩
     case measure => simp [intOf]; omega
    ·have e1 : (FE == 0) = false := by simpa using her
     have HFL : Hid (faultA t = (FE, FP)) := by show _ = _; rw [HFT.out, hfl]; simp [her]
     clear hfl hca hFA hdr hka HKA hb HFT
     go_wp2_with (go_at_call 20; (with_reducible refine HCA.out.mono ?_); rintro e w3 ⟨rfl, hb3⟩; have HB3 : Hid (Below w.heap.size w w3) := bel HB.out hb3; clear hb3)
     refine bodyPost_ret (by simp [results, Tryz.results20, go_sem]; try rfl) rfl ?_
     rw [HFL.out]
     exact ⟨rfl, HB3.out⟩
   ·have : j = n := by omega
    subst this
    have i2 : ¬ ((j : Int) < (j : Int)) := by omega
    have HFL : Hid (faultA t = (0, 0)) := by show _ = _; rw [HFT.out, hfl, List.drop_of_length_le (by rw [HN.out]; exact Nat.le_refl _), faultAL_nil]
    clear hfl HKA HFT hb
    go_wp2
    refine bodyPost_ret (by simp [results, Tryz.results20, go_sem]; try rfl) rfl ?_
    rw [HFL.out]
    exact ⟨rfl, HB.out⟩
 | some en =>
  rw [hfe] at hER HFD
  have hin := findE_in hfe
  simp only at hER
  obtain ⟨Ln, hLn⟩ : ∃ n, en.2.1.length = n := ⟨_, rfl⟩
  have HFE : Hid (Calls Tryz.prog 46 #[.map (some bt), .pointer (some ⟨b, o, none⟩)] w fun e w' => Below w.heap.size w w' ∧ ∃ q c f x1 x2, ArgsG w' q en.2.1 ∧ e = .returned (.tuple #[.agg #[.slice q Ln c, .func f x1 x2], .bool true])) := HFD.out.mono fun e w' ⟨h1, h2⟩ => by
   refine ⟨h1, ?_⟩
   rcases h2 with ⟨en', q, c, f, x1, x2, h3, h4, h5⟩ | ⟨h3, -⟩
   ·cases h3
    exact ⟨q, c, f, x1, x2, h4.args.1, by rw [← hLn]; exact h5⟩
   ·cases h3
  have HGE : Hid (∀ (q : Option Addr) (c : Nat) (f : Fn) (x1 x2 : Array Value) (x : World), Below w.heap.size w x → ArgsG x q en.2.1 → Calls Tryz.prog 47 #[.agg #[.slice q Ln c, .func f x1 x2], .pointer (some ⟨b, o, none⟩)] x fun e w' => Below x.heap.size x w' ∧ ((∃ er a, giveP en.2.1 t = .error (er, a) ∧ e = .returned (.tuple #[.map none, .int .i64 er, .int .i64 a])) ∨ (∃ g bm m, giveP en.2.1 t = .ok g ∧ e = .returned (.tuple #[.map (some bm), .int .i64 0, .int .i64 0]) ∧ PM w' bm m g S ∧ m ≤ t.args.length ∧ x.heap.size ≤ bm))) := fun q c f x1 x2 x k ha => by rw [← hLn]; exact HGV.out en hin q c f x1 x2 x k ha
  clear HFD HGV hLn hin hfe
  cases hgp : giveP en.2.1 t with
  | error ea =>
   obtain ⟨er, a⟩ := ea
   rw [hgp] at hER HGE
   simp only at hER
   have hne : er ≠ 0 := giveP_ne hgp
   have e1 : (er == 0) = false := by simpa using hne
   have HFT : Hid (faultA t = (er, a)) := by show _ = _; unfold faultA; rw [← hER]; simp [hne]
   clear hER hgp hne HNA HIH
   go_enter Tryz.func20, Tryz.ntmps20
   go_upto_region 3 with (go_at_call 46; (with_reducible refine HFE.out.mono ?_); rintro e v1 ⟨hb1, q, c, f, x1, x2, ha1, rfl⟩; have HB1 : Hid (Below w.heap.size w v1) := hb1; have HA1 := hidM ha1; clear hb1 ha1; obtain ⟨W3, hW3, hX3, hB3⟩ := new_row v1; obtain ⟨⟨u0, u1⟩, a0, a1⟩ := twoC hX3; have HX3 := hidM hX3; have HB3 := hidM hB3; clear hX3 hB3)
   have hXU := put_twoC HX3.out (.slice q Ln c) (.func f x1 x2)
   have hBU := below_at (below_at HB3.out (Nat.le_refl _) 0 (.slice q Ln c)) (Nat.le_refl _) 1 (.func f x1 x2)
   obtain ⟨U, hU⟩ : ∃ UU, (W3.setCell ⟨v1.heap.size, 0, none⟩ (.slice q Ln c)).setCell ⟨v1.heap.size, 1, none⟩ (.func f x1 x2) = UU := ⟨_, rfl⟩
   rw [hU] at hXU hBU ⊢
   obtain ⟨G, hG⟩ : ∃ G, v1.heap.size = G := ⟨_, rfl⟩
   rw [hG] at hXU ⊢
   have HBU : Hid (Below w.heap.size w U) := bel HB1.out hBU
   have HAU : Hid (ArgsG U q en.2.1) := HA1.out.kp (Kp.of hBU)
   obtain ⟨⟨s0, s1⟩, -⟩ := twoC hXU
   clear hU hG hXU hBU hW3 u0 u1 a0 a1 HB3 HX3 HA1 HB1
   go_wp2_with (go_at_call 47; (with_reducible refine (HGE.out _ _ _ _ _ _ HBU.out HAU.out).mono ?_); rintro e v2 ⟨hb2, ⟨er2, a2, hh, rfl⟩ | ⟨g, bm, m, hh, -⟩⟩; rotate_left 1; (exact absurd hh (by simp)); (simp only [Except.error.injEq, Prod.mk.injEq] at hh; obtain ⟨rfl, rfl⟩ := hh); have HB2 : Hid (Below w.heap.size w v2) := bel HBU.out hb2; clear hb2)
   refine bodyPost_ret (by simp [results, Tryz.results20, go_sem]; try rfl) rfl ?_
   rw [HFT.out]
   exact ⟨rfl, HB2.out⟩
  | ok g0 =>
   rw [hgp] at hER HGE
   simp only at hER
   have HFT : Hid (faultA t = faultAL t.args) := by show _ = _; unfold faultA; rw [← hER]; simp
   clear hER hgp
   go_enter Tryz.func20, Tryz.ntmps20
   go_upto_region 3 with (go_at_call 46; (with_reducible refine HFE.out.mono ?_); rintro e v1 ⟨hb1, q, c, f, x1, x2, ha1, rfl⟩; have HB1 : Hid (Below w.heap.size w v1) := hb1; have HA1 := hidM ha1; clear hb1 ha1; obtain ⟨W3, hW3, hX3, hB3⟩ := new_row v1; obtain ⟨⟨u0, u1⟩, a0, a1⟩ := twoC hX3; have HX3 := hidM hX3; have HB3 := hidM hB3; clear hX3 hB3)
   have hXU := put_twoC HX3.out (.slice q Ln c) (.func f x1 x2)
   have hBU := below_at (below_at HB3.out (Nat.le_refl _) 0 (.slice q Ln c)) (Nat.le_refl _) 1 (.func f x1 x2)
   obtain ⟨U, hU⟩ : ∃ UU, (W3.setCell ⟨v1.heap.size, 0, none⟩ (.slice q Ln c)).setCell ⟨v1.heap.size, 1, none⟩ (.func f x1 x2) = UU := ⟨_, rfl⟩
   rw [hU] at hXU hBU ⊢
   obtain ⟨G, hG⟩ : ∃ G, v1.heap.size = G := ⟨_, rfl⟩
   rw [hG] at hXU ⊢
   have HBU : Hid (Below w.heap.size w U) := bel HB1.out hBU
   have HAU : Hid (ArgsG U q en.2.1) := HA1.out.kp (Kp.of hBU)
   obtain ⟨⟨s0, s1⟩, -⟩ := twoC hXU
   clear hU hG hXU hBU hW3 u0 u1 a0 a1 HB3 HX3 HA1 HB1
   go_upto_region 4 with (go_at_call 47; (with_reducible refine (HGE.out _ _ _ _ _ _ HBU.out HAU.out).mono ?_); rintro e v2 ⟨hb2, ⟨er2, a2, hh, -⟩ | ⟨g, bm, m, -, rfl, -⟩⟩; (exact absurd hh (by simp)); have HB2 : Hid (Below w.heap.size w v2) := bel HBU.out hb2; clear hb2)
   clear HBU HAU HFE HGE s0 s1
   have HBU := HB2
   have hb9 := HB2.out
   have HB1 := HB2
   clear HB2
   clear hb9 HB1
   obtain ⟨⟨e0, e1, e2, e3, e4, e6, sv, e5, hk⟩⟩ := Nonempty.intro HNA.out
   obtain ⟨pa, d, rfl, hq, hka⟩ := hk
   have HKA : Hid (t.args = [] ∨ ∃ b', pa = some ⟨b', 0, none⟩ ∧ KA w (inH S) b' 0 t.args) := by
    rcases hka with e | ⟨b', o', rfl, hka⟩
    ·exact .inl e
    ·rcases hq with ⟨hh, -⟩ | ⟨b2, hh, -, hc⟩
     ·cases hh
     ·simp only [Option.some.injEq, Addr.mk.injEq] at hh
      obtain ⟨rfl, rfl, -⟩ := hh
      exact .inr ⟨b', rfl, hka⟩
   obtain ⟨n, hnn⟩ : ∃ n, t.args.length = n := ⟨_, rfl⟩
   have HN : Hid (t.args.length = n) := hnn
   rw [hnn] at e5 hlen
   have H5 : Hid (w.cell? ⟨b, o + 5, none⟩ = some (.slice pa n d)) := e5
   have z5 := (HBU.out.cell (mcell_lt e5)).trans e5
   clear e0 e1 e2 e3 e4 e5 e6 hq hka hnn HNA
   go_wp2
   go_loopw [37] (fun iv wr => ∃ j : Nat, j ≤ n ∧ iv = .int .i64 j ∧ Hid (Below w.heap.size w wr ∧ faultAL t.args = faultAL (t.args.drop j))) (fun iv _ => n - (intOf iv).toNat)
   case atStart => exact ⟨0, Nat.zero_le _, rfl, HBU.out, rfl⟩
   case round =>
    obtain ⟨j, hj, rfl, HS⟩ := hrel
    obtain ⟨hb, hfl⟩ := HS.out
    have HB : Hid (Below w.heap.size w wr) := hb
    clear HS HBU z5
    by_cases hlt0 : j < n
    ·have hll : j < t.args.length := by rw [HN.out]; exact hlt0
     obtain ⟨b', rfl, hka⟩ : ∃ b', pa = some ⟨b', 0, none⟩ ∧ KA w (inH S) b' 0 t.args := by
      rcases HKA.out with e | e
      ·rw [e] at hll; exact absurd hll (Nat.not_lt_zero _)
      ·exact e
     have hdr : t.args.drop j = t.args[j] :: t.args.drop (j + 1) := List.drop_eq_getElem_cons hll
     rw [hdr, faultAL_cons] at hfl
     have hca := HIH.out j hll b' wr hb (by have := (KA_get hka hll).below hb; rw [Nat.zero_add] at this; exact this)
     have z5 := (hb.cell (mcell_lt H5.out)).trans H5.out
     have i1 : (0 : Int) ≤ (j : Int) := by omega
     have i2 : (j : Int) < (n : Int) := by omega
     obtain ⟨FA, hFA⟩ : ∃ F, faultA t.args[j] = F := ⟨_, rfl⟩
     rw [hFA] at hca hfl
     obtain ⟨FE, FP⟩ := FA
     have HCA : Hid (Calls Tryz.prog 20 #[.map (some bt), .pointer (some ⟨b', j * 7, none⟩)] wr fun e w' => e = .returned (.tuple #[.int .i64 FE, .int .i64 FP]) ∧ Below wr.heap.size wr w') := hca
     by_cases her : FE = 0
     ·subst her
      have HFL : Hid (faultAL t.args = faultAL (t.args.drop (j + 1))) := by show _ = _; rw [hfl]; simp
      clear hfl hca hFA hdr hka HKA hb
      go_wp2_with (go_at_call 20; (with_reducible refine HCA.out.mono ?_); rintro e w3 ⟨rfl, hb3⟩; have HB3 : Hid (Below w.heap.size w w3) := bel HB.out hb3; clear hb3)
      go_roundw
      case rel => exact ⟨j + 1, by omega, by go_num, HB3.out, HFL.out⟩
      case measure => simp [intOf]; omega
     ·have e1 : (FE == 0) = false := by simpa using her
      have HFL : Hid (faultA t = (FE, FP)) := by show _ = _; rw [HFT.out, hfl]; simp [her]
      clear hfl hca hFA hdr hka HKA hb HFT
      go_wp2_with (go_at_call 20; (with_reducible refine HCA.out.mono ?_); rintro e w3 ⟨rfl, hb3⟩; have HB3 : Hid (Below w.heap.size w w3) := bel HB.out hb3; clear hb3)
      refine bodyPost_ret (by simp [results, Tryz.results20, go_sem]; try rfl) rfl ?_
      rw [HFL.out]
      exact ⟨rfl, HB3.out⟩
    ·have : j = n := by omega
     subst this
     have i2 : ¬ ((j : Int) < (j : Int)) := by omega
     have HFL : Hid (faultA t = (0, 0)) := by show _ = _; rw [HFT.out, hfl, List.drop_of_length_le (by rw [HN.out]; exact Nat.le_refl _), faultAL_nil]
     clear hfl HKA HFT hb
     go_wp2
     refine bodyPost_ret (by simp [results, Tryz.results20, go_sem]; try rfl) rfl ?_
     rw [HFL.out]
     exact ⟨rfl, HB.out⟩
theorem faultm_to : ∀ N, FaultM N
 | 0 => fun bt t b o S w hd => absurd hd (by unfold dep; omega)
 | N + 1 => faultm_step N (faultm_to N)
end Go.Proofs.YtmiidhgbdecdkaaGreat
namespace Go.Proofs.YtmiidhgbdecdkaaGreat
open Go.RowKit
set_option linter.unusedVariables false
set_option linter.unusedSimpArgs false
def OffN (S : Blk) (w w' : World) : Prop := OffS (fun b => S b ∧ ¬ NotN w b) w w'
theorem OffN.size {S : Blk} {w w' : World} (h : OffN S w w') : w.heap.size ≤ w'.heap.size := h.2.2.2.1
theorem OffN.eq {S : Blk} {w w' : World} (h : OffN S w w') {b : Nat} (hb : b < w.heap.size) (hn : ¬ S b ∨ NotN w b) : w'.heap[b]? = w.heap[b]? :=
 h.2.2.2.2 b hb fun k => hn.elim (fun c => c k.1) (fun c => k.2 c)
theorem OffN.trans {S : Blk} {a b c : World} (h : OffN S a b) (k : OffN S b c) : OffN S a c :=
 ⟨k.1.trans h.1, k.2.1.trans h.2.1, k.2.2.1.trans h.2.2.1, Nat.le_trans h.2.2.2.1 k.2.2.2.1, fun x hx hs => by
  have e := h.2.2.2.2 x hx hs
  exact (k.2.2.2.2 x (Nat.lt_of_lt_of_le hx h.2.2.2.1) fun ⟨s1, s2⟩ => hs ⟨s1, fun n => s2 (n.eq e)⟩).trans e⟩
theorem OffN.sub {S S' : Blk} {w w' : World} (h : OffN S w w') (hs : ∀ j, S j → S' j) : OffN S' w w' := OffS.sub h fun j _ k => ⟨hs j k.1, k.2⟩
theorem OffN.of {S : Blk} {w w' : World} (h : Below w.heap.size w w') : OffN S w w' := OffS.of h
theorem OffN.off {S : Blk} {w v v' : World} {R : Nat} (h : OffN S w v) (k : Off R v v') (hR : R < w.heap.size → S R ∧ ¬ NotN w R) : OffN S w v' :=
 ⟨k.1.trans h.1, k.2.1.trans h.2.1, k.2.2.1.trans h.2.2.1, by rw [k.2.2.2.1]; exact h.2.2.2.1, fun b hb hs => by
  rw [k.2.2.2.2 b (fun e => hs (by rw [e] at hb ⊢; exact hR hb))]
  exact h.2.2.2.2 b hb hs⟩
theorem ArgsG.offN {S : Blk} {w w' : World} {q : Option Addr} {L : List (ByteArray × Nd)} (h : ArgsG w q L) (k : OffN S w w') : ArgsG w' q L := by
 obtain ⟨g, h1, ⟨⟨u0, hu0⟩, hn⟩, h2⟩ := h
 have e := k.eq (mcell_lt hu0) (.inr hn)
 have c : ∀ j u, w.cell? ⟨g, j, none⟩ = some u → w'.cell? ⟨g, j, none⟩ = some u := fun j u hj => (World.cell?_of_block (w := w) (a := ⟨g, j, none⟩) e).trans hj
 exact ⟨g, h1, ⟨⟨u0, c 0 u0 hu0⟩, hn.eq e⟩, fun j u hu => c j u (h2 j u hu)⟩
theorem OffN.cell {S : Blk} {w w' : World} (k : OffN S w w') {a : Addr} {v : Value} (hn : NotN w a.block) (h : w.cell? a = some v) : w'.heap[a.block]? = w.heap[a.block]? ∧ w'.cell? a = some v := by
 have e := k.eq (mcell_lt h) (.inr hn)
 exact ⟨e, (World.cell?_of_block (w := w) e).trans h⟩
theorem FvOK.offN {S : Blk} {w w' : World} {fv : Value} {b : Bk} (h : FvOK w fv b) (k : OffN S w w') : FvOK w' fv b := by
 cases b with
 | fn n => exact h
 | sc nm ns =>
  obtain ⟨a1, a2, qq, cc, h1, h2, h3, h4, h5, h6⟩ := h
  refine ⟨a1, a2, qq, cc, h1, (k.cell h5 h2).2, (k.cell h6 h3).2, fun i hi => ?_, h5.eq (k.cell h5 h2).1, h6.eq (k.cell h6 h3).1⟩
  obtain ⟨g, o, g1, g2, g3⟩ := h4 i hi
  exact ⟨g, o, g1, (k.cell g3 g2).2, g3.eq (k.cell (a := ⟨g, o + i, none⟩) g3 g2).1⟩
theorem RowE.offN {S : Blk} {w w' : World} {v : Value} {e : Rent} (h : RowE w v e) (k : OffN S w w') : RowE w' v e := by
 obtain ⟨q, c, fv, h1, h2, h3⟩ := h
 exact ⟨q, c, fv, h1, h2.offN k, h3.offN k⟩
theorem Tab.offN {S : Blk} {w w' : World} {b : Nat} (h : Tab w b) (k : OffN S w w') : Tab w' b := by
 obtain ⟨n, f, h1, h2, h3⟩ := h
 obtain ⟨es, ck, h0⟩ := h2.obj
 refine ⟨n, f, h1, h2.block (k.eq h2.lt (.inr fun cs e => by rw [h0] at e; cases e)), fun nm v hv => ?_, h3.2⟩
 obtain ⟨e, he, hn, hr⟩ := h3.1 nm v hv
 exact ⟨e, he, hn, hr.offN k⟩
structure RpF (w : World) (b' : Nat) (F : Nat → Blk) (S : Blk) (l : List Nd) : Prop where
 ap : ∀ i j x, i ≠ j → F i x → F j x → False
 inS : ∀ i x, F i x → S x ∧ x ≠ b'
 lt : ∀ x, S x → x < w.heap.size
 hb : l ≠ [] → S b' ∧ ¬ NotN w b'
structure RpS (w : World) (A Z : Array Value) (b' : Nat) (F : Nat → Blk) (S : Blk) (l : List Nd) (j k : Nat) (v : World) : Prop where
 off : OffN S w v
 bx : v.heap[w.heap.size]? = some (.cells A 29)
 rx : v.heap[w.heap.size + 1]? = some (.cells Z 29)
 blk : l ≠ [] → ∃ cs, v.heap[b']? = some (.cells cs 29) ∧ l.length * 7 ≤ cs.size
 don : ∀ i (h : i < l.length), i < j → NodeA v (inH (fun x => F i x ∨ w.heap.size + 1 < x)) b' (i * 7) (wholeN l[i])
 yet : ∀ i (h : i < l.length), k ≤ i → NO v b' (i * 7) l[i] (F i)
theorem ne_of_lt {l : List Nd} {i : Nat} (h : i < l.length) : l ≠ [] := fun e => by rw [e] at h; exact absurd h (Nat.not_lt_zero _)
theorem NodeA.inKeep {w w' : World} {S : Blk} {b o : Nat} {t : Nd} (h : NodeA w (inH S) b o t) (hb : ∀ j, j < w.heap.size → S j → w'.heap[j]? = w.heap[j]?) (hc : ∀ j, j < 7 → w'.cell? ⟨b, o + j, none⟩ = w.cell? ⟨b, o + j, none⟩) : NodeA w' (inH S) b o t := by
 obtain ⟨e0, e1, e2, e3, e4, e6, sv, e5, hk⟩ := h
 exact ⟨(hc 0 (by omega)).trans e0, (hc 1 (by omega)).trans e1, (hc 2 (by omega)).trans e2, (hc 3 (by omega)).trans e3, (hc 4 (by omega)).trans e4, (hc 6 (by omega)).trans e6, sv, (hc 5 (by omega)).trans e5, hk.inKeepLt hb⟩
theorem RpS.big {w : World} {A Z : Array Value} {b' : Nat} {F : Nat → Blk} {S : Blk} {l : List Nd} {j k : Nat} {v : World} (h : RpS w A Z b' F S l j k v) : w.heap.size + 2 ≤ v.heap.size := by have := hlt h.rx; omega
theorem RpS.call {w : World} {A Z : Array Value} {b' : Nat} {F : Nat → Blk} {S : Blk} {l : List Nd} {j : Nat} {v x : World} (hf : RpF w b' F S l) (h : RpS w A Z b' F S l j j v) (hx : OffN (F j) v x) : RpS w A Z b' F S l j (j + 1) x := by
 have big := h.big
 have nF : ∀ y, w.heap.size ≤ y → ¬ F j y := fun y hy hF => by have := hf.lt y (hf.inS j y hF).1; omega
 have nb : ¬ F j b' := fun hF => (hf.inS j b' hF).2 rfl
 have eb : ∀ i, i < l.length → x.heap[b']? = v.heap[b']? := fun i hi => hx.eq (by have := hf.lt b' (hf.hb (ne_of_lt hi)).1; omega) (.inl nb)
 refine ⟨h.off.trans (hx.sub fun y hy => (hf.inS j y hy).1), (hx.eq (by omega) (.inl (nF _ (Nat.le_refl _)))).trans h.bx, (hx.eq (by omega) (.inl (nF _ (by omega)))).trans h.rx, fun hl => ?_, fun i hi hij => ?_, fun i hi hij => ?_⟩
 ·obtain ⟨cs, h1, h2⟩ := h.blk hl
  exact ⟨cs, (eb 0 (List.length_pos_iff.2 hl)).trans h1, h2⟩
 ·refine (h.don i hi hij).inKeep (fun y hy hS => hx.eq hy (.inl ?_)) fun q _ => World.cell?_of_block (w := v) (a := ⟨b', i * 7 + q, none⟩) (eb i hi)
  rcases hS with hS | hS
  ·exact fun hF => hf.ap i j y (by omega) hS hF
  ·exact nF y (by omega)
 ·refine (h.yet i hi (by omega)).keep (fun y hS => hx.eq (by have := hf.lt y (hf.inS i y hS).1; omega) (.inl fun hF => hf.ap i j y (by omega) hS hF)) fun q _ => World.cell?_of_block (w := v) (a := ⟨b', i * 7 + q, none⟩) (eb i hi)
theorem RpS.put {w : World} {A Z : Array Value} {b' : Nat} {F : Nat → Blk} {S : Blk} {l : List Nd} {j : Nat} {x : World} (hf : RpF w b' F S l) (h : RpS w A Z b' F S l j (j + 1) x) (hj : j < l.length) {T : Nd} (hT : wholeN l[j] = T) {sv : Value} (hk : Kids x (inH (fun z => F j z ∨ w.heap.size + 1 < z)) sv T.args) :
  RpS w A Z b' F S l (j + 1) (j + 1) (put7 x b' (j * 7) (.int .i64 T.kind) (.string T.name) (.int .u32 T.num) (.int .i64 T.int_) (.string T.key) sv (.int .i64 T.at_)) := by
 have hl := ne_of_lt hj
 have hb := hf.hb hl
 have hbl := hf.lt b' hb.1
 obtain ⟨cs, h1, h2⟩ := h.blk hl
 have hoff := put7_off x b' (j * 7) (.int .i64 T.kind) (.string T.name) (.int .u32 T.num) (.int .i64 T.int_) (.string T.key) sv (.int .i64 T.at_)
 obtain ⟨ds, g1, g2, g3, p0, p1, p2, p3, p4, p5, p6⟩ := put7_heap h1 (q := j * 7) (by omega) (.int .i64 T.kind) (.string T.name) (.int .u32 T.num) (.int .i64 T.int_) (.string T.key) sv (.int .i64 T.at_)
 obtain ⟨X, hX⟩ : ∃ X, put7 x b' (j * 7) (.int .i64 T.kind) (.string T.name) (.int .u32 T.num) (.int .i64 T.int_) (.string T.key) sv (.int .i64 T.at_) = X := ⟨_, rfl⟩
 rw [hX] at hoff g1 ⊢
 have oth : ∀ y, y ≠ b' → X.heap[y]? = x.heap[y]? := hoff.2.2.2.2
 have cel : ∀ i, i ≠ j → ∀ q, q < 7 → X.cell? ⟨b', i * 7 + q, none⟩ = x.cell? ⟨b', i * 7 + q, none⟩ := fun i hi q hq => by
  rw [cell_heap g1, cell_heap h1, g3 _ (by omega)]
 refine ⟨h.off.off hoff fun _ => hb, (oth _ (by omega)).trans h.bx, (oth _ (by omega)).trans h.rx, fun _ => ⟨ds, g1, by omega⟩, fun i hi hij => ?_, fun i hi hij => ?_⟩
 ·by_cases e : i = j
  ·subst e
   rw [hT]
   refine ⟨(at_cell g1 _ p0).1, (at_cell g1 _ p1).1, (at_cell g1 _ p2).1, (at_cell g1 _ p3).1, (at_cell g1 _ p4).1, (at_cell g1 _ p6).1, sv, (at_cell g1 _ p5).1, hk.inKeepLt fun y _ hS => oth y ?_⟩
   rcases hS with hS | hS
   ·exact (hf.inS i y hS).2
   ·omega
  ·refine (h.don i hi (by omega)).inKeep (fun y _ hS => oth y ?_) (cel i e)
   rcases hS with hS | hS
   ·exact (hf.inS i y hS).2
   ·omega
 ·exact (h.yet i hi hij).keep (fun y hS => oth y (hf.inS i y hS).2) (cel i (by omega))
theorem wholeL_len (l : List Nd) : (wholeL l).length = l.length := by rw [wholeL_map, List.length_map]
theorem RpS.kids {w : World} {A Z : Array Value} {b' : Nat} {F : Nat → Blk} {S : Blk} {l : List Nd} {n k : Nat} {v : World} {p : Option Addr} {c : Nat} (hf : RpF w b' F S l) (hn : l.length = n) (h : RpS w A Z b' F S l n k v) (hp : (l = [] ∧ p = none ∧ c = 0) ∨ (l ≠ [] ∧ p = some ⟨b', 0, none⟩ ∧ n ≤ c)) :
  Kids v (inH (fun x => S x ∨ w.heap.size + 1 < x)) (.slice p n c) (wholeL l) := by
 have hwl : (wholeL l).length = n := (wholeL_len l).trans hn
 rcases hp with ⟨rfl, rfl, rfl⟩ | ⟨hl, rfl, hc⟩
 ·rw [wholeL_nil, ← hn]
  exact kids_none _ _
 ·refine ⟨_, _, by rw [hwl], .inr ⟨b', rfl, .inr (.inl (hf.hb hl).1), by rw [hwl]; exact hc⟩, .inr ⟨b', 0, rfl, KA_of fun i hi => ?_⟩⟩
  have hi' : i < l.length := by rw [wholeL_len] at hi; exact hi
  have e : (wholeL l)[i] = wholeN l[i] := by
   have := List.getElem_map wholeN (l := l) (i := i) (h := by simpa using hi')
   rw [← this]
   congr 1
   exact wholeL_map l
  rw [e, Nat.zero_add]
  exact (h.don i hi' (by omega)).weak (inH.sub fun y hy => hy.imp (fun hF => (hf.inS i y hF).1) id)
theorem rp_start {w : World} {sv : Value} {l : List Nd} {S : Blk} (ho : Ow w sv l S) (hS : ∀ j, S j → j < w.heap.size) :
  ∃ p c b' F, sv = .slice p l.length c ∧ ((l = [] ∧ p = none ∧ c = 0) ∨ (l ≠ [] ∧ p = some ⟨b', 0, none⟩ ∧ l.length ≤ c)) ∧ RpF w b' F S l ∧ ∀ v A Z, Below w.heap.size w v → v.heap[w.heap.size]? = some (.cells A 29) → v.heap[w.heap.size + 1]? = some (.cells Z 29) → RpS w A Z b' F S l 0 0 v := by
 obtain ⟨p, c, rfl, ⟨h1, h2, h3⟩ | ⟨b', cs, h1, h2, h3, h4, h5, h6⟩⟩ := ho
 ·refine ⟨p, c, 0, fun _ _ => False, rfl, .inl ⟨h1, h2, h3⟩, ⟨fun _ _ _ _ h => h.elim, fun _ _ h => h.elim, hS, fun h => absurd h1 h⟩, fun v A Z hb hx hr => ⟨OffN.of hb, hx, hr, fun h => absurd h1 h, fun i hi => ?_, fun i hi => ?_⟩⟩
  ·rw [h1] at hi; exact absurd hi (Nat.not_lt_zero _)
  ·rw [h1] at hi; exact absurd hi (Nat.not_lt_zero _)
 ·obtain ⟨F, f1, f2, f3⟩ := OT_at l b' 0 _ h6
  refine ⟨p, c, b', F, rfl, .inr ⟨h4, h1, h5⟩, ⟨f1, f2, hS, fun _ => ⟨h2, fun hn => hn cs h3⟩⟩, fun v A Z hb hx hr => ⟨OffN.of hb, hx, hr, fun _ => ⟨cs, (hb.block b' (hS b' h2)).trans h3, ?_⟩, fun i hi hij => absurd hij (Nat.not_lt_zero _), fun i hi _ => ?_⟩⟩
  ·have hl : 0 < l.length := List.length_pos_iff.2 h4
   have := (f3 (l.length - 1) (by omega)).2.2.2.2.2.1
   rw [cell_heap h3] at this
   have := (Array.getElem?_eq_some_iff.1 this).1
   omega
  ·have := f3 i hi
   rw [Nat.zero_add] at this
   exact this.keep (fun y hy => hb.block y (hS y (f2 i y hy).1)) fun q _ => World.cell?_of_block (w := w) (a := ⟨b', i * 7 + q, none⟩) (hb.block b' (hS b' h2))
end Go.Proofs.YtmiidhgbdecdkaaGreat
namespace Go.Proofs.YtmiidhgbdecdkaaGreat
set_option linter.unusedVariables false
set_option linter.unusedSimpArgs false
def intL : List Nd → Prop
 | [] => True
 | ⟨k, _, _, i, _, l, _⟩ :: r => (k = 3 → -2147483648 ≤ i ∧ i ≤ 2147483647) ∧ intL l ∧ intL r
def int1 (t : Nd) : Prop := (t.kind = 3 → -2147483648 ≤ t.int_ ∧ t.int_ ≤ 2147483647) ∧ intL t.args
theorem intL_nil : intL [] := by simp [intL]
theorem intL_cons (t : Nd) (r : List Nd) : intL (t :: r) ↔ int1 t ∧ intL r := by cases t; simp [intL, int1, and_assoc]
theorem intL_get {l : List Nd} (h : intL l) {i : Nat} (hi : i < l.length) : int1 l[i] := by
 induction l generalizing i with
 | nil => exact absurd hi (Nat.not_lt_zero _)
 | cons t r ih =>
  rw [intL_cons] at h
  cases i with
  | zero => exact h.1
  | succ i => exact ih h.2 (by simpa using hi)
theorem faultAL_get : ∀ {l : List Nd}, (faultAL l).1 = 0 → ∀ {i : Nat} (hi : i < l.length), (faultA l[i]).1 = 0
 | [], _, i, hi => absurd hi (Nat.not_lt_zero _)
 | t :: r, h, i, hi => by
  rw [faultAL_cons] at h
  by_cases c : (faultA t).1 ≠ 0
  ·rw [if_pos c] at h; exact absurd h c
  ·rw [if_neg c] at h
   cases i with
   | zero => exact Decidable.not_not.1 c
   | succ i => exact faultAL_get h (by simpa using hi)
theorem fault_parts {t : Nd} (h : (faultA t).1 = 0) : (errA t).1 = 0 ∧ (faultAL t.args).1 = 0 := by
 unfold faultA at h
 by_cases c : (errA t).1 ≠ 0
 ·rw [if_pos c] at h; exact absurd h c
 ·rw [if_neg c] at h
  exact ⟨Decidable.not_not.1 c, h⟩
theorem rateA_call (a : Int) (r : Nd) : (rateA a r).kind = 1 ∧ (rateA a r).num = 0 := by rw [rate_made]; exact ⟨rfl, rfl⟩
theorem bec_ind (P : Nd → Prop) (a : Int) (h1 : ∀ r, P (rateA a r)) (h2 : ∀ nm l, P (madeN a nm l)) (nm : ByteArray) (l : List Nd) : P (becA nm a l) := by
 have hi : ∀ {c : Prop} [Decidable c] {x y : Nd}, P x → P y → P (if c then x else y) := fun {c} _ {x y} hx hy => by
  by_cases h : c
  ·rw [if_pos h]; exact hx
  ·rw [if_neg h]; exact hy
 unfold becA
 refine hi (h1 _) ?_
 iterate 15 (refine hi (h2 _ _) ?_)
 exact h2 _ _
theorem becA_call (nm : ByteArray) (a : Int) (l : List Nd) : (becA nm a l).kind = 1 ∧ (becA nm a l).num = 0 :=
 bec_ind (fun t => t.kind = 1 ∧ t.num = 0) a (rateA_call a) (fun _ _ => ⟨rfl, rfl⟩) nm l
theorem whole_key (t : Nd) : (wholeN t).key = t.key := by
 unfold wholeN oneA
 cases findA t with
 | none => rfl
 | some r => rfl
theorem whole_num {t : Nd} (h : okR t) : okR (wholeN t) := by
 unfold wholeN oneA
 cases findA t with
 | none => exact h
 | some r =>
  refine ⟨?_, fun hk => ?_⟩
  ·show 0 ≤ (becA _ _ _).num ∧ (becA _ _ _).num < _
   rw [(becA_call _ _ _).2]; decide
  ·have hk : (becA _ _ _).kind = 3 := hk
   rw [(becA_call _ _ _).1] at hk
   exact absurd hk (by decide)
theorem givenL_keys (r : Rw) : ∀ (l l' : List Nd) (next : Nat) (keyed : Bool) (taken tk : List Nat), l'.map (fun x => x.key) = l.map (fun x => x.key) → givenL r l next keyed taken = .ok tk → givenL r l' next keyed taken = .ok tk
 | [], [], next, keyed, taken, tk, _, h => h
 | [], y :: l', next, keyed, taken, tk, hk, _ => by simp at hk
 | x :: l, [], next, keyed, taken, tk, hk, _ => by simp at hk
 | x :: l, y :: l', next, keyed, taken, tk, hk, h => by
  simp only [List.map_cons, List.cons.injEq] at hk
  obtain ⟨h1, h2⟩ := hk
  have eqx : ∀ (x : Nd) (l : List Nd), givenL r (x :: l) next keyed taken = if x.key.size != 0 then (match placeI r.args x.key with | none => .error (132, x.at_) | some k => if taken.contains k then .error (132, x.at_) else givenL r l next true (taken ++ [k])) else if keyed then .error (132, x.at_) else if r.args.length ≤ next then .error (131, x.at_) else givenL r l (next + 1) false (taken ++ [next]) := fun x l => by cases x; rfl
  rw [eqx] at h ⊢
  rw [h1]
  by_cases c1 : (x.key.size != 0) = true
  ·rw [if_pos c1] at h ⊢
   cases hp : placeI r.args x.key with
   | none => rw [hp] at h; cases h
   | some k =>
    rw [hp] at h
    simp only at h ⊢
    by_cases c2 : taken.contains k = true
    ·rw [if_pos c2] at h; cases h
    ·rw [if_neg c2] at h ⊢
     exact givenL_keys r l l' _ _ _ _ h2 h
  ·rw [if_neg c1] at h ⊢
   by_cases c2 : keyed = true
   ·rw [if_pos c2] at h; cases h
   ·rw [if_neg c2] at h ⊢
    by_cases c3 : r.args.length ≤ next
    ·rw [if_pos c3] at h; cases h
    ·rw [if_neg c3] at h ⊢
     exact givenL_keys r l l' _ _ _ _ h2 h
theorem givenP_keys {r : Rw} {t : Nd} {l' : List Nd} {tk : List Nat} (hk : l'.map (fun x => x.key) = t.args.map (fun x => x.key)) (h : givenP r t = .ok tk) : givenP r (argsN t l') = .ok tk := by
 unfold givenP at h ⊢
 cases hg : givenL r t.args 0 false [] with
 | error e => rw [hg] at h; cases h
 | ok l =>
  rw [hg] at h
  have : givenL r (argsN t l').args 0 false [] = .ok l := givenL_keys r _ _ _ _ _ _ hk hg
  rw [this]
  simp only at h ⊢
  by_cases c : l.contains 0 = true
  ·rw [if_pos c] at h ⊢; exact h
  ·rw [if_neg c] at h; cases h
theorem whole_keys (l : List Nd) : (wholeL l).map (fun x => x.key) = l.map (fun x => x.key) := by
 rw [wholeL_map, List.map_map]
 exact List.map_congr_left fun x _ => whole_key x
theorem found_facts {t : Nd} {en : Rent} (he : (errA t).1 = 0) (hfe : findE t = some en) {l' : List Nd} (hk : l'.map (fun x => x.key) = t.args.map (fun x => x.key)) :
  ∃ r g lst, (r, en) ∈ orderA.zip allE ∧ giveP en.2.1 (argsN t l') = .ok g ∧ lst.length = r.args.length ∧ (∀ k nm, r.args[k]? = some nm → partsL t.at_ en.2.1 g nm = some (ix lst k)) ∧ (∃ x ∈ l', ix lst 0 = keyN x ⟨#[]⟩) ∧ oneA t l' = keyN (becA r.name t.at_ lst) t.key := by
 rcases find_both t with ⟨h1, -⟩ | ⟨p, hp, h1, h2, h3, -⟩
 ·rw [hfe] at h1; cases h1
 ·rw [hfe] at h1
  cases h1
  have hfine := fine_all hp
  cases hg : givenP p.1 t with
  | error e =>
   exfalso
   rcases giveP_eq hfine t with ⟨e', g1, g2⟩ | ⟨g, tk, nx, kd, g1, g2, -⟩
   ·rw [hg] at g2
    cases g2
    obtain ⟨e1, e2⟩ := e
    have hne := giveP_ne g1
    unfold errA at he
    rw [h2] at he
    simp only [hg] at he
    exact hne he
   ·rw [hg] at g2; cases g2
  | ok tk =>
   have hg' := givenP_keys hk hg
   rcases giveP_eq hfine (argsN t l') with ⟨e', g1, g2⟩ | ⟨g, tk', nx, kd, g1, g2, hgr⟩
   ·rw [hg'] at g2; cases g2
   ·rw [hg'] at g2
    cases g2
    have hgr : GR p.1 l' g nx kd tk := hgr
    refine ⟨p.1, g, fillA tk l' (p.1.vals.map fun v => placeN v t.at_), hp, g1, ?_, fun k nm hn => parts_fill hfine hgr t.at_ hn, ?_, ?_⟩
    ·rw [fill_len, List.length_map, ← hfine.names, ← hfine.vals]; simp
    ·have h0 : 0 ∈ tk := by
      unfold givenP at hg
      cases hl : givenL p.1 t.args 0 false [] with
      | error e => rw [hl] at hg; cases hg
      | ok l =>
       rw [hl] at hg
       simp only at hg
       by_cases c : l.contains 0 = true
       ·rw [if_pos c] at hg
        cases hg
        exact List.contains_iff_mem.1 c
       ·rw [if_neg c] at hg; cases hg
     obtain ⟨i, hi, hi0⟩ := List.getElem_of_mem h0
     have hil : i < l'.length := by rw [← hgr.len]; exact hi
     refine ⟨l'[i], List.getElem_mem hil, ?_⟩
     have := fill_at tk l' (p.1.vals.map fun v => placeN v t.at_) i hi hil hgr.nd (by rw [List.length_map, ← hfine.vals, List.length_map]; have := hgr.lt _ (List.getElem_mem hi); rw [← hfine.names, List.length_map] at this; exact this)
     rw [hi0] at this
     unfold ix
     rw [List.getD_eq_getElem?_getD, this]
     rfl
    ·unfold oneA
     rw [h2]
     simp only [hg]
     rw [h3]
end Go.Proofs.YtmiidhgbdecdkaaGreat
