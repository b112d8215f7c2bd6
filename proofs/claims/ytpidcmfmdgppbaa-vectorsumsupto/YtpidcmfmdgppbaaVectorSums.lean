import Derived.Test.YtpidcmfmdgppbaaVecSure
/- The statement VectorSums: its walk. -/
namespace Go.Proofs.Ytpidcmfmdgppbaa
open Go.RowKit
set_option linter.unusedVariables false

set_option maxRecDepth 100000 in
set_option maxHeartbeats 4000000 in
theorem walk_VectorSums (p : Option Addr) (n c : Nat) (X : Nat → Int) (hX : ∀ i, IsP (X i)) (hn : n ≤ 1048576) (q : Option Addr) (m c' : Nat) (Y : Nat → Int) (hY : ∀ i, IsP (Y i)) (hm : m ≤ 1048576) (w : World) (hp : Reads w p n (fun i => .int .u32 (X i))) (hq : Reads w q m (fun i => .int .u32 (Y i))) :
    Calls Try.prog 4 #[.slice p n c, .slice q m c'] w fun e w' => e = .returned (.bool true) ∧ Below w.heap.size w w' := by
  have HP : Hid (Reads w p n (fun i => .int .u32 (X i)) ∧ Reads w q m (fun i => .int .u32 (Y i)) ∧ (∀ i, IsP (X i)) ∧ ∀ i, IsP (Y i)) := ⟨hp, hq, hX, hY⟩
  have b1 := isP_sum X n hX
  have b2 := isP_dot X X n
  have b3 := isP_dot X Y n
  have b4 : IsP (fmean X n) := isP_div _ _
  have l1 := b1.1; have l2 := b1.2; have l3 := b2.1; have l4 := b2.2; have l5 := b3.1; have l6 := b3.2; have l7 := b4.1; have l8 := b4.2
  clear hp hq hX hY b1 b2 b3 b4
  by_cases hnm : n = m
  · subst hnm
    go_enter Try.func4, Try.ntmps4
    go_wp2_with (first
      | (go_at_call 16; refine (dot_same _ _ _ _ _ X Y HP.out.2.2.1 HP.out.2.2.2 hn _ HP.out.1 HP.out.2.1).mono ?_; rintro e w1 ⟨rfl, hb1⟩)
      | (go_at_call_of 18 (Value.slice p n c); refine (ints_any _ _ _ X HP.out.2.2.1 hn w1 (HP.out.1.below hb1)).mono ?_; rintro e w2 ⟨q2, c2, rfl, hR2, -, hb2⟩; have HR2 : Hid (Reads w2 q2 n (fun i => .int .i64 (X i))) := hR2; clear hR2)
      | (go_at_call_of 18 (Value.slice q n c'); refine (ints_any _ _ _ Y HP.out.2.2.2 hn w2 (HP.out.2.1.below (bel hb1 hb2))).mono ?_; rintro e w3 ⟨q3, c3, rfl, hR3, -, hb3⟩; have HR3 : Hid (Reads w3 q3 n (fun i => .int .i64 (Y i)) ∧ Reads w3 q2 n (fun i => .int .i64 (X i))) := ⟨hR3, HR2.out.below hb3⟩; clear hR3)
      | (go_at_call 17; refine (rdot_same _ _ _ _ _ X Y HP.out.2.2.1 HP.out.2.2.2 hn _ HR3.out.2 HR3.out.1).mono ?_; rintro e w4 ⟨rfl, hb4⟩; have HB4 : Below w.heap.size w w4 := bel (bel (bel hb1 hb2) hb3) hb4)
      | (go_at_call 19; refine (sum_any _ _ _ X HP.out.2.2.1 hn _ (HP.out.1.below HB4)).mono ?_; rintro e w5 ⟨rfl, hb5⟩; have HB5 : Below w.heap.size w w5 := bel HB4 hb5)
      | (go_at_call 18; refine (ints_any _ _ _ X HP.out.2.2.1 hn w5 (HP.out.1.below HB5)).mono ?_; rintro e w6 ⟨q6, c6, rfl, hR6, -, hb6⟩; have HR6 : Hid (Reads w6 q6 n (fun i => .int .i64 (X i))) := hR6; clear hR6)
      | (go_at_call 20; refine (vrsum_any _ _ _ X HP.out.2.2.1 hn _ HR6.out).mono ?_; rintro e w7 ⟨rfl, hb7⟩; have HB7 : Below w.heap.size w w7 := bel (bel HB5 hb6) hb7)
      | (go_at_call 21; refine (squares_any _ _ _ X HP.out.2.2.1 hn _ (HP.out.1.below HB7)).mono ?_; rintro e w8 ⟨rfl, hb8⟩; have HB8 : Below w.heap.size w w8 := bel HB7 hb8)
      | (go_at_call 18; refine (ints_any _ _ _ X HP.out.2.2.1 hn w8 (HP.out.1.below HB8)).mono ?_; rintro e w9 ⟨q9, c9, rfl, hR9, -, hb9⟩; have HR9 : Hid (Reads w9 q9 n (fun i => .int .i64 (X i))) := hR9; clear hR9)
      | (go_at_call 22; refine (rsquares_any _ _ _ X HP.out.2.2.1 hn _ HR9.out).mono ?_; rintro e w10 ⟨rfl, hb10⟩; have HB10 : Below w.heap.size w w10 := bel (bel HB8 hb9) hb10)
      | (go_at_call 23; refine (mean_any _ _ _ X HP.out.2.2.1 hn _ (HP.out.1.below HB10)).mono ?_; rintro e w11 ⟨rfl, hb11⟩; have HB11 : Below w.heap.size w w11 := bel HB10 hb11)
      | (go_at_call 18; refine (ints_any _ _ _ X HP.out.2.2.1 hn w11 (HP.out.1.below HB11)).mono ?_; rintro e w12 ⟨q12, c12, rfl, hR12, -, hb12⟩; have HR12 : Hid (Reads w12 q12 n (fun i => .int .i64 (X i))) := hR12; clear hR12)
      | (go_at_call 24; refine (rmean_any _ _ _ X HP.out.2.2.1 hn _ HR12.out).mono ?_; rintro e w13 ⟨rfl, hb13⟩; have HB13 : Below w.heap.size w w13 := bel (bel HB11 hb12) hb13)
      | (go_at_call 15; refine (sure_any _).mono ?_; rintro e w14 ⟨rfl, hb14⟩))
    go_ret
    exact ⟨rfl, bel HB13 hb14⟩
  · have hnm2 : Hid (n ≠ m) := hnm
    clear hnm
    go_enter Try.func4, Try.ntmps4
    go_wp2_with (first
      | (go_at_call 16; refine (dot_other _ _ _ _ _ _ hnm2.out hn hm w).mono ?_; rintro e w1 ⟨rfl, hw1⟩; obtain rfl := hw1.symm)
      | (go_at_call_of 18 (Value.slice p n c); refine (ints_any _ _ _ X HP.out.2.2.1 hn w HP.out.1).mono ?_; rintro e w2 ⟨q2, c2, rfl, hR2, -, hb2⟩; have HR2 : Hid (Reads w2 q2 n (fun i => .int .i64 (X i))) := hR2; clear hR2)
      | (go_at_call_of 18 (Value.slice q m c'); refine (ints_any _ _ _ Y HP.out.2.2.2 hm w2 (HP.out.2.1.below hb2)).mono ?_; rintro e w3 ⟨q3, c3, rfl, hR3, -, hb3⟩; have HB4 : Below w.heap.size w w3 := bel hb2 hb3; clear hR3)
      | (go_at_call 17; refine (rdot_other _ _ _ _ _ _ hnm2.out hn hm w3).mono ?_; rintro e w4 ⟨rfl, hw4⟩; obtain rfl := hw4.symm)
      | (go_at_call 19; refine (sum_any _ _ _ X HP.out.2.2.1 hn _ (HP.out.1.below HB4)).mono ?_; rintro e w5 ⟨rfl, hb5⟩; have HB5 : Below w.heap.size w w5 := bel HB4 hb5)
      | (go_at_call 18; refine (ints_any _ _ _ X HP.out.2.2.1 hn w5 (HP.out.1.below HB5)).mono ?_; rintro e w6 ⟨q6, c6, rfl, hR6, -, hb6⟩; have HR6 : Hid (Reads w6 q6 n (fun i => .int .i64 (X i))) := hR6; clear hR6)
      | (go_at_call 20; refine (vrsum_any _ _ _ X HP.out.2.2.1 hn _ HR6.out).mono ?_; rintro e w7 ⟨rfl, hb7⟩; have HB7 : Below w.heap.size w w7 := bel (bel HB5 hb6) hb7)
      | (go_at_call 21; refine (squares_any _ _ _ X HP.out.2.2.1 hn _ (HP.out.1.below HB7)).mono ?_; rintro e w8 ⟨rfl, hb8⟩; have HB8 : Below w.heap.size w w8 := bel HB7 hb8)
      | (go_at_call 18; refine (ints_any _ _ _ X HP.out.2.2.1 hn w8 (HP.out.1.below HB8)).mono ?_; rintro e w9 ⟨q9, c9, rfl, hR9, -, hb9⟩; have HR9 : Hid (Reads w9 q9 n (fun i => .int .i64 (X i))) := hR9; clear hR9)
      | (go_at_call 22; refine (rsquares_any _ _ _ X HP.out.2.2.1 hn _ HR9.out).mono ?_; rintro e w10 ⟨rfl, hb10⟩; have HB10 : Below w.heap.size w w10 := bel (bel HB8 hb9) hb10)
      | (go_at_call 23; refine (mean_any _ _ _ X HP.out.2.2.1 hn _ (HP.out.1.below HB10)).mono ?_; rintro e w11 ⟨rfl, hb11⟩; have HB11 : Below w.heap.size w w11 := bel HB10 hb11)
      | (go_at_call 18; refine (ints_any _ _ _ X HP.out.2.2.1 hn w11 (HP.out.1.below HB11)).mono ?_; rintro e w12 ⟨q12, c12, rfl, hR12, -, hb12⟩; have HR12 : Hid (Reads w12 q12 n (fun i => .int .i64 (X i))) := hR12; clear hR12)
      | (go_at_call 24; refine (rmean_any _ _ _ X HP.out.2.2.1 hn _ HR12.out).mono ?_; rintro e w13 ⟨rfl, hb13⟩; have HB13 : Below w.heap.size w w13 := bel (bel HB11 hb12) hb13)
      | (go_at_call 15; refine (sure_any _).mono ?_; rintro e w14 ⟨rfl, hb14⟩))
    go_ret
    exact ⟨rfl, bel HB13 hb14⟩

end Go.Proofs.Ytpidcmfmdgppbaa
