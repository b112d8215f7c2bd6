import Derived.Test.YtmiidhgbdecdkaaGreatPart20
import Derived.Test.YtmiidhgbdecdkaaGreatPart8
import Derived.Test.YtmiidhgbdecdkaaGreatPart4
import Derived.Test.YtmiidhgbdecdkaaGreatPart21
namespace Go.Proofs.YtmiidhgbdecdkaaGreat
open Go.RowKit
set_option linter.unusedVariables false
set_option linter.unusedSimpArgs false
def expP (t : Nd) : ExpR :=
 if checkP t ≠ 0 then ⟨noneN, checkP t, t.at_⟩
 else if outE t ≠ 0 then ⟨noneN, outE t, t.at_⟩
 else if (faultA (writtenA t)).1 ≠ 0 then ⟨noneN, (faultA (writtenA t)).1, (faultA (writtenA t)).2⟩
 else if checkP (wholeN (writtenA t)) ≠ 0 then ⟨noneN, checkP (wholeN (writtenA t)), t.at_⟩
 else ⟨wholeN (writtenA t), 0, 0⟩
def ExB (w : World) (TA : Array Value) (v : World) : Prop := Below w.heap.size w v ∧ v.heap[w.heap.size]? = some (.cells TA 29) ∧ v.heap[w.heap.size + 1]? = some (.cells #[.int .i64 0, .string ⟨#[]⟩, .int .u32 0, .int .i64 0, .string ⟨#[]⟩, .slice none 0 0, .int .i64 0] 29)
theorem ExB.below {w v x : World} {TA : Array Value} (h : ExB w TA v) (k : Below v.heap.size v x) : ExB w TA x := ⟨bel h.1 k, (k.block _ (hlt h.2.1)).trans h.2.1, (k.block _ (hlt h.2.2)).trans h.2.2⟩
theorem ExB.off {w v x : World} {TA : Array Value} {S : Blk} (h : ExB w TA v) (k : OffN S v x) (hS : ∀ j, S j → w.heap.size + 1 < j) : ExB w TA x :=
 ⟨OffS.below k h.1 (fun b hb => by have := hlt h.2.1; omega) (fun b hb hh => by have := hS b hh.1; omega), (k.eq (hlt h.2.1) (.inl fun hh => by have := hS _ hh; omega)).trans h.2.1, (k.eq (hlt h.2.2) (.inl fun hh => by have := hS _ hh; omega)).trans h.2.2⟩
theorem ExB.set {w v x : World} {TA : Array Value} {O : Nat} (h : ExB w TA v) (k : Off O v x) (hO : w.heap.size + 1 < O) : ExB w TA x :=
 ⟨k.below h.1 (by omega), (k.2.2.2.2 _ (by omega)).trans h.2.1, (k.2.2.2.2 _ (by omega)).trans h.2.2⟩
set_option maxRecDepth 100000 in
set_option maxHeartbeats 4000000 in
theorem expand_any (t : Nd) (sv : Value) (w : World) (hc : cnt t ≤ 40000) (hok : ok1 t) (hk : Kids w anyH sv t.args) :
  Calls Tryz.prog 10 #[nv t sv] w fun e w' => ∃ sv', e = .returned (.tuple #[nv (expP t).tree sv', .int .i64 (expP t).err, .int .i64 (expP t).place]) ∧ Kids w' (inH (fun j => w.heap.size ≤ j)) sv' (expP t).tree.args ∧ Below w.heap.size w w' := by
 obtain ⟨EX, hEX⟩ : ∃ E, expP t = E := ⟨_, rfl⟩
 rw [hEX]
 unfold expP at hEX
 have HCK : Hid (∀ x, Below w.heap.size w x → Calls Tryz.prog 18 #[nv t sv] x fun e w' => e = .returned (.int .i64 (checkP t)) ∧ Below x.heap.size x w') := fun x k => check_any t sv x (by omega) hok (hk.below k)
 obtain ⟨p0, c0, rfl, hq0, hk0⟩ := id hk
 obtain ⟨n0, hn0⟩ : ∃ n, t.args.length = n := ⟨_, rfl⟩
 have HKD : Hid (Kids w anyH (.slice p0 t.args.length c0) t.args) := hk
 rw [hn0] at HCK HKD ⊢
 obtain ⟨W, hW⟩ : ∃ W, w.alloc (.cells #[.int .i64 t.kind, .string t.name, .int .u32 t.num, .int .i64 t.int_, .string t.key, .slice p0 n0 c0, .int .i64 t.at_] 29) = W := ⟨_, rfl⟩
 have hbx : Below w.heap.size w W := by rw [← hW]; exact bel_alloc _ _
 have hxx : W.heap[w.heap.size]? = some (.cells #[.int .i64 t.kind, .string t.name, .int .u32 t.num, .int .i64 t.int_, .string t.key, .slice p0 n0 c0, .int .i64 t.at_] 29) := by rw [← hW]; exact box_heapA _ _
 have hsz : W.heap.size = w.heap.size + 1 := by rw [← hW]; simp
 obtain ⟨W1, hW1, hX1, hB1, -⟩ := new_box W
 rw [hsz] at hX1
 have HST : Hid (ExB w #[.int .i64 t.kind, .string t.name, .int .u32 t.num, .int .i64 t.int_, .string t.key, .slice p0 n0 c0, .int .i64 t.at_] W1) := ⟨bel hbx hB1, (hB1.block _ (hlt hxx)).trans hxx, hX1⟩
 have HNB : Hid (∀ v, ExB w #[.int .i64 t.kind, .string t.name, .int .u32 t.num, .int .i64 t.int_, .string t.key, .slice p0 n0 c0, .int .i64 t.at_] v → NodeA v anyH w.heap.size 0 t) := fun v hv => by
  obtain ⟨⟨m0, m1, m2, m3, m4, m5, m6⟩, -⟩ := sevenA hv.2.1
  exact ⟨m0, m1, m2, m3, m4, m6, _, m5, HKD.out.below hv.1⟩
 unfold nv at HCK ⊢
 have HSB : Hid (Below w.heap.size w W1) := HST.out.1
 obtain ⟨⟨s0, s1, s2, s3, s4, s5, s6⟩, -⟩ := sevenA HST.out.2.1
 clear hk hq0 hk0 hn0 hbx hxx hX1 hB1
 by_cases hck : checkP t = 0
 ·rw [if_neg (fun h => h hck)] at hEX
  rw [hck] at HCK
  obtain ⟨hd, hc4, hlo, hi1⟩ := check_facts hck
  have HWO : Hid (∀ v, ExB w #[.int .i64 t.kind, .string t.name, .int .u32 t.num, .int .i64 t.int_, .string t.key, .slice p0 n0 c0, .int .i64 t.at_] v → Calls Tryz.prog 19 #[.pointer (some ⟨w.heap.size, 0, none⟩)] v fun e w' => Below v.heap.size v w' ∧ ((outE t ≠ 0 ∧ e = .returned (.tuple #[nv noneN (.slice none 0 0), .int .i64 (outE t)])) ∨ (outE t = 0 ∧ ∃ sv S, e = .returned (.tuple #[nv (writtenA t) sv, .int .i64 0]) ∧ Ow w' sv (writtenA t).args S ∧ ∀ j, S j → v.heap.size ≤ j ∧ j < w'.heap.size))) := fun v hv => out_any t w.heap.size 0 v (by omega) hd hlo hok (HNB.out v hv)
  have hokW := written_ok hok
  have hinW := written_int hi1
  by_cases hoe : outE t = 0
  ·rw [if_neg (fun h => h hoe)] at hEX
   have hcw : cnt (writtenA t) ≤ 4096 := by
    unfold outE at hoe
    by_cases h1 : 64 < dep (writtenA t)
    ·rw [if_pos h1] at hoe; exact absurd hoe (by decide)
    ·rw [if_neg h1] at hoe
     by_cases h2 : 4096 < cnt (writtenA t)
     ·rw [if_pos h2] at hoe; exact absurd hoe (by decide)
     ·omega
   have HWE : Hid (∀ v, ExB w #[.int .i64 t.kind, .string t.name, .int .u32 t.num, .int .i64 t.int_, .string t.key, .slice p0 n0 c0, .int .i64 t.at_] v → Calls Tryz.prog 19 #[.pointer (some ⟨w.heap.size, 0, none⟩)] v fun e w' => Below v.heap.size v w' ∧ ∃ p S c, e = .returned (.tuple #[.agg #[.int .i64 (writtenA t).kind, .string (writtenA t).name, .int .u32 (writtenA t).num, .int .i64 (writtenA t).int_, .string (writtenA t).key, .slice p (writtenA t).args.length c, .int .i64 (writtenA t).at_], .int .i64 0]) ∧ Ow w' (.slice p (writtenA t).args.length c) (writtenA t).args S ∧ ∀ j, S j → v.heap.size ≤ j ∧ j < w'.heap.size) := fun v hv => (HWO.out v hv).mono fun e w' ⟨h1, h2⟩ => by
    refine ⟨h1, ?_⟩
    rcases h2 with ⟨h3, -⟩ | ⟨-, sv, S, h4, h5, h6⟩
    ·exact absurd hoe h3
    ·obtain ⟨p, c, rfl, -⟩ := id h5
     exact ⟨p, S, c, h4, h5, h6⟩
   obtain ⟨V, hV⟩ : ∃ V, writtenA t = V := ⟨_, rfl⟩
   rw [hV] at hEX hokW hinW hcw HWE
   have HTB : Hid (∀ v, Calls Tryz.prog 15 #[] v fun e w' => ∃ b, e = .returned (.map (some b)) ∧ Tab w' b ∧ v.heap.size ≤ b ∧ Below v.heap.size v w') := fun v => table_any v
   have HFA : Hid (∀ (bt b : Nat) (S : Blk) (v : World), Tab v bt → (∀ j, S j → j < v.heap.size) → NodeA v (inH S) b 0 V → Calls Tryz.prog 20 #[.map (some bt), .pointer (some ⟨b, 0, none⟩)] v fun e w' => e = .returned (.tuple #[.int .i64 (faultA V).1, .int .i64 (faultA V).2]) ∧ Below v.heap.size v w') := fun bt b S v h1 h2 h3 => faultm_to (dep V) bt V b 0 S v (Nat.le_refl _) (by omega) hokW h1 h2 h3
   clear HWO HNB hd hc4 hlo hi1
   by_cases hfa : (faultA V).1 = 0
   ·rw [if_neg (fun h => h hfa)] at hEX
    have HRP : Hid (∀ (bt : Nat) (sv : Value) (S : Blk) (v : World), Tab v bt → (∀ j, S j → j < v.heap.size) → Ow v sv V.args S → Calls Tryz.prog 21 #[.map (some bt), .agg #[.int .i64 V.kind, .string V.name, .int .u32 V.num, .int .i64 V.int_, .string V.key, sv, .int .i64 V.at_]] v fun e w' => ∃ p c, e = .returned (.agg #[.int .i64 (wholeN V).kind, .string (wholeN V).name, .int .u32 (wholeN V).num, .int .i64 (wholeN V).int_, .string (wholeN V).key, .slice p (wholeN V).args.length c, .int .i64 (wholeN V).at_]) ∧ Kids w' (inH (fun j => S j ∨ v.heap.size ≤ j)) (.slice p (wholeN V).args.length c) (wholeN V).args ∧ OffN S v w') := fun bt sv S v h1 h2 h3 => (replm_to (dep V) bt V sv S v (Nat.le_refl _) (by omega) hokW hinW hfa h1 h2 h3).mono fun e w' ⟨sv', g1, g2, g3⟩ => by
     obtain ⟨p, c, rfl, -⟩ := id g2
     exact ⟨p, c, g1, g2, g3⟩
    have HC2 : Hid (∀ (sv : Value) (v : World), Kids v anyH sv (wholeN V).args → Calls Tryz.prog 18 #[.agg #[.int .i64 (wholeN V).kind, .string (wholeN V).name, .int .u32 (wholeN V).num, .int .i64 (wholeN V).int_, .string (wholeN V).key, sv, .int .i64 (wholeN V).at_]] v fun e w' => e = .returned (.int .i64 (checkP (wholeN V))) ∧ Below v.heap.size v w') := fun sv v h => check_any (wholeN V) sv v (by have := whole_cnt V; omega) (whole_ok hokW) h
    obtain ⟨X, hX⟩ : ∃ X, wholeN V = X := ⟨_, rfl⟩
    rw [hX] at hEX HRP HC2
    obtain ⟨CX, hCX⟩ : ∃ C, checkP X = C := ⟨_, rfl⟩
    rw [hCX] at hEX HC2
    obtain ⟨FP, hFP⟩ : ∃ F, (faultA V).2 = F := ⟨_, rfl⟩
    rw [hfa, hFP] at HFA
    have HEX0 := hidM hEX
    clear hEX hokW hinW hcw hoe hck hV hX hCX hfa hFP hc hok HKD
    go_enter Tryz.func10, Tryz.ntmps10
    go_upto_region 5 with (first
     | (go_at_call 18; (with_reducible refine (HCK.out _ HSB.out).mono ?_); rintro e v1 ⟨rfl, hb1⟩; have HE1 : Hid (ExB w #[.int .i64 t.kind, .string t.name, .int .u32 t.num, .int .i64 t.int_, .string t.key, .slice p0 n0 c0, .int .i64 t.at_] v1) := HST.out.below hb1; clear hb1)
     | (go_at_call 19; (with_reducible refine (HWE.out _ HE1.out).mono ?_); rintro e v2 ⟨hb2, p2, S2, c2, rfl, how2, hS2⟩; have HE2 : Hid (ExB w #[.int .i64 t.kind, .string t.name, .int .u32 t.num, .int .i64 t.int_, .string t.key, .slice p0 n0 c0, .int .i64 t.at_] v2) := HE1.out.below hb2; have HOW2 := hidM how2; have HS2 : Hid ((∀ j, S2 j → v1.heap.size ≤ j ∧ j < v2.heap.size) ∧ v1.heap.size ≤ v2.heap.size) := ⟨hS2, hb2.size⟩; clear hb2 how2 hS2; obtain ⟨W3, hW3, hX3, hB3, -⟩ := new_box v2; obtain ⟨⟨q0, q1, q2, q3, q4, q5, q6⟩, r0, r1, r2, r3, r4, r5, r6⟩ := sevenA hX3; have HX3 := hidM hX3; have HB3 := hidM hB3; clear hX3 hB3))
    have hXU := put_sevenA HX3.out (.int .i64 V.kind) (.string V.name) (.int .u32 V.num) (.int .i64 V.int_) (.string V.key) (.slice p2 V.args.length c2) (.int .i64 V.at_)
    have hBU := below_seven HB3.out (.int .i64 V.kind) (.string V.name) (.int .u32 V.num) (.int .i64 V.int_) (.string V.key) (.slice p2 V.args.length c2) (.int .i64 V.at_)
    obtain ⟨U, hU⟩ : ∃ UU, (((((((W3.setCell ⟨v2.heap.size, 0, none⟩ (.int .i64 V.kind)).setCell ⟨v2.heap.size, 1, none⟩ (.string V.name)).setCell ⟨v2.heap.size, 2, none⟩ (.int .u32 V.num)).setCell ⟨v2.heap.size, 3, none⟩ (.int .i64 V.int_)).setCell ⟨v2.heap.size, 4, none⟩ (.string V.key)).setCell ⟨v2.heap.size, 5, none⟩ (.slice p2 V.args.length c2)).setCell ⟨v2.heap.size, 6, none⟩ (.int .i64 V.at_)) = UU := ⟨_, rfl⟩
    rw [hU] at hXU hBU ⊢
    obtain ⟨O, hO⟩ : ∃ O, v2.heap.size = O := ⟨_, rfl⟩
    have HBU2 := hidM hBU
    have HO : Hid (v2.heap.size = O) := hO
    rw [hO] at hXU ⊢
    have HXU := hidM hXU
    have HSO : Hid (∀ j, S2 j → w.heap.size + 1 < j ∧ j ≠ O ∧ j < U.heap.size) := fun j hj => by
     have h1 := HS2.out.1 j hj
     have h2 := hlt HE1.out.2.2
     have h3 := hBU.size
     exact ⟨by omega, by omega, by omega⟩
    have HOWU : Hid (Ow U (.slice p2 V.args.length c2) V.args S2) := HOW2.out.keep fun j hj => hBU.block j (HS2.out.1 j hj).2
    have HEU : Hid (ExB w #[.int .i64 t.kind, .string t.name, .int .u32 t.num, .int .i64 t.int_, .string t.key, .slice p0 n0 c0, .int .i64 t.at_] U) := HE2.out.below hBU
    have HOB : Hid (w.heap.size + 1 < O) := by show _ < _; rw [← hO]; exact hlt HE2.out.2.2
    clear hU hO hXU hBU hW3 hW1 hW hsz q0 q1 q2 q3 q4 q5 q6 r0 r1 r2 r3 r4 r5 r6 s0 s1 s2 s3 s4 s5 s6 HCK HWE HSB
    go_upto_region 11 with (first
     | (go_at_call 15; (with_reducible refine (HTB.out _).mono ?_); rintro e v3 ⟨bt, rfl, ht3, hbt3, hb3⟩; have HT3 := hidM ht3; have HB3U : Hid (Below U.heap.size U v3) := hb3; have HX3U : Hid (v3.heap[O]? = some (.cells #[.int .i64 V.kind, .string V.name, .int .u32 V.num, .int .i64 V.int_, .string V.key, .slice p2 V.args.length c2, .int .i64 V.at_] 29)) := (hb3.block _ (hlt HXU.out)).trans HXU.out; have HOW3 : Hid (Ow v3 (.slice p2 V.args.length c2) V.args S2) := HOWU.out.keep fun j hj => hb3.block j (HSO.out j hj).2.2; have HSS : Hid (∀ j, S2 j → j < v3.heap.size) := (fun j hj => by have := (HSO.out j hj).2.2; have := hb3.size; omega); have HN3 : Hid (NodeA v3 (inH S2) O 0 V) := (by obtain ⟨⟨m0, m1, m2, m3, m4, m5, m6⟩, -⟩ := sevenA HX3U.out; exact ⟨m0, m1, m2, m3, m4, m6, _, m5, HOW3.out.kids⟩); clear ht3 hbt3 hb3)
     | (go_at_call 20; (with_reducible refine (HFA.out _ _ _ _ HT3.out HSS.out HN3.out).mono ?_); rintro e v4 ⟨rfl, hb4⟩; have HB4 := hidM hb4; obtain ⟨⟨m0, m1, m2, m3, m4, m5, m6⟩, -⟩ := sevenA ((hb4.block _ (hlt HX3U.out)).trans HX3U.out); clear hb4))
    have HX4 : Hid (v4.heap[O]? = some (.cells #[.int .i64 V.kind, .string V.name, .int .u32 V.num, .int .i64 V.int_, .string V.key, .slice p2 V.args.length c2, .int .i64 V.at_] 29)) := (HB4.out.block _ (hlt HX3U.out)).trans HX3U.out
    have HOW4 : Hid (Ow v4 (.slice p2 V.args.length c2) V.args S2) := HOW3.out.keep fun j hj => HB4.out.block j (HSS.out j hj)
    have HT4 : Hid (Tab v4 bt) := HT3.out.below HB4.out
    have HS4 : Hid (∀ j, S2 j → j < v4.heap.size) := fun j hj => by have := HSS.out j hj; have := HB4.out.size; omega
    have HE4 : Hid (ExB w #[.int .i64 t.kind, .string t.name, .int .u32 t.num, .int .i64 t.int_, .string t.key, .slice p0 n0 c0, .int .i64 t.at_] v4) := (HEU.out.below HB3U.out).below HB4.out
    clear HTB HFA HN3 HB3U HOW3 HX3U HT3 HSS HB4 HEU HOWU HXU HBU2 HOW2
    go_upto_region 12 with (go_at_call 21; (with_reducible refine (HRP.out _ _ _ _ HT4.out HS4.out HOW4.out).mono ?_); rintro e v5 ⟨p5, c5, rfl, hk5, ho5⟩; have HK5 := hidM hk5; have HE5 : Hid (ExB w #[.int .i64 t.kind, .string t.name, .int .u32 t.num, .int .i64 t.int_, .string t.key, .slice p0 n0 c0, .int .i64 t.at_] v5) := HE4.out.off ho5 (fun j hj => (HSO.out j hj).1); have HX5 : Hid (v5.heap[O]? = some (.cells #[.int .i64 V.kind, .string V.name, .int .u32 V.num, .int .i64 V.int_, .string V.key, .slice p2 V.args.length c2, .int .i64 V.at_] 29)) := (ho5.eq (hlt HX4.out) (.inl fun hj => (HSO.out _ hj).2.1 rfl)).trans HX4.out; have HZ5 : Hid (v4.heap.size ≤ v5.heap.size) := ho5.size; obtain ⟨⟨q0, q1, q2, q3, q4, q5, q6⟩, r0, r1, r2, r3, r4, r5, r6⟩ := sevenA HX5.out; clear hk5 ho5)
    have hX6 := put_sevenA HX5.out (.int .i64 X.kind) (.string X.name) (.int .u32 X.num) (.int .i64 X.int_) (.string X.key) (.slice p5 X.args.length c5) (.int .i64 X.at_)
    have ho6 := off_sevenR v5 O (.int .i64 X.kind) (.string X.name) (.int .u32 X.num) (.int .i64 X.int_) (.string X.key) (.slice p5 X.args.length c5) (.int .i64 X.at_)
    obtain ⟨v6, hv6⟩ : ∃ UU, (((((((v5.setCell ⟨O, 0, none⟩ (.int .i64 X.kind)).setCell ⟨O, 1, none⟩ (.string X.name)).setCell ⟨O, 2, none⟩ (.int .u32 X.num)).setCell ⟨O, 3, none⟩ (.int .i64 X.int_)).setCell ⟨O, 4, none⟩ (.string X.key)).setCell ⟨O, 5, none⟩ (.slice p5 X.args.length c5)).setCell ⟨O, 6, none⟩ (.int .i64 X.at_)) = UU := ⟨_, rfl⟩
    rw [hv6] at hX6 ho6 ⊢
    have HE6 : Hid (ExB w #[.int .i64 t.kind, .string t.name, .int .u32 t.num, .int .i64 t.int_, .string t.key, .slice p0 n0 c0, .int .i64 t.at_] v6) := HE5.out.set ho6 HOB.out
    have HK6 : Hid (Kids v6 (inH (fun j => (S2 j ∨ v4.heap.size ≤ j))) (.slice p5 X.args.length c5) X.args) := HK5.out.inKeep fun j hj => ho6.2.2.2.2 j (by rcases hj with h | h; (· exact (HSO.out j h).2.1); (· have := hlt HX4.out; omega))
    have HX6 := hidM hX6
    clear q0 q1 q2 q3 q4 q5 q6 r0 r1 r2 r3 r4 r5 r6 m0 m1 m2 m3 m4 m5 m6 hv6 hX6 ho6 HK5 HE5 HX5 HRP HT4 HS4 HOW4
    obtain ⟨⟨m0, m1, m2, m3, m4, m5, m6⟩, -⟩ := sevenA HX6.out
    have HC3 : Hid (Calls Tryz.prog 18 #[.agg #[.int .i64 X.kind, .string X.name, .int .u32 X.num, .int .i64 X.int_, .string X.key, .slice p5 X.args.length c5, .int .i64 X.at_]] v6 fun e w' => e = .returned (.int .i64 CX) ∧ Below v6.heap.size v6 w') := HC2.out _ v6 (HK6.out.weak fun _ _ _ _ => trivial)
    by_cases hcx : CX = 0
    ·subst hcx
     have HEX : Hid (EX = ⟨X, 0, 0⟩) := by show _ = _; rw [← HEX0.out]; simp
     clear HEX0 HC2
     go_upto_region 15 with (go_at_call 18; (with_reducible refine HC3.out.mono ?_); rintro e v7 ⟨rfl, hb7⟩; have HB7 := hidM hb7; clear hb7)
     have HE7 := hidM (HE6.out.below HB7.out)
     have HK7 := hidM (HK6.out.below HB7.out)
     clear m0 m1 m2 m3 m4 m5 m6
     obtain ⟨⟨m0, m1, m2, m3, m4, m5, m6⟩, -⟩ := sevenA ((HB7.out.block _ (hlt HX6.out)).trans HX6.out)
     obtain ⟨⟨q0, q1, q2, q3, q4, q5, q6⟩, r0, r1, r2, r3, r4, r5, r6⟩ := sevenA HE7.out.2.2
     go_wp2
     refine bodyPost_ret (by simp [results, Tryz.results10, go_sem, q0, q1, q2, q3, q4, q5, q6, r0, r1, r2, r3, r4, r5, r6]; try rfl) rfl ?_
     have hoR := off_sevenR v7 (w.heap.size + 1) (.int .i64 X.kind) (.string X.name) (.int .u32 X.num) (.int .i64 X.int_) (.string X.key) (.slice p5 X.args.length c5) (.int .i64 X.at_)
     rw [HEX.out]
     refine ⟨.slice p5 X.args.length c5, rfl, ?_, hoR.below HE7.out.1 (Nat.le_succ _)⟩
     have hw4 := hlt HE4.out.2.2
     exact (HK7.out.inKeep fun j hj => hoR.2.2.2.2 j (by rcases hj with h | h; (· have := (HSO.out j h).1; omega); (· omega))).weak (inH.sub (S' := fun j => w.heap.size ≤ j) fun j hj => by rcases hj with h | h; (· have := (HSO.out j h).1; show _ ≤ _; omega); (· show _ ≤ _; omega))
    ·have e1 : (CX == 0) = false := by simpa using hcx
     have HEX : Hid (EX = ⟨noneN, CX, t.at_⟩) := by show _ = _; rw [← HEX0.out]; simp [hcx]
     clear HEX0 HC2
     go_upto_region 14 with (go_at_call 18; (with_reducible refine HC3.out.mono ?_); rintro e v7 ⟨rfl, hb7⟩; have HE7 := hidM (HE6.out.below hb7); clear hb7)
     have x6 := (sevenA HE7.out.2.1).1.2.2.2.2.2.2
     have HRU := hidM HE7.out.2.2
     have HBU := hidM HE7.out.1
     clear m0 m1 m2 m3 m4 m5 m6 HC3 HK6 HE6 HX6
     refine wp_region_held_drew (S := (fun x => x.cell? ⟨w.heap.size, 6, none⟩ = some (.int .i64 t.at_))) (by kernel_rfl) ?_ (fun hHeld => ?_)
     ·((try dsimp only); first | assumption | (with_reducible exact x6) | (with_reducible exact n6d))
     refine wpAnyH_take (i := 0) (v := ?_) (by simp only [List.getElem?_toArray, List.getElem?_cons_succ, List.getElem?_cons_zero]; rfl) (by kernel_rfl) (by kernel_rfl) (by kernel_rfl) (by exact fun _ _ _ h => h) (Or.inl ⟨by rfl, ?_⟩) (by assumption) ?_
     rotate_left 1
     ·(intro wS hSw; (try dsimp only at hSw); go_simp; try (with_reducible rfl))
     try simp only [Act.put, List.setIfInBounds_toArray, List.set_cons_zero, List.set_cons_succ]
     refine wpAnyH_take (i := 1) (v := ?_) (by simp only [List.getElem?_toArray, List.getElem?_cons_succ, List.getElem?_cons_zero]; rfl) (by kernel_rfl) (by kernel_rfl) (by kernel_rfl) (by exact fun _ _ _ h => h) (Or.inl ⟨by rfl, ?_⟩) (by assumption) ?_
     rotate_left 1
     ·(intro wS hSw; (try dsimp only at hSw); go_simp; try (with_reducible rfl))
     try simp only [Act.put, List.setIfInBounds_toArray, List.set_cons_zero, List.set_cons_succ]
     refine wpAnyH_take (i := 2) (v := ?_) (by simp only [List.getElem?_toArray, List.getElem?_cons_succ, List.getElem?_cons_zero]; rfl) (by kernel_rfl) (by kernel_rfl) (by kernel_rfl) (by exact fun _ _ _ h => h) (Or.inl ⟨by rfl, ?_⟩) (by assumption) ?_
     rotate_left 1
     ·(intro wS hSw; (try dsimp only at hSw); go_simp; try (with_reducible rfl))
     try simp only [Act.put, List.setIfInBounds_toArray, List.set_cons_zero, List.set_cons_succ]
     refine wpAnyH_take (i := 3) (v := ?_) (by simp only [List.getElem?_toArray, List.getElem?_cons_succ, List.getElem?_cons_zero]; rfl) (by kernel_rfl) (by kernel_rfl) (by kernel_rfl) (by exact fun _ _ _ h => h) (Or.inl ⟨by rfl, ?_⟩) (by assumption) ?_
     rotate_left 1
     ·(intro wS hSw; (try dsimp only at hSw); go_simp; try (with_reducible rfl))
     try simp only [Act.put, List.setIfInBounds_toArray, List.set_cons_zero, List.set_cons_succ]
     clear hHeld
     refine wpAnyH_ready (rs := [4]) (by kernel_rfl) (by simp) ?_
     refine AllReadyH.cons (i := 4) (by simp only [List.getElem?_toArray, List.getElem?_cons_succ, List.getElem?_cons_zero]; rfl) (fun K hK => ?_) AllReadyH.nil
     obtain ⟨⟨q0, q1, q2, q3, q4, q5, q6⟩, r0, r1, r2, r3, r4, r5, r6⟩ := sevenA HRU.out
     go_simp
     have hXE := put_sevenA HRU.out (.int .i64 0) (.string ⟨#[]⟩) (.int .u32 0) (.int .i64 0) (.string ⟨#[]⟩) (.slice none 0 0) (.int .i64 0)
     have hoE := off_sevenR v7 (w.heap.size + 1) (.int .i64 0) (.string ⟨#[]⟩) (.int .u32 0) (.int .i64 0) (.string ⟨#[]⟩) (.slice none 0 0) (.int .i64 0)
     have hBE := bel (hoE.below HBU.out (Nat.le_succ _)) (bel_d _)
     have n6 := (World.cell?_of_block (w := v7) (a := ⟨w.heap.size, 6, none⟩) (hoE.2.2.2.2 w.heap.size (by omega))).trans x6
     have hXE2 := ((bel_d _).block _ (hlt hXE)).trans hXE
     have n6d := ((bel_d _).cell (mcell_lt n6)).trans n6
     obtain ⟨zE, hzE⟩ : ∃ V, (((((((v7.setCell ⟨w.heap.size + 1, 0, none⟩ (.int .i64 0)).setCell ⟨w.heap.size + 1, 1, none⟩ (.string ⟨#[]⟩)).setCell ⟨w.heap.size + 1, 2, none⟩ (.int .u32 0)).setCell ⟨w.heap.size + 1, 3, none⟩ (.int .i64 0)).setCell ⟨w.heap.size + 1, 4, none⟩ (.string ⟨#[]⟩)).setCell ⟨w.heap.size + 1, 5, none⟩ (.slice none 0 0)).setCell ⟨w.heap.size + 1, 6, none⟩ (.int .i64 0)).drew = V := ⟨_, rfl⟩
     rw [hzE] at hXE2 hBE n6d
     rw [hzE]
     have HBE : Hid (Below w.heap.size w zE) := hBE
     have HXE := hidM hXE2
     clear hzE hXE hXE2 hoE hBE n6 q0 q1 q2 q3 q4 q5 q6 r0 r1 r2 r3 r4 r5 r6
     refine hK.out _ _ ?_ (fun hHeld => ?_)
     ·((try dsimp only); first | assumption | (with_reducible exact x6) | (with_reducible exact n6d))
     clear hK K
     try simp only [Act.put, List.setIfInBounds_toArray, List.set_cons_zero, List.set_cons_succ]
     refine wpAnyH_take (i := 5) (v := ?_) (by simp only [List.getElem?_toArray, List.getElem?_cons_succ, List.getElem?_cons_zero]; rfl) (by kernel_rfl) (by kernel_rfl) (by kernel_rfl) (by exact fun _ _ _ h => h) (Or.inl ⟨by rfl, ?_⟩) (by assumption) ?_
     rotate_left 1
     ·(intro wS hSw; (try dsimp only at hSw); go_simp; try (with_reducible rfl))
     try simp only [Act.put, List.setIfInBounds_toArray, List.set_cons_zero, List.set_cons_succ]
     refine wpAnyH_take (i := 6) (v := ?_) (by simp only [List.getElem?_toArray, List.getElem?_cons_succ, List.getElem?_cons_zero]; rfl) (by kernel_rfl) (by kernel_rfl) (by kernel_rfl) (by exact fun _ _ _ h => h) (Or.inl ⟨by rfl, ?_⟩) (by assumption) ?_
     rotate_left 1
     ·(intro wS hSw; (try dsimp only at hSw); go_simp; try (with_reducible rfl))
     try simp only [Act.put, List.setIfInBounds_toArray, List.set_cons_zero, List.set_cons_succ]
     refine wpAnyH_done (by kernel_rfl) ?_ _
     skip
     obtain ⟨⟨q0, q1, q2, q3, q4, q5, q6⟩, r0, r1, r2, r3, r4, r5, r6⟩ := sevenA HXE.out
     go_wp2
     refine bodyPost_ret (by simp [results, Tryz.results10, go_sem, q0, q1, q2, q3, q4, q5, q6, r0, r1, r2, r3, r4, r5, r6]; try rfl) rfl ?_
     rw [HEX.out]
     exact ⟨.slice none 0 0, rfl, kids_none _ _, HBE.out⟩
   ·have e1 : ((faultA V).1 == 0) = false := by simpa using hfa
    have HEX : Hid (EX = ⟨noneN, (faultA V).1, (faultA V).2⟩) := by show _ = _; rw [← hEX, if_pos hfa]
    obtain ⟨FE, hFE⟩ : ∃ F, (faultA V).1 = F := ⟨_, rfl⟩
    obtain ⟨FP, hFP⟩ : ∃ F, (faultA V).2 = F := ⟨_, rfl⟩
    rw [hFE, hFP] at HFA HEX
    rw [hFE] at e1
    clear hEX hokW hinW hcw hoe hck hV hfa hFE hFP hc hok HKD
    go_enter Tryz.func10, Tryz.ntmps10
    go_upto_region 5 with (first
     | (go_at_call 18; (with_reducible refine (HCK.out _ HSB.out).mono ?_); rintro e v1 ⟨rfl, hb1⟩; have HE1 : Hid (ExB w #[.int .i64 t.kind, .string t.name, .int .u32 t.num, .int .i64 t.int_, .string t.key, .slice p0 n0 c0, .int .i64 t.at_] v1) := HST.out.below hb1; clear hb1)
     | (go_at_call 19; (with_reducible refine (HWE.out _ HE1.out).mono ?_); rintro e v2 ⟨hb2, p2, S2, c2, rfl, how2, hS2⟩; have HE2 : Hid (ExB w #[.int .i64 t.kind, .string t.name, .int .u32 t.num, .int .i64 t.int_, .string t.key, .slice p0 n0 c0, .int .i64 t.at_] v2) := HE1.out.below hb2; have HOW2 := hidM how2; have HS2 : Hid ((∀ j, S2 j → v1.heap.size ≤ j ∧ j < v2.heap.size) ∧ v1.heap.size ≤ v2.heap.size) := ⟨hS2, hb2.size⟩; clear hb2 how2 hS2; obtain ⟨W3, hW3, hX3, hB3, -⟩ := new_box v2; obtain ⟨⟨q0, q1, q2, q3, q4, q5, q6⟩, r0, r1, r2, r3, r4, r5, r6⟩ := sevenA hX3; have HX3 := hidM hX3; have HB3 := hidM hB3; clear hX3 hB3))
    have hXU := put_sevenA HX3.out (.int .i64 V.kind) (.string V.name) (.int .u32 V.num) (.int .i64 V.int_) (.string V.key) (.slice p2 V.args.length c2) (.int .i64 V.at_)
    have hBU := below_seven HB3.out (.int .i64 V.kind) (.string V.name) (.int .u32 V.num) (.int .i64 V.int_) (.string V.key) (.slice p2 V.args.length c2) (.int .i64 V.at_)
    obtain ⟨U, hU⟩ : ∃ UU, (((((((W3.setCell ⟨v2.heap.size, 0, none⟩ (.int .i64 V.kind)).setCell ⟨v2.heap.size, 1, none⟩ (.string V.name)).setCell ⟨v2.heap.size, 2, none⟩ (.int .u32 V.num)).setCell ⟨v2.heap.size, 3, none⟩ (.int .i64 V.int_)).setCell ⟨v2.heap.size, 4, none⟩ (.string V.key)).setCell ⟨v2.heap.size, 5, none⟩ (.slice p2 V.args.length c2)).setCell ⟨v2.heap.size, 6, none⟩ (.int .i64 V.at_)) = UU := ⟨_, rfl⟩
    rw [hU] at hXU hBU ⊢
    obtain ⟨O, hO⟩ : ∃ O, v2.heap.size = O := ⟨_, rfl⟩
    have HEU : Hid (ExB w #[.int .i64 t.kind, .string t.name, .int .u32 t.num, .int .i64 t.int_, .string t.key, .slice p0 n0 c0, .int .i64 t.at_] U) := HE2.out.below hBU
    rw [hO] at hXU ⊢
    have HXU := hidM hXU
    have HSU : Hid (∀ j, S2 j → j < U.heap.size) := fun j hj => by have := (HS2.out.1 j hj).2; have := hBU.size; omega
    have HNU : Hid (NodeA U (inH S2) O 0 V) := by
     obtain ⟨⟨m0, m1, m2, m3, m4, m5, m6⟩, -⟩ := sevenA hXU
     exact ⟨m0, m1, m2, m3, m4, m6, _, m5, (HOW2.out.keep fun j hj => hBU.block j (HS2.out.1 j hj).2).kids⟩
    clear hU hO hXU hBU hW3 hW1 hW hsz q0 q1 q2 q3 q4 q5 q6 r0 r1 r2 r3 r4 r5 r6 s0 s1 s2 s3 s4 s5 s6 HCK HWE HSB
    go_upto_region 10 with (first
     | (go_at_call 15; (with_reducible refine (HTB.out _).mono ?_); rintro e v3 ⟨bt, rfl, ht3, hbt3, hb3⟩; have HT3 := hidM ht3; have HE3 : Hid (ExB w #[.int .i64 t.kind, .string t.name, .int .u32 t.num, .int .i64 t.int_, .string t.key, .slice p0 n0 c0, .int .i64 t.at_] v3) := HEU.out.below hb3; have HSS : Hid (∀ j, S2 j → j < v3.heap.size) := (fun j hj => by have := HSU.out j hj; have := hb3.size; omega); have HN3 : Hid (NodeA v3 (inH S2) O 0 V) := HNU.out.below hb3; clear ht3 hbt3 hb3)
     | (go_at_call 20; (with_reducible refine (HFA.out _ _ _ _ HT3.out HSS.out HN3.out).mono ?_); rintro e v4 ⟨rfl, hb4⟩; have HE4 := hidM (HE3.out.below hb4); obtain ⟨⟨q0, q1, q2, q3, q4, q5, q6⟩, r0, r1, r2, r3, r4, r5, r6⟩ := sevenA HE4.out.2.2; clear hb4))
    go_wp2
    refine bodyPost_ret (by simp [results, Tryz.results10, go_sem, q0, q1, q2, q3, q4, q5, q6, r0, r1, r2, r3, r4, r5, r6]; try rfl) rfl ?_
    rw [HEX.out]
    exact ⟨.slice none 0 0, rfl, kids_none _ _, (off_sevenR v4 (w.heap.size + 1) (.int .i64 0) (.string ⟨#[]⟩) (.int .u32 0) (.int .i64 0) (.string ⟨#[]⟩) (.slice none 0 0) (.int .i64 0)).below HE4.out.1 (Nat.le_succ _)⟩
  ·obtain ⟨OE, hOE⟩ : ∃ O, outE t = O := ⟨_, rfl⟩
   rw [hOE] at hoe hEX HWO
   have e1 : (OE == 0) = false := by simpa using hoe
   have HEX : Hid (EX = ⟨noneN, OE, t.at_⟩) := by show _ = _; rw [← hEX, if_pos hoe]
   have HWE : Hid (∀ v, ExB w #[.int .i64 t.kind, .string t.name, .int .u32 t.num, .int .i64 t.int_, .string t.key, .slice p0 n0 c0, .int .i64 t.at_] v → Calls Tryz.prog 19 #[.pointer (some ⟨w.heap.size, 0, none⟩)] v fun e w' => Below v.heap.size v w' ∧ e = .returned (.tuple #[.agg #[.int .i64 0, .string ⟨#[]⟩, .int .u32 0, .int .i64 0, .string ⟨#[]⟩, .slice none 0 0, .int .i64 0], .int .i64 OE])) := fun v hv => (HWO.out v hv).mono fun e w' ⟨h1, h2⟩ => by
    refine ⟨h1, ?_⟩
    rcases h2 with ⟨-, h3⟩ | ⟨h3, -⟩
    ·exact h3
    ·exact absurd h3 hoe
   clear HWO HNB hEX hoe hOE hck hd hc4 hlo hi1 hokW hinW hc hok HKD
   go_enter Tryz.func10, Tryz.ntmps10
   go_upto_region 6 with (first
    | (go_at_call 18; (with_reducible refine (HCK.out _ HSB.out).mono ?_); rintro e v1 ⟨rfl, hb1⟩; have HE1 : Hid (ExB w #[.int .i64 t.kind, .string t.name, .int .u32 t.num, .int .i64 t.int_, .string t.key, .slice p0 n0 c0, .int .i64 t.at_] v1) := HST.out.below hb1; clear hb1)
    | (go_at_call 19; (with_reducible refine (HWE.out _ HE1.out).mono ?_); rintro e v2 ⟨hb2, rfl⟩; have HE2 : Hid (ExB w #[.int .i64 t.kind, .string t.name, .int .u32 t.num, .int .i64 t.int_, .string t.key, .slice p0 n0 c0, .int .i64 t.at_] v2) := HE1.out.below hb2; clear hb2; obtain ⟨W3, hW3, hX3, hB3, -⟩ := new_box v2; obtain ⟨⟨q0, q1, q2, q3, q4, q5, q6⟩, r0, r1, r2, r3, r4, r5, r6⟩ := sevenA hX3; have HB3 := hidM hB3; clear hX3 hB3))
   have hBU := below_seven HB3.out (.int .i64 0) (.string ⟨#[]⟩) (.int .u32 0) (.int .i64 0) (.string ⟨#[]⟩) (.slice none 0 0) (.int .i64 0)
   obtain ⟨U, hU⟩ : ∃ UU, (((((((W3.setCell ⟨v2.heap.size, 0, none⟩ (.int .i64 0)).setCell ⟨v2.heap.size, 1, none⟩ (.string ⟨#[]⟩)).setCell ⟨v2.heap.size, 2, none⟩ (.int .u32 0)).setCell ⟨v2.heap.size, 3, none⟩ (.int .i64 0)).setCell ⟨v2.heap.size, 4, none⟩ (.string ⟨#[]⟩)).setCell ⟨v2.heap.size, 5, none⟩ (.slice none 0 0)).setCell ⟨v2.heap.size, 6, none⟩ (.int .i64 0)) = UU := ⟨_, rfl⟩
   rw [hU] at hBU ⊢
   have hE := HE2.out.below hBU
   have x6 := (sevenA hE.2.1).1.2.2.2.2.2.2
   have HRU := hidM hE.2.2
   have HBU := hidM hE.1
   clear hU hBU hE hW3 hW1 hW hsz q0 q1 q2 q3 q4 q5 q6 r0 r1 r2 r3 r4 r5 r6 s0 s1 s2 s3 s4 s5 s6 HCK HWE HSB HB3
   refine wp_region_held_drew (S := (fun x => x.cell? ⟨w.heap.size, 6, none⟩ = some (.int .i64 t.at_))) (by kernel_rfl) ?_ (fun hHeld => ?_)
   ·((try dsimp only); first | assumption | (with_reducible exact x6) | (with_reducible exact n6d))
   refine wpAnyH_take (i := 0) (v := ?_) (by simp only [List.getElem?_toArray, List.getElem?_cons_succ, List.getElem?_cons_zero]; rfl) (by kernel_rfl) (by kernel_rfl) (by kernel_rfl) (by exact fun _ _ _ h => h) (Or.inl ⟨by rfl, ?_⟩) (by assumption) ?_
   rotate_left 1
   ·(intro wS hSw; (try dsimp only at hSw); go_simp; try (with_reducible rfl))
   try simp only [Act.put, List.setIfInBounds_toArray, List.set_cons_zero, List.set_cons_succ]
   refine wpAnyH_take (i := 1) (v := ?_) (by simp only [List.getElem?_toArray, List.getElem?_cons_succ, List.getElem?_cons_zero]; rfl) (by kernel_rfl) (by kernel_rfl) (by kernel_rfl) (by exact fun _ _ _ h => h) (Or.inl ⟨by rfl, ?_⟩) (by assumption) ?_
   rotate_left 1
   ·(intro wS hSw; (try dsimp only at hSw); go_simp; try (with_reducible rfl))
   try simp only [Act.put, List.setIfInBounds_toArray, List.set_cons_zero, List.set_cons_succ]
   refine wpAnyH_take (i := 2) (v := ?_) (by simp only [List.getElem?_toArray, List.getElem?_cons_succ, List.getElem?_cons_zero]; rfl) (by kernel_rfl) (by kernel_rfl) (by kernel_rfl) (by exact fun _ _ _ h => h) (Or.inl ⟨by rfl, ?_⟩) (by assumption) ?_
   rotate_left 1
   ·(intro wS hSw; (try dsimp only at hSw); go_simp; try (with_reducible rfl))
   try simp only [Act.put, List.setIfInBounds_toArray, List.set_cons_zero, List.set_cons_succ]
   refine wpAnyH_take (i := 3) (v := ?_) (by simp only [List.getElem?_toArray, List.getElem?_cons_succ, List.getElem?_cons_zero]; rfl) (by kernel_rfl) (by kernel_rfl) (by kernel_rfl) (by exact fun _ _ _ h => h) (Or.inl ⟨by rfl, ?_⟩) (by assumption) ?_
   rotate_left 1
   ·(intro wS hSw; (try dsimp only at hSw); go_simp; try (with_reducible rfl))
   try simp only [Act.put, List.setIfInBounds_toArray, List.set_cons_zero, List.set_cons_succ]
   clear hHeld
   refine wpAnyH_ready (rs := [4]) (by kernel_rfl) (by simp) ?_
   refine AllReadyH.cons (i := 4) (by simp only [List.getElem?_toArray, List.getElem?_cons_succ, List.getElem?_cons_zero]; rfl) (fun K hK => ?_) AllReadyH.nil
   obtain ⟨⟨q0, q1, q2, q3, q4, q5, q6⟩, r0, r1, r2, r3, r4, r5, r6⟩ := sevenA HRU.out
   go_simp
   have hXE := put_sevenA HRU.out (.int .i64 0) (.string ⟨#[]⟩) (.int .u32 0) (.int .i64 0) (.string ⟨#[]⟩) (.slice none 0 0) (.int .i64 0)
   have hoE := off_sevenR U (w.heap.size + 1) (.int .i64 0) (.string ⟨#[]⟩) (.int .u32 0) (.int .i64 0) (.string ⟨#[]⟩) (.slice none 0 0) (.int .i64 0)
   have hBE := bel (hoE.below HBU.out (Nat.le_succ _)) (bel_d _)
   have n6 := (World.cell?_of_block (w := U) (a := ⟨w.heap.size, 6, none⟩) (hoE.2.2.2.2 w.heap.size (by omega))).trans x6
   have hXE2 := ((bel_d _).block _ (hlt hXE)).trans hXE
   have n6d := ((bel_d _).cell (mcell_lt n6)).trans n6
   obtain ⟨zE, hzE⟩ : ∃ V, (((((((U.setCell ⟨w.heap.size + 1, 0, none⟩ (.int .i64 0)).setCell ⟨w.heap.size + 1, 1, none⟩ (.string ⟨#[]⟩)).setCell ⟨w.heap.size + 1, 2, none⟩ (.int .u32 0)).setCell ⟨w.heap.size + 1, 3, none⟩ (.int .i64 0)).setCell ⟨w.heap.size + 1, 4, none⟩ (.string ⟨#[]⟩)).setCell ⟨w.heap.size + 1, 5, none⟩ (.slice none 0 0)).setCell ⟨w.heap.size + 1, 6, none⟩ (.int .i64 0)).drew = V := ⟨_, rfl⟩
   rw [hzE] at hXE2 hBE n6d
   rw [hzE]
   have HBE : Hid (Below w.heap.size w zE) := hBE
   have HXE := hidM hXE2
   clear hzE hXE hXE2 hoE hBE n6 q0 q1 q2 q3 q4 q5 q6 r0 r1 r2 r3 r4 r5 r6
   refine hK.out _ _ ?_ (fun hHeld => ?_)
   ·((try dsimp only); first | assumption | (with_reducible exact x6) | (with_reducible exact n6d))
   clear hK K
   try simp only [Act.put, List.setIfInBounds_toArray, List.set_cons_zero, List.set_cons_succ]
   refine wpAnyH_take (i := 5) (v := ?_) (by simp only [List.getElem?_toArray, List.getElem?_cons_succ, List.getElem?_cons_zero]; rfl) (by kernel_rfl) (by kernel_rfl) (by kernel_rfl) (by exact fun _ _ _ h => h) (Or.inl ⟨by rfl, ?_⟩) (by assumption) ?_
   rotate_left 1
   ·(intro wS hSw; (try dsimp only at hSw); go_simp; try (with_reducible rfl))
   try simp only [Act.put, List.setIfInBounds_toArray, List.set_cons_zero, List.set_cons_succ]
   refine wpAnyH_take (i := 6) (v := ?_) (by simp only [List.getElem?_toArray, List.getElem?_cons_succ, List.getElem?_cons_zero]; rfl) (by kernel_rfl) (by kernel_rfl) (by kernel_rfl) (by exact fun _ _ _ h => h) (Or.inl ⟨by rfl, ?_⟩) (by assumption) ?_
   rotate_left 1
   ·(intro wS hSw; (try dsimp only at hSw); go_simp; try (with_reducible rfl))
   try simp only [Act.put, List.setIfInBounds_toArray, List.set_cons_zero, List.set_cons_succ]
   refine wpAnyH_done (by kernel_rfl) ?_ _
   skip
   obtain ⟨⟨q0, q1, q2, q3, q4, q5, q6⟩, r0, r1, r2, r3, r4, r5, r6⟩ := sevenA HXE.out
   go_wp2
   refine bodyPost_ret (by simp [results, Tryz.results10, go_sem, q0, q1, q2, q3, q4, q5, q6, r0, r1, r2, r3, r4, r5, r6]; try rfl) rfl ?_
   rw [HEX.out]
   exact ⟨.slice none 0 0, rfl, kids_none _ _, HBE.out⟩
 ·obtain ⟨CK, hCK⟩ : ∃ C, checkP t = C := ⟨_, rfl⟩
  rw [hCK] at hck hEX HCK
  have e1 : (CK == 0) = false := by simpa using hck
  have HEX : Hid (EX = ⟨noneN, CK, t.at_⟩) := by show _ = _; rw [← hEX, if_pos hck]
  clear hEX hck hCK HNB hc hok HKD
  go_enter Tryz.func10, Tryz.ntmps10
  go_upto_region 3 with (go_at_call 18; (with_reducible refine (HCK.out _ HSB.out).mono ?_); rintro e v1 ⟨rfl, hb1⟩; have HE1 : Hid (ExB w #[.int .i64 t.kind, .string t.name, .int .u32 t.num, .int .i64 t.int_, .string t.key, .slice p0 n0 c0, .int .i64 t.at_] v1) := HST.out.below hb1; clear hb1)
  have x6 := (sevenA HE1.out.2.1).1.2.2.2.2.2.2
  have HRU := hidM HE1.out.2.2
  have HBU := hidM HE1.out.1
  clear hW1 hW hsz s0 s1 s2 s3 s4 s5 s6 HCK HSB HST
  refine wp_region_held_drew (S := (fun x => x.cell? ⟨w.heap.size, 6, none⟩ = some (.int .i64 t.at_))) (by kernel_rfl) ?_ (fun hHeld => ?_)
  ·((try dsimp only); first | assumption | (with_reducible exact x6) | (with_reducible exact n6d))
  refine wpAnyH_take (i := 0) (v := ?_) (by simp only [List.getElem?_toArray, List.getElem?_cons_succ, List.getElem?_cons_zero]; rfl) (by kernel_rfl) (by kernel_rfl) (by kernel_rfl) (by exact fun _ _ _ h => h) (Or.inl ⟨by rfl, ?_⟩) (by assumption) ?_
  rotate_left 1
  ·(intro wS hSw; (try dsimp only at hSw); go_simp; try (with_reducible rfl))
  try simp only [Act.put, List.setIfInBounds_toArray, List.set_cons_zero, List.set_cons_succ]
  refine wpAnyH_take (i := 1) (v := ?_) (by simp only [List.getElem?_toArray, List.getElem?_cons_succ, List.getElem?_cons_zero]; rfl) (by kernel_rfl) (by kernel_rfl) (by kernel_rfl) (by exact fun _ _ _ h => h) (Or.inl ⟨by rfl, ?_⟩) (by assumption) ?_
  rotate_left 1
  ·(intro wS hSw; (try dsimp only at hSw); go_simp; try (with_reducible rfl))
  try simp only [Act.put, List.setIfInBounds_toArray, List.set_cons_zero, List.set_cons_succ]
  refine wpAnyH_take (i := 2) (v := ?_) (by simp only [List.getElem?_toArray, List.getElem?_cons_succ, List.getElem?_cons_zero]; rfl) (by kernel_rfl) (by kernel_rfl) (by kernel_rfl) (by exact fun _ _ _ h => h) (Or.inl ⟨by rfl, ?_⟩) (by assumption) ?_
  rotate_left 1
  ·(intro wS hSw; (try dsimp only at hSw); go_simp; try (with_reducible rfl))
  try simp only [Act.put, List.setIfInBounds_toArray, List.set_cons_zero, List.set_cons_succ]
  refine wpAnyH_take (i := 3) (v := ?_) (by simp only [List.getElem?_toArray, List.getElem?_cons_succ, List.getElem?_cons_zero]; rfl) (by kernel_rfl) (by kernel_rfl) (by kernel_rfl) (by exact fun _ _ _ h => h) (Or.inl ⟨by rfl, ?_⟩) (by assumption) ?_
  rotate_left 1
  ·(intro wS hSw; (try dsimp only at hSw); go_simp; try (with_reducible rfl))
  try simp only [Act.put, List.setIfInBounds_toArray, List.set_cons_zero, List.set_cons_succ]
  clear hHeld
  refine wpAnyH_ready (rs := [4]) (by kernel_rfl) (by simp) ?_
  refine AllReadyH.cons (i := 4) (by simp only [List.getElem?_toArray, List.getElem?_cons_succ, List.getElem?_cons_zero]; rfl) (fun K hK => ?_) AllReadyH.nil
  obtain ⟨⟨q0, q1, q2, q3, q4, q5, q6⟩, r0, r1, r2, r3, r4, r5, r6⟩ := sevenA HRU.out
  go_simp
  have hXE := put_sevenA HRU.out (.int .i64 0) (.string ⟨#[]⟩) (.int .u32 0) (.int .i64 0) (.string ⟨#[]⟩) (.slice none 0 0) (.int .i64 0)
  have hoE := off_sevenR v1 (w.heap.size + 1) (.int .i64 0) (.string ⟨#[]⟩) (.int .u32 0) (.int .i64 0) (.string ⟨#[]⟩) (.slice none 0 0) (.int .i64 0)
  have hBE := bel (hoE.below HBU.out (Nat.le_succ _)) (bel_d _)
  have n6 := (World.cell?_of_block (w := v1) (a := ⟨w.heap.size, 6, none⟩) (hoE.2.2.2.2 w.heap.size (by omega))).trans x6
  have hXE2 := ((bel_d _).block _ (hlt hXE)).trans hXE
  have n6d := ((bel_d _).cell (mcell_lt n6)).trans n6
  obtain ⟨zE, hzE⟩ : ∃ V, (((((((v1.setCell ⟨w.heap.size + 1, 0, none⟩ (.int .i64 0)).setCell ⟨w.heap.size + 1, 1, none⟩ (.string ⟨#[]⟩)).setCell ⟨w.heap.size + 1, 2, none⟩ (.int .u32 0)).setCell ⟨w.heap.size + 1, 3, none⟩ (.int .i64 0)).setCell ⟨w.heap.size + 1, 4, none⟩ (.string ⟨#[]⟩)).setCell ⟨w.heap.size + 1, 5, none⟩ (.slice none 0 0)).setCell ⟨w.heap.size + 1, 6, none⟩ (.int .i64 0)).drew = V := ⟨_, rfl⟩
  rw [hzE] at hXE2 hBE n6d
  rw [hzE]
  have HBE : Hid (Below w.heap.size w zE) := hBE
  have HXE := hidM hXE2
  clear hzE hXE hXE2 hoE hBE n6 q0 q1 q2 q3 q4 q5 q6 r0 r1 r2 r3 r4 r5 r6
  refine hK.out _ _ ?_ (fun hHeld => ?_)
  ·((try dsimp only); first | assumption | (with_reducible exact x6) | (with_reducible exact n6d))
  clear hK K
  try simp only [Act.put, List.setIfInBounds_toArray, List.set_cons_zero, List.set_cons_succ]
  refine wpAnyH_take (i := 5) (v := ?_) (by simp only [List.getElem?_toArray, List.getElem?_cons_succ, List.getElem?_cons_zero]; rfl) (by kernel_rfl) (by kernel_rfl) (by kernel_rfl) (by exact fun _ _ _ h => h) (Or.inl ⟨by rfl, ?_⟩) (by assumption) ?_
  rotate_left 1
  ·(intro wS hSw; (try dsimp only at hSw); go_simp; try (with_reducible rfl))
  try simp only [Act.put, List.setIfInBounds_toArray, List.set_cons_zero, List.set_cons_succ]
  refine wpAnyH_take (i := 6) (v := ?_) (by simp only [List.getElem?_toArray, List.getElem?_cons_succ, List.getElem?_cons_zero]; rfl) (by kernel_rfl) (by kernel_rfl) (by kernel_rfl) (by exact fun _ _ _ h => h) (Or.inl ⟨by rfl, ?_⟩) (by assumption) ?_
  rotate_left 1
  ·(intro wS hSw; (try dsimp only at hSw); go_simp; try (with_reducible rfl))
  try simp only [Act.put, List.setIfInBounds_toArray, List.set_cons_zero, List.set_cons_succ]
  refine wpAnyH_done (by kernel_rfl) ?_ _
  skip
  obtain ⟨⟨q0, q1, q2, q3, q4, q5, q6⟩, r0, r1, r2, r3, r4, r5, r6⟩ := sevenA HXE.out
  go_wp2
  refine bodyPost_ret (by simp [results, Tryz.results10, go_sem, q0, q1, q2, q3, q4, q5, q6, r0, r1, r2, r3, r4, r5, r6]; try rfl) rfl ?_
  rw [HEX.out]
  exact ⟨.slice none 0 0, rfl, kids_none _ _, HBE.out⟩
end Go.Proofs.YtmiidhgbdecdkaaGreat
namespace Go.Proofs.YtmiidhgbdecdkaaGreat
set_option linter.unusedVariables false
set_option linter.unusedSimpArgs false
theorem isEmptyS (s : ByteArray) : s.toList.isEmpty = (s.size == 0) := by
 rw [Bool.eq_iff_iff]
 rw [show s.toList.isEmpty = (s.toList == []) by cases s.toList <;> rfl, key_empty, beq_iff_eq]
 constructor
 ·rintro rfl; rfl
 ·intro h
  cases s with
  | mk d => cases d with
   | mk l => cases l with
    | nil => rfl
    | cons x l => simp [ByteArray.size] at h
theorem key_nil (u : Option Nd) : keyP ⟨#[]⟩ u = true := by
 unfold keyP
 cases u <;> simp [isEmptyS, ByteArray.size]
theorem stands_no {k : Int} (h : k ≠ 6) (u : Option Nd) : standsP k u = true := by
 unfold standsP
 cases u <;> simp [h]
theorem z64 : (⟨#[]⟩ : ByteArray).size ≤ 64 := by decide
theorem jd_call {u : Option Nd} {nm : ByteArray} {l : List Nd} {a : Int} (hs : nm.size ≤ 64) (hn : nameP nm = true) (hl : jdL (some ⟨1, nm, 0, 0, ⟨#[]⟩, l, a⟩) l) : jd1 u ⟨1, nm, 0, 0, ⟨#[]⟩, l, a⟩ := by
 refine ⟨(judge_iff _ _).2 ⟨⟨hs, z64⟩, key_nil _, ?_, stands_no (by show (1 : Int) ≠ 6; decide) _⟩, hl⟩
 unfold kindP novP
 simp [hn]
theorem jd_num {u : Option Nd} {x a : Int} (hf : finP x = true) : jd1 u ⟨2, ⟨#[]⟩, x, 0, ⟨#[]⟩, [], a⟩ := by
 refine ⟨(judge_iff _ _).2 ⟨⟨z64, z64⟩, key_nil _, ?_, stands_no (by show (2 : Int) ≠ 6; decide) _⟩, jdL_nil _⟩
 unfold kindP
 simp [hf, isEmptyS, ByteArray.size]
theorem jd_name {u : Option Nd} {nm : ByteArray} {a : Int} (hs : nm.size ≤ 64) (hn : nameP nm = true) : jd1 u ⟨4, nm, 0, 0, ⟨#[]⟩, [], a⟩ := by
 refine ⟨(judge_iff _ _).2 ⟨⟨hs, z64⟩, key_nil _, ?_, stands_no (by show (4 : Int) ≠ 6; decide) _⟩, jdL_nil _⟩
 unfold kindP novP
 simp [hn]
theorem look_nil (nm : ByteArray) : lookE [] nm = none := rfl
theorem wrL_id : ∀ l : List Nd, wrL [] l = l := by
 apply forest
 ·exact wrL_nil []
 ·intro t r h1 h2
  rw [wrL_cons, h2]
  congr 1
  have hh : argsN t t.args = t := by cases t; rfl
  unfold wrN wrOne
  rw [h1, look_nil]
  by_cases c : (t.kind == 4) = true
  ·rw [if_pos c]; exact hh
  ·rw [if_neg c]; exact hh
theorem wr_id (t : Nd) : wrN [] t = t := by
 have := wrL_id [t]
 rw [wrL_cons, wrL_nil] at this
 exact (List.cons.inj this).1
theorem written_id {t : Nd} (h : t.kind ≠ 6) : writtenA t = t := by
 unfold writtenA
 rw [lets_end h]
 exact wr_id t
def rateW : Nd := ⟨2, ⟨#[]⟩, 1036831949, 0, ⟨#[]⟩, [], 4⟩
def sgdW : Nd := ⟨1, ⟨#[115, 103, 100]⟩, 0, 0, ⟨#[]⟩, [rateW], 0⟩
def chainW : Nd := ⟨1, ⟨#[99, 104, 97, 105, 110]⟩, 0, 0, ⟨#[]⟩, [rateW], 0⟩
def adamW : Nd := ⟨1, ⟨#[97, 100, 97, 109]⟩, 0, 0, ⟨#[]⟩, [], 0⟩
theorem jd_rate (u : Option Nd) : jd1 u rateW := jd_num (by decide)
theorem cnt_leaf {k x i a : Int} {n y : ByteArray} : cnt (⟨k, n, x, i, y, [], a⟩ : Nd) = 1 := leaf_cnt
theorem dep_leaf {k x i a : Int} {n y : ByteArray} : dep (⟨k, n, x, i, y, [], a⟩ : Nd) = 1 := by show depL [] + 1 = 1; rw [depL_nil]
theorem meas_of {t : Nd} (h1 : dep t ≤ 64) (h2 : cnt t ≤ 4096) : measP t = 0 := (meas_iff t).2 ⟨h1, h2⟩
theorem outE_of {t : Nd} (h : t.kind ≠ 6) (h1 : dep t ≤ 64) (h2 : cnt t ≤ 4096) : outE t = 0 := by
 unfold outE
 rw [written_id h, if_neg (by omega), if_neg (by omega)]
theorem dep_sgd : dep sgdW = 2 := by show depL [rateW] + 1 = 2; rw [depL_cons, depL_nil]; unfold rateW; rw [dep_leaf]; rfl
theorem cnt_sgd : cnt sgdW = 2 := by show 1 + cntL [rateW] = 2; rw [cntL_cons, cntL_nil]; unfold rateW; rw [cnt_leaf]
theorem dep_chain : dep chainW = 2 := by show depL [rateW] + 1 = 2; rw [depL_cons, depL_nil]; unfold rateW; rw [dep_leaf]; rfl
theorem cnt_chain : cnt chainW = 2 := by show 1 + cntL [rateW] = 2; rw [cntL_cons, cntL_nil]; unfold rateW; rw [cnt_leaf]
theorem dep_adam : dep adamW = 1 := dep_leaf
theorem cnt_adam : cnt adamW = 1 := cnt_leaf
theorem find_no {t : Nd} (h : t.kind = 1 → ∀ r ∈ rowsA, r.name ≠ t.name) : findA t = none := by
 unfold findA
 by_cases hk : (t.kind == 1) = true
 ·rw [if_pos hk, List.find?_eq_none]
  intro r hr hs
  exact h (by simpa using hk) r hr (sameB_iff.1 hs)
 ·rw [if_neg hk]
theorem err_no {t : Nd} (h : findA t = none) : errA t = (0, 0) := by unfold errA; rw [h]
theorem fault_leaf {t : Nd} (h : findA t = none) (ha : t.args = []) : faultA t = (0, 0) := by
 unfold faultA
 rw [err_no h, ha, faultAL_nil]; rfl
theorem rate_none : findA rateW = none := find_no fun h => absurd h (by show ¬ (2 : Int) = 1; decide)
theorem whole_leaf {t : Nd} (h : findA t = none) (ha : t.args = []) : wholeN t = t := by
 unfold wholeN oneA
 rw [h, ha, wholeL_nil]
 cases t
 simp only at ha
 subst ha
 rfl
theorem sgd_find : findA sgdW = some row15 := by
 unfold findA
 rw [if_pos (by rfl)]
 exact findA_key rows_nodup (by simp [rowsA]) rfl
theorem adam_find : findA adamW = some row3 := by
 unfold findA
 rw [if_pos (by rfl)]
 exact findA_key rows_nodup (by simp [rowsA]) rfl
theorem chain_none : findA chainW = none := find_no fun _ r hr e => by
 have h : rowsA.all (fun r => decide (r.name ≠ ⟨#[99, 104, 97, 105, 110]⟩)) = true := by decide
 exact of_decide_eq_true (List.all_eq_true.1 h r hr) e
theorem sgd_given : givenP row15 sgdW = .ok [0] := by
 unfold givenP sgdW
 simp only
 unfold rateW
 rw [givenL, if_neg (by decide), if_neg (by decide), if_neg (by decide), givenL]
 rfl
theorem adam_given : givenP row3 adamW = .error (131, 0) := by
 unfold givenP adamW
 simp only
 rw [givenL]
 rfl
theorem sgd_whole : wholeN sgdW = ⟨1, ⟨#[99, 104, 97, 105, 110]⟩, 0, 0, ⟨#[]⟩, [⟨1, ⟨#[116, 114, 97, 99, 101]⟩, 0, 0, ⟨#[]⟩, [⟨2, ⟨#[]⟩, 0, 0, ⟨#[]⟩, [], 0⟩, ⟨4, ⟨#[102, 97, 108, 115, 101]⟩, 0, 0, ⟨#[]⟩, [], 0⟩], 0⟩, ⟨1, ⟨#[115, 99, 97, 108, 101]⟩, 0, 0, ⟨#[]⟩, [⟨2, ⟨#[]⟩, 3184315597, 0, ⟨#[]⟩, [], 4⟩], 0⟩], 0⟩ := by
 have hw : wholeL sgdW.args = [rateW] := by
  show wholeL [rateW] = _
  rw [wholeL_cons, wholeL_nil, whole_leaf rate_none rfl]
 unfold wholeN oneA
 rw [sgd_find, hw]
 simp only [sgd_given]
 have hf : fillA [0] [rateW] (row15.vals.map fun v => placeN v sgdW.at_) = [rateW, ⟨2, ⟨#[]⟩, 0, 0, ⟨#[]⟩, [], 0⟩, ⟨4, ⟨#[102, 97, 108, 115, 101]⟩, 0, 0, ⟨#[]⟩, [], 0⟩] := by
  simp only [fillA, row15, List.map_cons, List.map_nil, placeN, noneN, numN, flagN, placeL_nil, List.set_cons_zero, sgdW, rateW, keyN]
 rw [hf]
 have hb := becA_sgd sgdW.at_ [rateW, ⟨2, ⟨#[]⟩, 0, 0, ⟨#[]⟩, [], 0⟩, ⟨4, ⟨#[102, 97, 108, 115, 101]⟩, 0, 0, ⟨#[]⟩, [], 0⟩] rfl
 rw [show sgdW.name = ⟨#[115, 103, 100]⟩ from rfl, hb]
 have hr : rateA sgdW.at_ (ix [rateW, ⟨2, ⟨#[]⟩, 0, 0, ⟨#[]⟩, [], 0⟩, ⟨4, ⟨#[102, 97, 108, 115, 101]⟩, 0, 0, ⟨#[]⟩, [], 0⟩] 0) = ⟨1, ⟨#[115, 99, 97, 108, 101]⟩, 0, 0, ⟨#[]⟩, [⟨2, ⟨#[]⟩, 3184315597, 0, ⟨#[]⟩, [], 4⟩], 0⟩ := by
  show rateA 0 rateW = _
  unfold rateA
  rw [if_pos (by rfl)]
  have : fneg rateW.num = 3184315597 := by decide
  rw [this]; rfl
 rw [hr]; rfl
theorem exp_sgd : ∃ A B : Nd, A.name = ⟨#[116, 114, 97, 99, 101]⟩ ∧ B.name = ⟨#[115, 99, 97, 108, 101]⟩ ∧ expP sgdW = ⟨⟨1, ⟨#[99, 104, 97, 105, 110]⟩, 0, 0, ⟨#[]⟩, [A, B], 0⟩, 0, 0⟩ := by
 have hk : sgdW.kind ≠ 6 := by show (1 : Int) ≠ 6; decide
 have hc : checkP sgdW = 0 := (check_iff _).2 ⟨meas_of (by rw [dep_sgd]; decide) (by rw [cnt_sgd]; decide), jd_call (by decide) (by decide) ((jdL_cons _ _ _).2 ⟨jd_rate _, jdL_nil _⟩)⟩
 have ho := outE_of hk (by rw [dep_sgd]; decide) (by rw [cnt_sgd]; decide)
 have hf : faultA sgdW = (0, 0) := by
  unfold faultA errA
  rw [sgd_find]
  simp only [sgd_given]
  show faultAL [rateW] = _
  rw [faultAL_cons, fault_leaf rate_none rfl, faultAL_nil]; rfl
 refine ⟨⟨1, ⟨#[116, 114, 97, 99, 101]⟩, 0, 0, ⟨#[]⟩, [⟨2, ⟨#[]⟩, 0, 0, ⟨#[]⟩, [], 0⟩, ⟨4, ⟨#[102, 97, 108, 115, 101]⟩, 0, 0, ⟨#[]⟩, [], 0⟩], 0⟩, ⟨1, ⟨#[115, 99, 97, 108, 101]⟩, 0, 0, ⟨#[]⟩, [⟨2, ⟨#[]⟩, 3184315597, 0, ⟨#[]⟩, [], 4⟩], 0⟩, rfl, rfl, ?_⟩
 ·unfold expP
  rw [if_neg (fun h => h hc), if_neg (fun h => h ho), written_id hk, hf, if_neg (by decide), sgd_whole, if_neg]
  intro h
  apply h
  refine (check_iff _).2 ⟨meas_of ?_ ?_, jd_call (by decide) (by decide) ((jdL_cons _ _ _).2 ⟨jd_call (by decide) (by decide) ((jdL_cons _ _ _).2 ⟨jd_num (by decide), (jdL_cons _ _ _).2 ⟨jd_name (by decide) (by decide), jdL_nil _⟩⟩), (jdL_cons _ _ _).2 ⟨jd_call (by decide) (by decide) ((jdL_cons _ _ _).2 ⟨jd_num (by decide), jdL_nil _⟩), jdL_nil _⟩⟩)⟩
  ·simp [dep, depL]
  ·simp [cnt, cntL]
theorem exp_chain : expP chainW = ⟨chainW, 0, 0⟩ := by
 have hk : chainW.kind ≠ 6 := by show (1 : Int) ≠ 6; decide
 have hc : checkP chainW = 0 := (check_iff _).2 ⟨meas_of (by rw [dep_chain]; decide) (by rw [cnt_chain]; decide), jd_call (by decide) (by decide) ((jdL_cons _ _ _).2 ⟨jd_rate _, jdL_nil _⟩)⟩
 have ho := outE_of hk (by rw [dep_chain]; decide) (by rw [cnt_chain]; decide)
 have hf : faultA chainW = (0, 0) := by
  unfold faultA
  rw [err_no chain_none]
  show faultAL [rateW] = _
  rw [faultAL_cons, fault_leaf rate_none rfl, faultAL_nil]; rfl
 have hw : wholeN chainW = chainW := by
  unfold wholeN oneA
  rw [chain_none]
  show argsN chainW (wholeL [rateW]) = _
  rw [wholeL_cons, wholeL_nil, whole_leaf rate_none rfl]; rfl
 unfold expP
 rw [if_neg (fun h => h hc), if_neg (fun h => h ho), written_id hk, hf, if_neg (by decide), hw, if_neg (fun h => h hc)]
theorem exp_adam : expP adamW = ⟨noneN, 131, 0⟩ := by
 have hk : adamW.kind ≠ 6 := by show (1 : Int) ≠ 6; decide
 have hc : checkP adamW = 0 := (check_iff _).2 ⟨meas_of (by rw [dep_adam]; decide) (by rw [cnt_adam]; decide), jd_call (by decide) (by decide) (jdL_nil _)⟩
 have ho := outE_of hk (by rw [dep_adam]; decide) (by rw [cnt_adam]; decide)
 have hf : faultA adamW = (131, 0) := by
  unfold faultA errA
  rw [adam_find]
  simp only [adam_given]
  rfl
 unfold expP
 rw [if_neg (fun h => h hc), if_neg (fun h => h ho), written_id hk, hf, if_pos (by decide)]
end Go.Proofs.YtmiidhgbdecdkaaGreat
