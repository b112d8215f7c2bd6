import Derived.Test.YtgcmnkanjcfndaaGreatDoorTxt10
import Derived.Test.YtgcmnkanjcfndaaGreatDoorTxt11
import Derived.Deep.DeepCutAuto
import Derived.Test.YtgcmnkanjcfndaaGreatDoorTxt1
import Derived.Maps.OwnSet
import Derived.Maps.OwnOps
import Derived.Maps.RangeWalk
import Derived.Maps.Ext
import Derived.Test.YtgcmnkanjcfndaaGreatDoorRows
import Derived.WalkKit
import Derived.WalkSpells
import Derived.WalkLawsBesides
import Derived.LoopN
import Derived.Below
import Derived.Laws.IdiomStrings
import Derived.Deep.QuietTactic
import Derived.BigQuiet
import Derived.Test.YtgcmnkanjcfndaaGreatDoorTxt9
namespace Go.Proofs.YtgcmnkanjcfndaaGreatDoor
open Go.RowKit
set_option linter.unusedVariables false
set_option linter.unusedSimpArgs false
structure OfB (B : Nat) (w w' : World) : Prop where
 oth : ∀ b, b < w.heap.size → b ≠ B → w'.heap[b]? = w.heap[b]?
 bel : ∀ E, E ≤ B → E ≤ w.heap.size → Below E w w'
 size : w.heap.size ≤ w'.heap.size
theorem OfB.of {B : Nat} {w w' : World} (k : Below w.heap.size w w') : OfB B w w' := ⟨fun b h _ => k.block b h, fun E _ h => k.mono h, k.size⟩
theorem OfB.trans {B : Nat} {w w' w'' : World} (h : OfB B w w') (k : OfB B w' w'') : OfB B w w'' :=
 ⟨fun b h1 h2 => (k.oth b (Nat.lt_of_lt_of_le h1 h.size) h2).trans (h.oth b h1 h2), fun E h1 h2 => (h.bel E h1 h2).trans (k.bel E h1 (Nat.le_trans h2 h.size)), Nat.le_trans h.size k.size⟩
theorem OfB.put {B : Nat} {w w' : World} (h : PutR B w w') (hB : B < w.heap.size) : OfB B w w' := ⟨fun b _ h1 => h.oth b h1, fun E h1 _ => h.bel E h1, (h.bel B (Nat.le_refl _)).size⟩
theorem app_uniq {a x y z : Bs} (ha : ∀ b ∈ a, nb b ≠ 32) (hx : ∀ b ∈ x, b ≠ 32) (h : a ++ 32 :: y = x ++ 32 :: z) : a = x ∧ y = z := by
 induction a generalizing x with
 | nil =>
  cases x with
  | nil => simpa using h
  | cons c x =>
   have e := (List.cons.inj h).1
   exact absurd e.symm (hx c (by simp))
 | cons b a ih =>
  cases x with
  | nil =>
   have e := (List.cons.inj h).1
   exact absurd (show nb b = 32 by rw [e]; rfl) (ha b (by simp))
  | cons c x =>
   obtain ⟨e1, e2⟩ := List.cons.inj h
   obtain ⟨e3, e4⟩ := ih (fun d hd => ha d (List.mem_cons_of_mem _ hd)) (fun d hd => hx d (List.mem_cons_of_mem _ hd)) e2
   exact ⟨by rw [e1, e3], e4⟩
theorem cut_nx {ws : List Bs} (hn : ∀ x ∈ ws, ∀ c ∈ x, nb c ≠ 32) : Lib.cut (joinW ws) [32] = ((nxW ws).1, joinW (nxW ws).2, !decide ((nxW ws).2 = [])) := by
 match ws, hn with
 | [], _ => rfl
 | [a], hn =>
  have ha := hn a (by simp)
  rcases cut_one 32 a with ⟨e, _⟩ | ⟨x, y, hs, _, _⟩
  ·exact e
  ·exact absurd rfl (show ¬ nb 32 = 32 from ha 32 (by rw [hs]; simp))
 | a :: b :: r, hn =>
  have ha := hn a (by simp)
  rcases cut_one 32 (joinW (a :: b :: r)) with ⟨_, hno⟩ | ⟨x, y, hs, hx, e⟩
  ·exact absurd rfl (hno 32 (by rw [join_cons (by simp)]; simp))
  ·rw [e]
   rw [join_cons (by simp)] at hs
   obtain ⟨e1, e2⟩ := app_uniq ha hx hs
   show (x, y, true) = (a, joinW (b :: r), _)
   rw [← e1, ← e2]
   rfl
theorem join_tail (ws : List Bs) : (joinW (nxW ws).2).length ≤ (joinW ws).length ∧ (nxW ws).1.length ≤ (joinW ws).length := by
 match ws with
 | [] => exact ⟨Nat.le_refl _, Nat.le_refl _⟩
 | [a] => exact ⟨Nat.zero_le _, Nat.le_refl _⟩
 | a :: b :: r =>
  rw [join_cons (by simp)]
  constructor
  ·show (joinW (b :: r)).length ≤ _; rw [List.length_append, List.length_cons]; omega
  ·show a.length ≤ _; rw [List.length_append]; omega
theorem nx_mem {ws : List Bs} {x : Bs} (h : x ∈ (nxW ws).2) : x ∈ ws := by
 cases ws with
 | nil => exact h
 | cons a r => exact List.mem_cons_of_mem _ h
structure WdM (B : Nat) (ws : List Bs) (b : Bool) (w : World) : Prop where
 row : ∃ T : ByteArray, bs T = joinW ws ∧ T.size ≤ 4194304 ∧ w.rowIs B 151 3 (g3 (.string T) (.bool (decide (ws = []))) (.bool b))
 no : ∀ x ∈ ws, ∀ c ∈ x, nb c ≠ 32
theorem WdM.lt {B : Nat} {ws : List Bs} {b : Bool} {w : World} (h : WdM B ws b w) : B < w.heap.size := by obtain ⟨T, _, _, h⟩ := h.row; exact h.lt
theorem WdM.below {B : Nat} {ws : List Bs} {b : Bool} {w w' : World} (h : WdM B ws b w) (k : Below w.heap.size w w') : WdM B ws b w' := by
 obtain ⟨T, h1, h2, h3⟩ := h.row
 exact ⟨⟨T, h1, h2, h3.of_block (k.block B h3.lt)⟩, h.no⟩
theorem cut_big (s : ByteArray) (hs : s.size ≤ 4194304) (w : World) (hL : Laid w) :
  Calls Tryz.prog 56 #[.string s, .string ⟨#[32]⟩] w fun e w' => e = .returned (.tuple #[.string (sof (Lib.cut (bs s) [32]).1), .string (sof (Lib.cut (bs s) [32]).2.1), .bool (Lib.cut (bs s) [32]).2.2]) ∧ Below w.heap.size w w' := by
 obtain ⟨m, hm⟩ := hL.mx
 exact (sh_strings_Cut s ⟨#[32]⟩ m w (by omega) hm).mono fun e w' ⟨he, n, hw⟩ => ⟨he, by subst hw; exact bel_dn w n⟩
set_option maxRecDepth 100000 in
set_option maxHeartbeats 4000000 in
theorem wnext_any (B : Nat) (ws : List Bs) (b : Bool) (w : World) (hL : Laid w) (h : WdM B ws b w) :
  Calls Tryz.prog 118 #[.pointer (some ⟨B, 0, none⟩)] w fun e w' => ∃ U : ByteArray, e = .returned (.string U) ∧ bs U = (nxW ws).1 ∧ U.size ≤ 4194304 ∧ WdM B (nxW ws).2 b w' ∧ OfB B w w' := by
 obtain ⟨T, hT, hs, hr⟩ := h.row
 have K := hidC (cut_big T hs w hL)
 rw [hT, cut_nx h.no] at K
 obtain ⟨U, hU⟩ : ∃ U : ByteArray, sof (nxW ws).1 = U := ⟨_, rfl⟩
 obtain ⟨R, hR⟩ : ∃ U : ByteArray, sof (joinW (nxW ws).2) = U := ⟨_, rfl⟩
 have hbU : bs U = (nxW ws).1 := by rw [← hU]; exact bs_of _
 have hbR : bs R = joinW (nxW ws).2 := by rw [← hR]; exact bs_of _
 have sT : (joinW ws).length = T.size := by rw [← hT]; exact bs_length _
 have sU : U.size ≤ 4194304 := by rw [← bs_length, hbU]; have := (join_tail ws).2; omega
 have sR : R.size ≤ 4194304 := by rw [← bs_length, hbR]; have := (join_tail ws).1; omega
 simp only at K
 rw [hU, hR] at K
 obtain ⟨D, hD⟩ : ∃ d, decide ((nxW ws).2 = []) = d := ⟨_, rfl⟩
 rw [hD] at K
 have HX := hidC (And.intro hbU (And.intro sU (And.intro hbR (And.intro sR hD))))
 have HN := hidC h.no
 obtain ⟨c0, c1, c2⟩ := c3 hr
 have HR := hidC hr
 clear h hT hs hr hU hR hbU hbR sT sU sR hD hL
 go_enter Tryz.func118, Tryz.ntmps118
 go_upto_region 2 with (go_at_call 56; (with_reducible refine K.out.mono ?_); rintro e w1 ⟨rfl, hb1⟩; have HB1 := hidC hb1; clear hb1)
 have hr1 := HR.out.of_block (HB1.out.block _ HR.out.lt)
 have HR1 := hidC hr1
 clear c0 c1 c2
 obtain ⟨c0, c1, c2⟩ := c3 hr1
 obtain ⟨f0, f1, f2⟩ := z3 hr1
 have hp0 := put3_0 hr1 (.string R)
 have hp1 := put3_1 hp0.1 (.bool (!(!D)))
 have hdd : (!(!D)) = D := by cases D <;> rfl
 rw [hdd] at hp1
 have HP := hidC (And.intro hp1.1 (hp0.2.trans hp1.2))
 clear hr1 hp0 hp1
 go_wp2
 refine bodyPost_ret (by simp [results, Tryz.results118, go_sem, *]; try rfl) rfl ?_
 obtain ⟨x1, x2, x3, x4, x5⟩ := HX.out
 refine ⟨U, rfl, x1, x2, ⟨⟨R, x3, x4, ?_⟩, fun x hx => HN.out x (nx_mem hx)⟩, ?_⟩
 ·rw [x5]; simpa using HP.out.1
 ·exact (OfB.of HB1.out).trans (by simpa using OfB.put HP.out.2 HR1.out.lt)
set_option maxRecDepth 100000 in
set_option maxHeartbeats 4000000 in
theorem whold_any (B : Nat) (ws : List Bs) (b s : Bool) (w : World) (h : WdM B ws b w) :
  Calls Tryz.prog 122 #[.pointer (some ⟨B, 0, none⟩), .bool s] w fun e w' => e = .returned (.tuple #[]) ∧ WdM B ws (b || !s) w' ∧ OfB B w w' := by
 obtain ⟨T, hT, hs, hr⟩ := h.row
 obtain ⟨c0, c1, c2⟩ := c3 hr
 obtain ⟨f0, f1, f2⟩ := z3 hr
 have HP := hidC (put3_2 hr (.bool (b || !s)))
 have HR := hidC hr
 have HX := hidC (And.intro hT (And.intro hs h.no))
 clear h hT hs hr
 cases b with
 | true =>
  go_enter Tryz.func122, Tryz.ntmps122
  go_wp2
  refine bodyPost_end (by simp [results, Tryz.results122, go_sem, *]; try rfl) rfl ?_
  exact ⟨rfl, ⟨⟨T, HX.out.1, HX.out.2.1, HP.out.1⟩, HX.out.2.2⟩, OfB.put HP.out.2 HR.out.lt⟩
 | false =>
  go_enter Tryz.func122, Tryz.ntmps122
  go_wp2
  refine bodyPost_end (by simp [results, Tryz.results122, go_sem, *]; try rfl) rfl ?_
  exact ⟨rfl, ⟨⟨T, HX.out.1, HX.out.2.1, by simpa using HP.out.1⟩, HX.out.2.2⟩, by simpa using OfB.put HP.out.2 HR.out.lt⟩
set_option maxRecDepth 100000 in
set_option maxHeartbeats 4000000 in
theorem wright_any (B : Nat) (ws : List Bs) (b : Bool) (w : World) (h : WdM B ws b w) :
  Calls Tryz.prog 91 #[.pointer (some ⟨B, 0, none⟩)] w fun e w' => e = .returned (.bool (decide (ws = []) && !b)) ∧ w' = w := by
 obtain ⟨T, hT, hs, hr⟩ := h.row
 obtain ⟨c0, c1, c2⟩ := c3 hr
 obtain ⟨D, hD⟩ : ∃ d, decide (ws = []) = d := ⟨_, rfl⟩
 rw [hD] at c1 ⊢
 clear h hT hs hr hD
 cases D with
 | true =>
  go_enter Tryz.func91, Tryz.ntmps91
  go_wp2
  go_ret
  exact ⟨by simp, rfl⟩
 | false =>
  go_enter Tryz.func91, Tryz.ntmps91
  go_wp2
  go_ret
  exact ⟨rfl, rfl⟩
set_option maxRecDepth 100000 in
set_option maxHeartbeats 4000000 in
theorem anum_any (n : Int) (h0 : -9223372036854775808 ≤ n) (h1 : n ≤ 9223372036854775807) (w : World) (hL : Laid w) :
  Calls Tryz.prog 44 #[.int .i64 n] w fun e w' => e = .returned (.string (sof (Lib.itoa n))) ∧ Below w.heap.size w w' := by
 have K := hidC (itoa_any n h0 h1 w hL)
 clear hL
 go_enter Tryz.func44, Tryz.ntmps44
 go_wp2_with (go_at_call 80; (with_reducible refine K.out.mono ?_); rintro e w1 ⟨rfl, hb⟩)
 go_ret
 exact ⟨rfl, hb⟩
end Go.Proofs.YtgcmnkanjcfndaaGreatDoor
namespace Go.Proofs.YtgcmnkanjcfndaaGreatDoor
open Go.RowKit
open Go.Maps (Keyed)
set_option linter.unusedVariables false
set_option linter.unusedSimpArgs false
def hR : Value → Option (DataW Value × List MemPlace) := fun v => some (.held v, [])
def litS (k : ByteArray) : Lit := .string k.data.toList
theorem litS_inj {a b : ByteArray} (h : litS a = litS b) : a = b := by
 unfold litS at h
 cases a; cases b
 simpa using h
def MapF (w : World) (b n : Nat) (f : ByteArray → Option Value) : Prop :=
 ∃ D : DataW Value, w.ownsMap Tryz.prog 9 hR b n D ∧ ∀ k zd, D.atKey (litS k) zd = match f k with | some v => .held v | none => zd
def updF (f : ByteArray → Option Value) (k : ByteArray) (v : Value) : ByteArray → Option Value := fun j => if j = k then some v else f j
theorem strK : Keyed Tryz.prog 9 := Maps.string_keyed Tryz.underlying9
theorem MapF.has {f : ByteArray → Option Value} {D : DataW Value} (h : ∀ k zd, D.atKey (litS k) zd = match f k with | some v => .held v | none => zd) (k : ByteArray) : Maps.has D (litS k) = (f k).isSome := by
 cases hk : f k with
 | none => exact Maps.has_false_of_atKey fun z => by rw [h, hk]
 | some v => exact Maps.has_true_of_atKey (y := .held v) fun z => by rw [h, hk]
theorem key_lit {k : ByteArray} (h : k.size ≤ maxLen) : keyOf Tryz.prog 9 (.string k) = some (litS k) := WideMaps.keyOf_string_mk Tryz.underlying9 h
theorem MapF.new (w : World) : MapF (w.alloc (.map #[] 0)) w.heap.size 0 (fun _ => none) :=
 ⟨_, World.ownsMap_made _ _ _ _, fun k zd => rfl⟩
theorem MapF.block {w w' : World} {b n : Nat} {f : ByteArray → Option Value} (h : MapF w b n f) (hb : w'.heap[b]? = w.heap[b]?) : MapF w' b n f := by
 obtain ⟨D, ⟨es, clock, h0, h1⟩, h2⟩ := h
 exact ⟨D, ⟨es, clock, hb.trans h0, h1⟩, h2⟩
theorem MapF.lt {w : World} {b n : Nat} {f : ByteArray → Option Value} (h : MapF w b n f) : b < w.heap.size := by
 obtain ⟨D, h1, _⟩ := h
 exact h1.lt
theorem MapF.obj {w : World} {b n : Nat} {f : ByteArray → Option Value} (h : MapF w b n f) : ∃ es clock, w.heap[b]? = some (.map es clock) := by
 obtain ⟨D, ⟨es, clock, h0, h1⟩, h2⟩ := h
 exact ⟨es, clock, h0⟩
theorem MapF.cell {w : World} {b n : Nat} {f : ByteArray → Option Value} (h : MapF w b n f) {a : Addr} {v : Value} (hc : w.cell? a = some v) : a.block ≠ b := by
 obtain ⟨es, clock, h0⟩ := h.obj
 rintro rfl
 simp [World.cell?, h0] at hc
theorem MapF.look2 {w : World} {b n : Nat} {f : ByteArray → Option Value} (h : MapF w b n f) {t e : TypeId} (ht : Tryz.prog.underlying t = some (.map 9 e)) {z : Value} (hz : (zeroValue e).run Tryz.prog w = .ok z w) {k : ByteArray} (hk : k.size ≤ maxLen) :
  (Instr.lookup t (.map (some b)) (.string k) true).run Tryz.prog w = .ok (.tuple #[(f k).getD z, .bool (f k).isSome]) w := by
 obtain ⟨D, h1, h2⟩ := h
 obtain ⟨v, ps, hrun, hv⟩ := h1.look_ok strK ht hz (zd := .held z) (zp := []) rfl (key_lit hk)
 rw [hrun, MapF.has h2]
 simp only [hR, Option.some.injEq, Prod.mk.injEq, h2] at hv
 obtain ⟨hv, -⟩ := hv
 cases hf : f k with
 | none => rw [hf] at hv; simp only [DataW.held.injEq] at hv; rw [hv]; rfl
 | some u => rw [hf] at hv; simp only [DataW.held.injEq] at hv; rw [hv]; rfl
theorem isKeyS (k : ByteArray) : WideAt.IsKeyLit (litS k) := by unfold litS; simp [WideAt.IsKeyLit]
theorem MapF.put {w : World} {b n : Nat} {f : ByteArray → Option Value} (h : MapF w b n f) (hn : n < maxLen) {t e : TypeId} (ht : Tryz.prog.underlying t = some (.map 9 e)) {k : ByteArray} (hk : k.size ≤ maxLen) (v : Value) :
  ∃ w', (Instr.mapUpdate t (.map (some b)) (.string k) v).run Tryz.prog w = .ok () w' ∧ MapF w' b (n + 1) (updF f k v) ∧ w.grownBy w' (some b) := by
 obtain ⟨D, h1, h2⟩ := h
 obtain ⟨w', hrun, r1, r2⟩ := h1.update strK ht hn (key_lit hk) (d := .held v) (ps := []) (val := v) rfl
 refine ⟨w', hrun, ⟨_, r1, fun j zd => ?_⟩, r2⟩
 unfold updF
 by_cases e : j = k
 ·subst e
  rw [Maps.atKey_put_same (h1.canon strK |>.elim fun es hes => ⟨es, hes.1⟩) (isKeyS j)]
  simp
 ·rw [Maps.atKey_put_other (fun he => e (litS_inj he)), h2, if_neg e]
end Go.Proofs.YtgcmnkanjcfndaaGreatDoor
namespace Go.Proofs.YtgcmnkanjcfndaaGreatDoor
open Go.RowKit
set_option linter.unusedVariables false
end Go.Proofs.YtgcmnkanjcfndaaGreatDoor
namespace Go.Proofs.YtgcmnkanjcfndaaGreatDoor
open Go.RowKit
set_option linter.unusedVariables false
theorem cv_any (w : World) (b0 b1 b2 b3 b4 b5 b6 b7 : UInt8) :
  (convert 55 9 (.slice (some ⟨w.heap.size, 0, none⟩) 8 8)).run Tryz.prog
   (w.alloc (.cells #[.int .u8 (b0.toNat : Int), .int .u8 (b1.toNat : Int), .int .u8 (b2.toNat : Int), .int .u8 (b3.toNat : Int), .int .u8 (b4.toNat : Int), .int .u8 (b5.toNat : Int), .int .u8 (b6.toNat : Int), .int .u8 (b7.toNat : Int)] 169))
   = .ok (.string ⟨#[b0, b1, b2, b3, b4, b5, b6, b7]⟩)
   (w.alloc (.cells #[.int .u8 (b0.toNat : Int), .int .u8 (b1.toNat : Int), .int .u8 (b2.toNat : Int), .int .u8 (b3.toNat : Int), .int .u8 (b4.toNat : Int), .int .u8 (b5.toNat : Int), .int .u8 (b6.toNat : Int), .int .u8 (b7.toNat : Int)] 169)) := by
 refine run_convert_bytes_back (P := Tryz.prog) _ 55 9 5 ⟨w.heap.size, 0, none⟩ 8 [b0, b1, b2, b3, b4, b5, b6, b7] Tryz.underlying55 Tryz.underlying5 Tryz.underlying9 ?_
 intro j hj
 have h8 : j < 8 := hj
 have ha : (⟨w.heap.size, 0, none⟩ : Addr).add j = ⟨w.heap.size, j, none⟩ := by unfold Addr.add; split <;> simp_all
 rw [ha, World.cell?_alloc_at _ _ _ _ rfl]
 obtain rfl | rfl | rfl | rfl | rfl | rfl | rfl | rfl : j = 0 ∨ j = 1 ∨ j = 2 ∨ j = 3 ∨ j = 4 ∨ j = 5 ∨ j = 6 ∨ j = 7 := by omega
 all_goals rfl
theorem ret_ib {k : IntKind} {a b : Int} {p q : Bool} (h : a = b) (g : p = q) : Ending.returned (.tuple #[.int k a, .bool p]) = .returned (.tuple #[.int k b, .bool q]) := by rw [h, g]
theorem ret_string {a b : ByteArray} (h : a = b) : Ending.returned (.string a) = .returned (.string b) := by rw [h]
set_option maxHeartbeats 1000000 in
theorem hex_any (a : Int) (h0 : 0 ≤ a) (h1 : a < 4294967296) (w : World) :
  Calls Tryz.prog 81 #[.int .u32 a] w fun e w' => e = .returned (.string (hexB a)) ∧ Below w.heap.size w w' := by
 have e7 := and_4 (a / 268435456) (by omega) (by omega)
 have e6 := and_4 (a / 16777216) (by omega) (by omega)
 have e5 := and_4 (a / 1048576) (by omega) (by omega)
 have e4 := and_4 (a / 65536) (by omega) (by omega)
 have e3 := and_4 (a / 4096) (by omega) (by omega)
 have e2 := and_4 (a / 256) (by omega) (by omega)
 have e1 := and_4 (a / 16) (by omega) (by omega)
 have e0 := and_4 a (by omega) (by omega)
 have hcv := cv_any
 go_enter Tryz.func81, Tryz.ntmps81
 go_wp2
 refine wp_loop_rounds 9 ?_
 iterate 9 (rw [rounds_succ]; go_wp2)
 go_ret
 refine ⟨ret_string ?_, (Below.refl _ _).alloc (Nat.le_refl _) _⟩
 unfold hexB
 simp only [hexD_get]
 try rfl
set_option maxHeartbeats 400000 in
theorem rhex_any (a : Int) (h0 : 0 ≤ a) (h1 : a < 4294967296) (w : World) :
  Calls Tryz.prog 51 #[.int .i64 a] w fun e w' => e = .returned (.string (hexB a)) ∧ w' = w := by
 rw [← low_8]
 go_enter Tryz.func51, Tryz.ntmps51
 go_wp2
 go_loop [0, 3, 4] (fun av sv iv => ∃ k : Nat, k ≤ 8 ∧ iv = .int .i64 k ∧ av = .int .i64 (a / 16 ^ k) ∧ sv = .string ⟨(low k a).toArray⟩) (fun _ _ iv => 8 - (intOf iv).toNat)
 case atStart => exact ⟨0, by omega, rfl, by simp, rfl⟩
 case round =>
  obtain ⟨k, hk, rfl, rfl, rfl⟩ := hrel
  have hl := low_len k a
  by_cases hlt : k < 8
  ·obtain ⟨x, hx⟩ : ∃ x, a / 16 ^ k = x := ⟨_, rfl⟩
   have hx0 : 0 ≤ x := by rw [← hx]; exact Int.ediv_nonneg h0 (Int.pow_nonneg (by decide))
   have hx1 : x ≤ a := by rw [← hx]; exact Int.ediv_le_self _ h0
   rw [hx]
   have HX : Hid (a / 16 ^ k = x) := hx
   clear hx
   obtain ⟨l, hL⟩ : ∃ l, low k a = l := ⟨_, rfl⟩
   rw [hL] at hl ⊢
   have HL : Hid (low k a = l) := hL
   have HLen : Hid (l.length = k) := hl
   have hsz : l.length ≤ 8 := by omega
   clear hL hl
   go_wp2
   go_round
   case rel =>
    refine ⟨k + 1, by omega, by go_num, by rw [div_pow_succ a k x HX.out], ?_⟩
    rw [← add_low k a x HX.out, HL.out, ← extract_one _ (by omega), show (x % 16 + 1).toNat = (x % 16).toNat + 1 by omega]
   case measure => simp [intOf]; omega
  ·obtain rfl : k = 8 := by omega
   go_wp2
   go_ret
   exact ⟨rfl, rfl⟩
set_option maxHeartbeats 400000 in
theorem hexv_yes (c : Int) (h0 : 0 ≤ c) (h1 : c ≤ 255) (h : isHex c = true) (w : World) :
  Calls Tryz.prog 161 #[.int .u8 c] w fun e w' => e = .returned (.tuple #[.int .u32 (digI c), .bool true]) ∧ w' = w := by
 rw [isHex_iff] at h
 by_cases hc : c ≤ 57
 ·have hd : digI c = c - 48 := by unfold digI; rw [if_pos hc]
  have e1 : IntKind.u8.wrap (c - 48) = c - 48 := by rw [IntKind.wrap_u8']; omega
  have e2 : IntKind.u32.wrap (c - 48) = c - 48 := by rw [IntKind.wrap_u32']; omega
  have g0 : 48 ≤ c := by omega
  rw [hd]; clear hd h
  go_enter Tryz.func161, Tryz.ntmps161
  go_wp2
  go_ret2
  exact ⟨rfl, rfl⟩
 ·have hd : digI c = c - 97 + 10 := by unfold digI; rw [if_neg hc]; omega
  have e1 : IntKind.u8.wrap (c - 97) = c - 97 := by rw [IntKind.wrap_u8']; omega
  have e2 : IntKind.u32.wrap (c - 97) = c - 97 := by rw [IntKind.wrap_u32']; omega
  have e3 : IntKind.u32.wrap (c - 97 + 10) = c - 97 + 10 := by rw [IntKind.wrap_u32']; omega
  have g0 : 97 ≤ c := by omega
  have g1 : c ≤ 102 := by omega
  have g2 : 57 < c := by omega
  rw [hd]; clear hd h hc
  go_enter Tryz.func161, Tryz.ntmps161
  go_wp2
  go_ret2
  exact ⟨rfl, rfl⟩
set_option maxHeartbeats 400000 in
theorem hexv_no (c : Int) (h0 : 0 ≤ c) (h1 : c ≤ 255) (h : isHex c = false) (w : World) :
  Calls Tryz.prog 161 #[.int .u8 c] w fun e w' => e = .returned (.tuple #[.int .u32 0, .bool false]) ∧ w' = w := by
 rw [isHex_not] at h
 by_cases c1 : c < 48
 ·clear h
  go_enter Tryz.func161, Tryz.ntmps161
  go_wp2
  go_ret2
  exact ⟨rfl, rfl⟩
 ·by_cases c2 : c < 97
  ·have c3 : 57 < c := by omega
   clear h
   go_enter Tryz.func161, Tryz.ntmps161
   go_wp2
   go_ret2
   exact ⟨rfl, rfl⟩
  ·have c3 : 102 < c := by omega
   clear h
   go_enter Tryz.func161, Tryz.ntmps161
   go_wp2
   go_ret2
   exact ⟨rfl, rfl⟩
set_option maxHeartbeats 1000000 in
theorem read_any (s : ByteArray) (hs : s.size ≤ maxLen) (w : World) :
  Calls Tryz.prog 149 #[.string s] w fun e w' => e = .returned (.tuple #[.int .u32 (rdv s.data.toList), .bool (goodL s.data.toList)]) ∧ w' = w := by
 unfold maxLen at hs
 by_cases h8 : s.size = 8
 ·go_enter Tryz.func149, Tryz.ntmps149
  go_wp2
  go_loop [4, 11] (fun av iv => ∃ k : Nat, k ≤ 8 ∧ iv = .int .i64 k ∧ (∀ c ∈ s.data.toList.take k, isHex (c.toNat : Int) = true) ∧ av = .int .u32 (valL (s.data.toList.take k))) (fun _ iv => 8 - (intOf iv).toNat)
  case atStart => exact ⟨0, by omega, rfl, by simp, rfl⟩
  case round =>
   obtain ⟨k, hk, rfl, hall, rfl⟩ := hrel
   by_cases hlt : k < 8
   ·have hks : k < s.size := by omega
    have hb : 0 ≤ (s[k].toNat : Int) ∧ (s[k].toNat : Int) ≤ 255 := by have := s[k].toNat_lt; omega
    have hv := valL_lo k (s.data.toList.take k) (by simp; omega) hall
    have hv7 : (16 : Int) ^ k ≤ 16 ^ 7 := by
     exact_mod_cast Nat.pow_le_pow_right (by omega) (show k ≤ 7 by omega)
    have hts := take_snoc s k hks
    have HT : Hid (s.data.toList.take (k + 1) = s.data.toList.take k ++ [s[k]]) := hts
    have HA : Hid (∀ c ∈ s.data.toList.take k, isHex (c.toNat : Int) = true) := hall
    obtain ⟨v, hV⟩ : ∃ v, valL (s.data.toList.take k) = v := ⟨_, rfl⟩
    rw [hV] at hv ⊢
    have HV : Hid (valL (s.data.toList.take k) = v) := hV
    have hv0 := hv.1
    have hv1 : v < 268435456 := Int.lt_of_lt_of_le hv.2 hv7
    clear hts hV hv hv7 hall
    cases hx : isHex (s[k].toNat : Int)
    ·go_wp2_with (go_at_call 161; refine (hexv_no _ hb.1 hb.2 hx _).mono ?_; rintro e w' ⟨rfl, rfl⟩)
     go_ret2
     have hg : goodL s.data.toList = false := goodL_bad _ s[k] (mem_of_at s k hks) hx
     exact ⟨ret_ib (rdv_no _ hg).symm hg.symm, rfl⟩
    ·have hd := digI_lo _ hx
     have e1 : IntKind.u32.wrap (v * 16) = v * 16 := by rw [IntKind.wrap_u32']; omega
     have e2 := or_digit (v * 16) (digI (s[k].toNat : Int)) (by omega) (by omega) (by omega) hd.1 hd.2
     go_wp2_with (go_at_call 161; refine (hexv_yes _ hb.1 hb.2 hx _).mono ?_; rintro e w' ⟨rfl, rfl⟩)
     go_round
     case rel =>
      refine ⟨k + 1, by omega, by go_num, ?_, by rw [HT.out, valL_snoc, HV.out]⟩
      rw [HT.out]
      intro c hc
      rw [List.mem_append] at hc
      rcases hc with hc | hc
      ·exact HA.out c hc
      ·simp at hc; subst hc; exact hx
     case measure => simp [intOf]; omega
   ·obtain rfl : k = 8 := by omega
    have hl : s.data.toList.take 8 = s.data.toList := List.take_of_length_le (by simp; exact Nat.le_of_eq h8)
    rw [hl] at hall ⊢
    have hg : goodL s.data.toList = true := goodL_of _ (by simpa using h8) hall
    clear hall hl
    go_wp2
    go_ret2
    exact ⟨ret_ib (rdv_yes _ hg).symm rfl, rfl⟩
 ·have hg : goodL s.data.toList = false := goodL_len _ (by simpa using h8)
  rw [rdv_no _ hg, hg]
  have h8' : ((s.size : Int) == 8) = false := by simpa using by omega
  clear h8 hg
  go_enter Tryz.func149, Tryz.ntmps149
  go_wp2
  go_ret2
  exact ⟨rfl, rfl⟩
end Go.Proofs.YtgcmnkanjcfndaaGreatDoor
namespace Go.Proofs.YtgcmnkanjcfndaaGreatDoor
open Go.RowKit
set_option linter.unusedVariables false
end Go.Proofs.YtgcmnkanjcfndaaGreatDoor
namespace Go.Proofs.YtgcmnkanjcfndaaGreatDoor
open Go.RowKit
set_option linter.unusedVariables false
set_option linter.unusedSimpArgs false
theorem az_int (w : World) : (zeroValue 3).run Tryz.prog w = .ok (.int .i64 0) w := by kernel_rfl
def MeanM (w : World) (C : Nat) (g : Bs → Option Nat) : Prop := ∃ n, MapF w C n (fun k => (g (bs k)).map fun x => .int .i64 (x : Int))
theorem MeanM.ofB {w w' : World} {B C : Nat} {g : Bs → Option Nat} (h : MeanM w C g) (k : OfB B w w') (hC : C ≠ B) : MeanM w' C g := by
 obtain ⟨n, h⟩ := h
 exact ⟨n, h.block (k.oth C h.lt hC)⟩
theorem WdM.ne {B C : Nat} {ws : List Bs} {b : Bool} {w : World} {g : Bs → Option Nat} (h : WdM B ws b w) (k : MeanM w C g) : C ≠ B := by
 obtain ⟨T, h1, h2, h3⟩ := h.row
 obtain ⟨n, k⟩ := k
 exact fun e => k.cell (c3 h3).1 e.symm
theorem atoi_okB (s : ByteArray) (hs : s.size ≤ 4194304) (n : Int) (h : Lib.atoiAll (bs s) = .ok n) (w : World) :
  Calls Tryz.prog 160 #[.string s] w fun e w' => e = .returned (.tuple #[.int .i64 n, .nilIface]) ∧ Below w.heap.size w w' := by
 refine (sh_strconv_Atoi_ok s (by omega) n h w).mono fun e w' ⟨he, hw⟩ => ⟨he, ?_⟩
 rcases hw with rfl | ⟨t, rfl⟩
 ·exact bel0 _
 ·exact Lib.bytesWorld_below _ _ _
theorem atoi_badB (s : ByteArray) (hs : s.size ≤ 4194304) (h : ∀ n, Lib.atoiAll (bs s) ≠ .ok n) (w : World) (hL : Laid w) :
  Calls Tryz.prog 160 #[.string s] w fun e w' => ∃ x N, e = .returned (.tuple #[.int .i64 x, .iface 219 (.pointer (some ⟨N, 0, none⟩))]) ∧ Below w.heap.size w w' := by
 cases e : Lib.atoiAll (bs s) with
 | ok n => exact absurd e (h n)
 | «syntax» =>
  obtain ⟨a, b, hc⟩ := hL.syn
  exact (sh_strconv_Atoi_syntax s (by omega) e _ w hc (.inr ⟨a, b, rfl⟩)).mono fun e w' ⟨N, he, _, _, hb⟩ => ⟨_, N, he, hb⟩
 | range =>
  obtain ⟨a, b, hc⟩ := hL.rng
  exact (sh_strconv_Atoi_range s (by omega) e _ w hc (.inr ⟨a, b, rfl⟩)).mono fun e w' ⟨N, he, _, _, hb⟩ => ⟨_, N, he, hb⟩
set_option maxRecDepth 100000 in
set_option maxHeartbeats 4000000 in
theorem wmean_any (B C : Nat) (ws : List Bs) (b : Bool) (g : Bs → Option Nat) (w : World) (hL : Laid w) (h : WdM B ws b w) (hm : MeanM w C g) :
  Calls Tryz.prog 120 #[.pointer (some ⟨B, 0, none⟩), .map (some C)] w fun e w' => e = .returned (.int .i64 (((g (nxW ws).1).getD 0 : Nat) : Int)) ∧ WdM B (nxW ws).2 (b || !(g (nxW ws).1).isSome) w' ∧ OfB B w w' := by
 have hne := h.ne hm
 have K := hidC (wnext_any B ws b w hL h)
 have HM := hidC hm
 have HE := hidC hne
 obtain ⟨R, hR⟩ : ∃ R, g (nxW ws).1 = R := ⟨_, rfl⟩
 have HLK : Hid (∀ U : ByteArray, bs U = (nxW ws).1 → U.size ≤ 4194304 → ∀ v, OfB B w v → (Instr.lookup 65 (.map (some C)) (.string U) true).run Tryz.prog v = .ok (.tuple #[.int .i64 ((R.getD 0 : Nat) : Int), .bool R.isSome]) v) := fun U h1 h2 v hv => by
  obtain ⟨n, hf⟩ := HM.out.ofB hv HE.out
  have h9 := hf.look2 (k := U) Tryz.underlying65 (az_int v) (by unfold maxLen; omega)
  rw [h9]
  simp only [h1, hR]
  cases R <;> rfl
 rw [hR]
 clear h hm hL hne
 go_enter Tryz.func120, Tryz.ntmps120
 go_wp2_with (first
  | (go_at_call 118; (with_reducible refine K.out.mono ?_); rintro e w1 ⟨U, rfl, hU, hU2, h1, k1⟩; have hl1 := HLK.out U hU hU2 w1 k1)
  | (go_at_call 122; (with_reducible refine (whold_any B _ b _ _ h1).mono ?_); rintro e w2 ⟨rfl, h2, k2⟩))
 go_ret
 exact ⟨rfl, h2, k1.trans k2⟩
end Go.Proofs.YtgcmnkanjcfndaaGreatDoor
namespace Go.Proofs.YtgcmnkanjcfndaaGreatDoor
open Go.RowKit
set_option linter.unusedVariables false
set_option linter.unusedSimpArgs false
def TakM (B : Nat) (w : World) (k : IntKind) (ws : List Bs) (b : Bool) (o : Option Int) (e : Ending) (w' : World) : Prop :=
 ∃ n : Int, e = .returned (.int k n) ∧ (∀ m, o = some m → n = m) ∧ WdM B ws (b || !o.isSome) w' ∧ OfB B w w'
set_option maxRecDepth 100000 in
set_option maxHeartbeats 4000000 in
theorem wnumof_any (B : Nat) (ws : List Bs) (b : Bool) (T : ByteArray) (hT : T.size ≤ 4194304) (w : World) (hL : Laid w) (h : WdM B ws b w) :
  Calls Tryz.prog 148 #[.pointer (some ⟨B, 0, none⟩), .string T] w (TakM B w .i64 ws b (numW (bs T))) := by
 have HL := hidC hL
 by_cases hA : ∃ n, Lib.atoiAll (bs T) = .ok n
 ·obtain ⟨n, hn⟩ := hA
  have hbd := Lib.atoiAll_bounds hn
  have hask := num_asked hn
  have K1 := hidC (atoi_okB T hT n hn w)
  have K2 : Hid (∀ w, Laid w → Calls Tryz.prog 44 #[.int .i64 n] w fun e w' => e = .returned (.string (sof (Lib.itoa n))) ∧ Below w.heap.size w w') := fun w h => anum_any n hbd.1 hbd.2 w h
  have hsof : (sof (Lib.itoa n)).toList = Lib.itoa n := by rw [ByteArray.toList_eq]; exact bs_of _
  have hst : T.toList = bs T := ByteArray.toList_eq T
  have H := hidC h
  by_cases h0 : 0 ≤ n ∧ n ≤ 2147483647
  ·obtain ⟨h0, h1⟩ := h0
   by_cases he : Lib.itoa n = bs T
   ·have e1 : ((sof (Lib.itoa n)).toList == T.toList) = true := by rw [hsof, hst, he]; simp
    have e2 : numW (bs T) = some n := hask.2 ⟨⟨h0, h1⟩, he⟩
    rw [e2]
    clear he hsof hst hask hn hbd e2 hL h
    go_enter Tryz.func148, Tryz.ntmps148
    go_wp2_with (first
     | (go_at_call 160; (with_reducible refine K1.out.mono ?_); rintro e w1 ⟨rfl, hb1⟩)
     | (go_at_call 44; (with_reducible refine (K2.out _ (HL.out.below hb1)).mono ?_); rintro e w2 ⟨rfl, hb2⟩)
     | (go_at_call 122; (with_reducible refine (whold_any B _ b _ _ ((H.out.below hb1).below hb2)).mono ?_); rintro e w3 ⟨rfl, h3, k3⟩))
    go_ret
    exact ⟨n, rfl, fun m hm => Option.some.inj hm, h3, (OfB.of (bel hb1 hb2)).trans k3⟩
   ·have e1 : ((sof (Lib.itoa n)).toList == T.toList) = false := by rw [hsof, hst]; simpa using he
    have e2 : numW (bs T) = none := none_or fun m hm => by
     have := num_other hn hm
     subst this
     exact he (hask.1 hm).2
    rw [e2]
    clear he hsof hst hask hn hbd e2 hL h
    go_enter Tryz.func148, Tryz.ntmps148
    go_wp2_with (first
     | (go_at_call 160; (with_reducible refine K1.out.mono ?_); rintro e w1 ⟨rfl, hb1⟩)
     | (go_at_call 44; (with_reducible refine (K2.out _ (HL.out.below hb1)).mono ?_); rintro e w2 ⟨rfl, hb2⟩)
     | (go_at_call 122; (with_reducible refine (whold_any B _ b _ _ ((H.out.below hb1).below hb2)).mono ?_); rintro e w3 ⟨rfl, h3, k3⟩))
    go_ret
    exact ⟨n, rfl, fun m hm => (nomatch hm), h3, (OfB.of (bel hb1 hb2)).trans k3⟩
  ·have e2 : numW (bs T) = none := none_or fun m hm => by
    have := num_other hn hm
    subst this
    exact h0 (hask.1 hm).1
   rw [e2]
   by_cases h1 : 0 ≤ n
   ·have h2 : ¬ n ≤ 2147483647 := fun q => h0 ⟨h1, q⟩
    clear h0 hsof hst hask hn hbd e2 hL h
    go_enter Tryz.func148, Tryz.ntmps148
    go_wp2_with (first
     | (go_at_call 160; (with_reducible refine K1.out.mono ?_); rintro e w1 ⟨rfl, hb1⟩)
     | (go_at_call 122; (with_reducible refine (whold_any B _ b _ _ (H.out.below hb1)).mono ?_); rintro e w3 ⟨rfl, h3, k3⟩))
    go_ret
    exact ⟨n, rfl, fun m hm => (nomatch hm), h3, (OfB.of hb1).trans k3⟩
   ·clear h0 hsof hst hask hn hbd e2 hL h
    go_enter Tryz.func148, Tryz.ntmps148
    go_wp2_with (first
     | (go_at_call 160; (with_reducible refine K1.out.mono ?_); rintro e w1 ⟨rfl, hb1⟩)
     | (go_at_call 122; (with_reducible refine (whold_any B _ b _ _ (H.out.below hb1)).mono ?_); rintro e w3 ⟨rfl, h3, k3⟩))
    go_ret
    exact ⟨n, rfl, fun m hm => (nomatch hm), h3, (OfB.of hb1).trans k3⟩
 ·have hno : ∀ n, Lib.atoiAll (bs T) ≠ .ok n := fun n e => hA ⟨n, e⟩
  have K1 := hidC (atoi_badB T hT hno w hL)
  have H := hidC h
  rw [num_none hno]
  clear hno hA hL h
  go_enter Tryz.func148, Tryz.ntmps148
  go_wp2_with (first
   | (go_at_call 160; (with_reducible refine K1.out.mono ?_); rintro e w1 ⟨x, N, rfl, hb1⟩)
   | (go_at_call 122; (with_reducible refine (whold_any B _ b _ _ (H.out.below hb1)).mono ?_); rintro e w3 ⟨rfl, h3, k3⟩))
  go_ret
  exact ⟨x, rfl, fun m hm => (nomatch hm), h3, (OfB.of hb1).trans k3⟩
set_option maxRecDepth 100000 in
set_option maxHeartbeats 4000000 in
theorem wnum_any (B : Nat) (ws : List Bs) (b : Bool) (w : World) (hL : Laid w) (h : WdM B ws b w) (hE : ∀ v, OfB B w v → Laid v) :
  Calls Tryz.prog 121 #[.pointer (some ⟨B, 0, none⟩)] w (TakM B w .i64 (nxW ws).2 b (numW (nxW ws).1)) := by
 have K := hidC (wnext_any B ws b w hL h)
 clear h hL
 go_enter Tryz.func121, Tryz.ntmps121
 go_wp2_with (first
  | (go_at_call 118; (with_reducible refine K.out.mono ?_); rintro e w1 ⟨U, rfl, hU, hU2, h1, k1⟩)
  | (go_at_call 148; (with_reducible refine (wnumof_any B _ b U hU2 _ (hE _ k1) h1).mono ?_); rintro e w2 ⟨n, rfl, h2, h3, k2⟩))
 go_ret
 rw [hU] at h2 h3
 exact ⟨n, rfl, h2, h3, k1.trans k2⟩
set_option maxRecDepth 100000 in
set_option maxHeartbeats 4000000 in
theorem wpat_any (B : Nat) (ws : List Bs) (b : Bool) (w : World) (hL : Laid w) (h : WdM B ws b w) :
  Calls Tryz.prog 124 #[.pointer (some ⟨B, 0, none⟩)] w (TakM B w .u32 (nxW ws).2 b (hexW (nxW ws).1)) := by
 have K := hidC (wnext_any B ws b w hL h)
 clear h hL
 go_enter Tryz.func124, Tryz.ntmps124
 go_wp2_with (first
  | (go_at_call 118; (with_reducible refine K.out.mono ?_); rintro e w1 ⟨U, rfl, hU, hU2, h1, k1⟩)
  | (go_at_call 149; (with_reducible refine (read_any U (by unfold maxLen; omega) _).mono ?_); rintro e w2 ⟨rfl, rfl⟩)
  | (go_at_call 122; (with_reducible refine (whold_any B _ b _ _ h1).mono ?_); rintro e w2 ⟨rfl, h2, k2⟩))
 go_ret
 have e1 : U.data.toList = (nxW ws).1 := hU
 rw [e1] at h2 ⊢
 refine ⟨_, rfl, ?_, ?_, k1.trans k2⟩
 ·intro m hm
  unfold hexW at hm
  split at hm
  ·exact Option.some.inj hm
  ·cases hm
 ·have e2 : (hexW (nxW ws).1).isSome = goodL (nxW ws).1 := by unfold hexW; cases goodL (nxW ws).1 <;> rfl
  rw [e2]
  exact h2
end Go.Proofs.YtgcmnkanjcfndaaGreatDoor
namespace Go.Proofs.YtgcmnkanjcfndaaGreatDoor
open Go.RowKit
set_option linter.unusedVariables false
set_option linter.unusedSimpArgs false
def LaidE (E : Nat) (w : World) : Prop := ∃ w0 : World, w0.heap.size = E ∧ Laid w0 ∧ Below E w0 w
theorem LaidE.laid {E : Nat} {w : World} (h : LaidE E w) : Laid w := by
 obtain ⟨w0, rfl, h1, h2⟩ := h
 exact h1.below h2
theorem LaidE.below {E : Nat} {w w' : World} (h : LaidE E w) (k : Below E w w') : LaidE E w' := by
 obtain ⟨w0, h0, h1, h2⟩ := h
 exact ⟨w0, h0, h1, h2.trans k⟩
theorem LaidE.le {E : Nat} {w : World} (h : LaidE E w) : E ≤ w.heap.size := by
 obtain ⟨w0, rfl, h1, h2⟩ := h
 exact h2.size
theorem LaidE.ofB {E B : Nat} {w w' : World} (h : LaidE E w) (hE : E ≤ B) (k : OfB B w w') : LaidE E w' := h.below (k.bel E hE h.le)
theorem LaidE.start {w : World} (h : Laid w) : LaidE w.heap.size w := ⟨w, rfl, h, bel0 _⟩
set_option maxRecDepth 100000 in
set_option maxHeartbeats 4000000 in
theorem cutp_no (s : ByteArray) (hz : s.size = 0) (w : World) :
  Calls Tryz.prog 150 #[.string s, .string ⟨#[114]⟩] w fun e w' => e = .returned (.tuple #[.string s, .bool false]) ∧ w' = w := by
 go_enter Tryz.func150, Tryz.ntmps150
 go_wp2
 refine bodyPost_ret (by simp [results, Tryz.results150, go_sem, *]; try rfl) rfl ?_
 exact ⟨rfl, rfl⟩
set_option maxRecDepth 100000 in
set_option maxHeartbeats 4000000 in
theorem cutp_yes (s : ByteArray) (M : Nat) (hM : s.size = M + 1) (hs : M ≤ 4194304) (d : Bool) (hd : ((s.extract 0 1).toList == [114]) = d) (w : World) :
  Calls Tryz.prog 150 #[.string s, .string ⟨#[114]⟩] w fun e w' => e = .returned (.tuple #[.string (if d then s.extract 1 (M + 1) else s), .bool d]) ∧ w' = w := by
 cases d with
 | true =>
  go_enter Tryz.func150, Tryz.ntmps150
  go_wp2
  refine bodyPost_ret (by simp [results, Tryz.results150, go_sem, *]; try rfl) rfl ?_
  exact ⟨rfl, rfl⟩
 | false =>
  go_enter Tryz.func150, Tryz.ntmps150
  go_wp2
  refine bodyPost_ret (by simp [results, Tryz.results150, go_sem, *]; try rfl) rfl ?_
  exact ⟨rfl, rfl⟩
theorem bs_extractA (s : ByteArray) (a b : Nat) : bs (s.extract a b) = ((bs s).drop a).take (b - a) := by
 unfold bs
 simp [ByteArray.data_extract, Array.toList_extract, List.extract_eq_take_drop]
theorem ext_one (s : ByteArray) (M : Nat) (hM : s.size = M + 1) : ∃ c r, bs s = c :: r ∧ (s.extract 0 1).toList = [c] ∧ bs (s.extract 1 (M + 1)) = r := by
 have hl : (bs s).length = M + 1 := by rw [bs_length, hM]
 cases hb : bs s with
 | nil => rw [hb] at hl; simp at hl
 | cons c r =>
  refine ⟨c, r, rfl, ?_, ?_⟩
  ·rw [ByteArray.toList_eq]
   show bs (s.extract 0 1) = _
   rw [bs_extractA, hb]
   rfl
  ·rw [bs_extractA, hb]
   rw [hb] at hl
   simp only [List.drop_succ_cons, List.drop_zero]
   exact List.take_of_length_le (by simp at hl; omega)
theorem rg_other {c : UInt8} {r : Bs} (h : c ≠ 114) : rgW (c :: r) = none := none_or fun n hn => h (List.cons.inj (rg_iff.1 hn).2).1
set_option maxRecDepth 100000 in
set_option maxHeartbeats 4000000 in
theorem wreg_any (E B : Nat) (ws : List Bs) (b : Bool) (w : World) (hL : LaidE E w) (hE : E ≤ B) (h : WdM B ws b w) :
  Calls Tryz.prog 125 #[.pointer (some ⟨B, 0, none⟩)] w (TakM B w .i64 (nxW ws).2 b (rgW (nxW ws).1)) := by
 have K := hidC (wnext_any B ws b w hL.laid h)
 have HL := hidC hL
 have HC : Hid (∀ U : ByteArray, bs U = (nxW ws).1 → U.size ≤ 4194304 → ∀ v, ∃ (d : Bool) (V : ByteArray), V.size ≤ 4194304 ∧ (rgW (nxW ws).1 = if d then numW (bs V) else none) ∧ Calls Tryz.prog 150 #[.string U, .string ⟨#[114]⟩] v fun e w' => e = .returned (.tuple #[.string V, .bool d]) ∧ w' = v) := fun U h1 h2 v => by
  rw [← h1]
  rcases Nat.eq_zero_or_pos U.size with hz | hp
  ·refine ⟨false, U, h2, ?_, cutp_no U hz v⟩
   have : bs U = [] := List.length_eq_zero_iff.1 (by rw [bs_length, hz])
   rw [this]; rfl
  ·obtain ⟨M, hM⟩ : ∃ M, U.size = M + 1 := ⟨U.size - 1, by omega⟩
   obtain ⟨c, r, e1, e2, e3⟩ := ext_one U M hM
   by_cases hc : c = 114
   ·subst hc
    have k := cutp_yes U M hM (by omega) true (by rw [e2]; rfl) v
    rw [if_pos rfl] at k
    refine ⟨true, _, ?_, ?_, k⟩
    ·rw [← bs_length, e3]
     have := bs_length U
     rw [e1] at this
     simp at this; omega
    ·rw [e1, e3]; rfl
   ·have k := cutp_yes U M hM (by omega) false (by rw [e2]; simpa using hc) v
    rw [if_neg (by decide)] at k
    exact ⟨false, U, h2, by rw [e1, rg_other hc]; rfl, k⟩
 clear h hL
 go_enter Tryz.func125, Tryz.ntmps125
 go_wp2_with (first
  | (go_at_call 118; (with_reducible refine K.out.mono ?_); rintro e w1 ⟨U, rfl, hU, hU2, h1, k1⟩; obtain ⟨d, V, hV, hrg, kc⟩ := HC.out U hU hU2 w1)
  | (go_at_call 150; (with_reducible refine kc.mono ?_); rintro e w1' ⟨rfl, rfl⟩)
  | (go_at_call 122; (with_reducible refine (whold_any B _ b _ _ h1).mono ?_); rintro e w2 ⟨rfl, h2, k2⟩)
  | (go_at_call 148; (with_reducible refine (wnumof_any B _ _ V hV _ ((HL.out.ofB hE k1).ofB hE k2).laid h2).mono ?_); rintro e w3 ⟨n, rfl, h3, h4, k3⟩))
 go_ret
 rw [hrg]
 cases d with
 | true =>
  refine ⟨n, rfl, ?_, ?_, (k1.trans k2).trans k3⟩
  ·intro m hm; rw [if_pos rfl] at hm; exact h3 m hm
  ·rw [if_pos rfl]
   have : (b || !true) = b := by cases b <;> rfl
   rw [this] at h4
   exact h4
 | false =>
  refine ⟨n, rfl, ?_, ?_, (k1.trans k2).trans k3⟩
  ·intro m hm; rw [if_neg (by decide)] at hm; cases hm
  ·rw [if_neg (by decide)]
   have : (b || !false || !(numW (bs V)).isSome) = (b || !(none : Option Int).isSome) := by cases b <;> rfl
   rw [this] at h4
   exact h4
end Go.Proofs.YtgcmnkanjcfndaaGreatDoor
namespace Go.Proofs.YtgcmnkanjcfndaaGreatDoor
open Go.RowKit
set_option linter.unusedVariables false
set_option linter.unusedSimpArgs false
def meanA (L : List Bs) : Nat → Bs → Option Nat
 | 0, _ => none
 | k + 1, s => if s = (L[k]?).getD [] ∧ s ≠ [] then some k else meanA L k s
theorem bs_injA {a b : ByteArray} (h : bs a = bs b) : a = b := by
 cases a; cases b
 simpa [bs] using h
theorem mean_put {L : List Bs} {k : Nat} {T : ByteArray} (hT : bs T = (L[k]?).getD []) (hn : bs T ≠ []) :
  updF (fun j => (meanA L k (bs j)).map fun x => Value.int .i64 (x : Int)) T (.int .i64 (k : Int)) = fun j => (meanA L (k + 1) (bs j)).map fun x => Value.int .i64 (x : Int) := by
 funext j
 unfold updF
 by_cases h : j = T
 ·subst h
  rw [if_pos rfl, meanA, if_pos ⟨hT, hn⟩]
  rfl
 ·rw [if_neg h, meanA, if_neg (fun q => h (bs_injA (q.1.trans hT.symm)))]
theorem mean_skip {L : List Bs} {k : Nat} (hT : (L[k]?).getD [] = []) : meanA L (k + 1) = meanA L k := by
 funext s
 rw [meanA, if_neg (fun q => q.2 (q.1.trans hT))]
set_option maxRecDepth 100000 in
set_option maxHeartbeats 4000000 in
theorem mean_any (p : Nat) (L : List Bs) (hl : L.length ≤ 1000) (hs : ∀ x ∈ L, x.length ≤ 100) (w : World) (hr : w.rowIs p 9 L.length (fun i => .string (sof ((L[i]?).getD [])))) :
  Calls Tryz.prog 55 #[.slice (some ⟨p, 0, none⟩) L.length L.length] w fun e w' => ∃ C, e = .returned (.map (some C)) ∧ w.heap.size ≤ C ∧ MeanM w' C (meanA L L.length) ∧ Below w.heap.size w w' := by
 obtain ⟨N, hN⟩ : ∃ n, L.length = n := ⟨_, rfl⟩
 rw [hN] at hr ⊢
 have HL := hidC (And.intro hN (And.intro hl hs))
 have HR := hidC hr
 obtain ⟨W, hW⟩ : ∃ W, w.alloc (.map #[] 0) = W := ⟨_, rfl⟩
 have HB0 : Hid (Below w.heap.size w W) := by rw [← hW]; exact bel_alloc _ _
 have HM0 : Hid (MapF W w.heap.size 0 (fun _ => none)) := by rw [← hW]; exact MapF.new w
 clear hr hN hl hs
 have hmm := @run_makeMap Tryz.prog
 go_enter Tryz.func55, Tryz.ntmps55
 go_upto_block 0 with fail
 go_wp2_with fail
 go_loopw [9] (fun iv wx => ∃ k n : Nat, k ≤ N ∧ n ≤ k ∧ iv = .int .i64 (k : Int) ∧ Hid (MapF wx w.heap.size n (fun j => (meanA L k (bs j)).map fun x => Value.int .i64 (x : Int)) ∧ Below w.heap.size w wx)) (fun iv _ => N - (intOf iv).toNat)
 case atStart => exact ⟨0, 0, Nat.zero_le _, Nat.le_refl _, rfl, HM0.out, HB0.out⟩
 case round =>
  clear hW
  obtain ⟨k, n, hk, hn, rfl, HM⟩ := hrel
  by_cases hlt : k < N
  ·have e1 : (k : Int) < (N : Int) := by omega
   obtain ⟨T, hT⟩ : ∃ T, sof ((L[k]?).getD []) = T := ⟨_, rfl⟩
   have hbT : bs T = (L[k]?).getD [] := by rw [← hT]; exact bs_of _
   have hcell := kc HM.out.2 (HR.out.cell (i := k) hlt)
   rw [hT] at hcell
   have hN1 : N ≤ 1000 := by have := HL.out.2.1; have := HL.out.1; omega
   have wk : IntKind.i64.wrap ((k : Int) + 1) = ((k + 1 : Nat) : Int) := by rw [IntKind.wrap_i64]; omega
   have i1 : (0 : Int) ≤ (k : Int) := by omega
   have hkl : k < L.length := by rw [HL.out.1]; exact hlt
   have hTs : T.size ≤ maxLen := by
    rw [← bs_length, hbT, List.getElem?_eq_getElem hkl]
    have := HL.out.2.2 _ (List.getElem_mem hkl)
    unfold maxLen
    simp only [Option.getD_some]
    omega
   have HTT := hidC (And.intro hbT hkl)
   have htl : T.toList = bs T := ByteArray.toList_eq T
   by_cases hz : bs T = []
   ·have e2 : (T.toList == []) = true := by rw [htl, hz]; rfl
    have HZ := hidC hz
    clear hbT hT hTs hkl htl hz
    go_wp2_with fail
    go_roundw
    case rel => exact ⟨k + 1, n, hlt, by omega, by go_num, by rw [mean_skip (HTT.out.1.symm.trans HZ.out)]; exact HM.out.1, HM.out.2⟩
    case measure => simp [intOf]; omega
   ·have e2 : (T.toList == []) = false := by rw [htl]; simpa using hz
    obtain ⟨w3, hrun, hm3, hg3⟩ := HM.out.1.put (by unfold maxLen; omega) Tryz.underlying65 hTs (.int .i64 (k : Int))
    rw [mean_put hbT hz] at hm3
    have HM3 := hidC hm3
    have HB3 : Hid (Below w.heap.size w w3) := HM.out.2.trans ⟨hg3.os, hg3.tape, hg3.output, hg3.size, fun j hj => hg3.block j (Nat.lt_of_lt_of_le hj HM.out.2.size) (fun q => by have := Option.some.inj q; omega)⟩
    clear hbT hT hTs hkl htl hz hm3 hg3
    go_wp2_with fail
    go_roundw
    case rel => exact ⟨k + 1, n + 1, hlt, by omega, by go_num, HM3.out, HB3.out⟩
    case measure => simp [intOf]; omega
  ·have e1 : ¬ (k : Int) < (N : Int) := by omega
   have hkN : k = N := by omega
   subst hkN
   go_wp2_with fail
   go_ret
   exact ⟨_, rfl, Nat.le_refl _, ⟨n, HM.out.1⟩, HM.out.2⟩
end Go.Proofs.YtgcmnkanjcfndaaGreatDoor
namespace Go.Proofs.YtgcmnkanjcfndaaGreatDoor
open Go.RowKit
set_option linter.unusedVariables false
set_option linter.unusedSimpArgs false
theorem row_list (L : List Bs) (w : World) (cs : Array Value) (t : TypeId) (h : cs.toList = L.map fun x => .string (sof x)) : (w.alloc (.cells cs t)).rowIs w.heap.size t L.length (fun i => .string (sof ((L[i]?).getD []))) := by
 have hs : cs.size = L.length := by rw [← Array.length_toList, h, List.length_map]
 rw [← hs]
 refine World.rowIs_alloc w cs t _ fun i hi => ?_
 have hl : i < L.length := by rw [← hs]; exact hi
 rw [← Array.getElem?_toList, h, List.getElem?_map, List.getElem?_eq_getElem hl]
 rfl
def sortL : List Bs := [paramB, regB, slotB]
def kindL : List Bs := [[], realB, complexB]
def typeL : List Bs := [[], numberB, wholeT, vectorB]
def keepL : List Bs := [localB, keepB]
set_option maxRecDepth 100000 in
set_option maxHeartbeats 4000000 in
theorem sortWords_any (w : World) : Calls Tryz.prog 38 #[] w fun e w' => ∃ p, e = .returned (.slice (some ⟨p, 0, none⟩) 3 3) ∧ w.heap.size ≤ p ∧ w'.rowIs p 9 3 (fun i => .string (sof ((sortL[i]?).getD []))) ∧ Below w.heap.size w w' := by
 go_enter Tryz.func38, Tryz.ntmps38
 go_wp2
 go_ret
 refine ⟨_, rfl, ?_, ?_, ?_⟩
 ·simp
 ·exact row_list sortL w _ _ (by rfl)
 ·exact bel_alloc _ _
set_option maxRecDepth 100000 in
set_option maxHeartbeats 4000000 in
theorem kindWords_any (w : World) : Calls Tryz.prog 39 #[] w fun e w' => ∃ p, e = .returned (.slice (some ⟨p, 0, none⟩) 3 3) ∧ w.heap.size ≤ p ∧ w'.rowIs p 9 3 (fun i => .string (sof ((kindL[i]?).getD []))) ∧ Below w.heap.size w w' := by
 go_enter Tryz.func39, Tryz.ntmps39
 go_wp2
 go_ret
 refine ⟨_, rfl, ?_, ?_, ?_⟩
 ·simp
 ·exact row_list kindL w _ _ (by rfl)
 ·exact bel_alloc _ _
set_option maxRecDepth 100000 in
set_option maxHeartbeats 4000000 in
theorem typeWords_any (w : World) : Calls Tryz.prog 40 #[] w fun e w' => ∃ p, e = .returned (.slice (some ⟨p, 0, none⟩) 4 4) ∧ w.heap.size ≤ p ∧ w'.rowIs p 9 4 (fun i => .string (sof ((typeL[i]?).getD []))) ∧ Below w.heap.size w w' := by
 go_enter Tryz.func40, Tryz.ntmps40
 go_wp2
 go_ret
 refine ⟨_, rfl, ?_, ?_, ?_⟩
 ·simp
 ·exact row_list typeL w _ _ (by rfl)
 ·exact bel_alloc _ _
set_option maxRecDepth 100000 in
set_option maxHeartbeats 4000000 in
theorem keepWords_any (w : World) : Calls Tryz.prog 41 #[] w fun e w' => ∃ p, e = .returned (.slice (some ⟨p, 0, none⟩) 2 2) ∧ w.heap.size ≤ p ∧ w'.rowIs p 9 2 (fun i => .string (sof ((keepL[i]?).getD []))) ∧ Below w.heap.size w w' := by
 go_enter Tryz.func41, Tryz.ntmps41
 go_wp2
 go_ret
 refine ⟨_, rfl, ?_, ?_, ?_⟩
 ·simp
 ·exact row_list keepL w _ _ (by rfl)
 ·exact bel_alloc _ _
set_option maxRecDepth 100000 in
set_option maxHeartbeats 4000000 in
theorem opWords_any (w : World) : Calls Tryz.prog 42 #[] w fun e w' => ∃ p, e = .returned (.slice (some ⟨p, 0, none⟩) 38 38) ∧ w.heap.size ≤ p ∧ w'.rowIs p 9 38 (fun i => .string (sof ((opsB[i]?).getD []))) ∧ Below w.heap.size w w' := by
 go_enter Tryz.func42, Tryz.ntmps42
 go_wp2
 go_ret
 refine ⟨_, rfl, ?_, ?_, ?_⟩
 ·simp
 ·exact row_list opsB w _ _ (by rfl)
 ·exact bel_alloc _ _
end Go.Proofs.YtgcmnkanjcfndaaGreatDoor
namespace Go.Proofs.YtgcmnkanjcfndaaGreatDoor
open Go.RowKit
set_option linter.unusedVariables false
set_option linter.unusedSimpArgs false
end Go.Proofs.YtgcmnkanjcfndaaGreatDoor
namespace Go.Proofs.YtgcmnkanjcfndaaGreatDoor
open Go.RowKit
set_option linter.unusedVariables false
set_option linter.unusedSimpArgs false
theorem own_other {w : World} {B B' : Nat} {t t' : TypeId} {k k' n n' : Nat} {v v' : Value} {xs xs' : List Value} (h : w.ownsRow B t k v n xs) (h' : w.ownsRow B' t' k' v' n' xs') (ht : t ≠ t') : ∀ b, v.ownBlock = some b → v'.ownBlock ≠ some b := by
 intro b hb hb'
 rcases h.2 with ⟨rfl, _⟩ | ⟨g, cap, cur, rfl, _, hg, _⟩
 ·exact absurd (show (none : Option Nat) = some b from hb) (by simp)
 rcases h'.2 with ⟨rfl, _⟩ | ⟨g', cap', cur', rfl, _, hg', _⟩
 ·exact absurd (show (none : Option Nat) = some b from hb') (by simp)
 have e1 : g = b := Option.some.inj hb
 have e2 : g' = b := Option.some.inj hb'
 rw [e1] at hg
 rw [e2, hg] at hg'
 simp only [Option.some.injEq, Obj.cells.injEq] at hg'
 exact ht hg'.2.1
end Go.Proofs.YtgcmnkanjcfndaaGreatDoor
namespace Go.Proofs.YtgcmnkanjcfndaaGreatDoor
set_option linter.unusedVariables false
set_option linter.unusedSimpArgs false
def insP (S : List Nat) (i : Ins) : List Nat := if (rowP i.op).d ≠ 0 ∧ i.d.toNat ∉ S then S ++ [i.d.toNat] else S
theorem okO_le : ∀ {r : List Bk} {n : Nat}, okO n r → ∀ b ∈ r, b.ahead ≤ n
 | [], _, _, b, hb => absurd hb (by simp)
 | a :: r, n, h, b, hb => by
  rcases List.mem_cons.1 hb with rfl | hb
  ·exact h.1
  ·exact Nat.le_trans (okO_le h.2 b hb) h.1
theorem addP_none {s : Wk} {i : Ins} (h : (rowP i.op).d = 0) : addP s i (rowP i.op) = s := by unfold addP; rw [if_neg (fun e => e.1 h)]
theorem ins_mem {S : List Nat} {i : Ins} {x : Nat} : x ∈ insP S i ↔ x ∈ S ∨ ((rowP i.op).d ≠ 0 ∧ x = i.d.toNat) := by
 unfold insP
 by_cases h : (rowP i.op).d ≠ 0 ∧ i.d.toNat ∉ S
 ·rw [if_pos h, List.mem_append]; simp only [List.mem_singleton]; exact ⟨fun q => q.imp id fun e => ⟨h.1, e⟩, fun q => q.imp id fun e => e.2⟩
 ·rw [if_neg h]
  constructor
  ·exact .inl
  ·rintro (q | ⟨q1, q2⟩)
   ·exact q
   ·rw [q2]; exact Decidable.byContradiction fun e => h ⟨q1, e⟩
end Go.Proofs.YtgcmnkanjcfndaaGreatDoor
namespace Go.Proofs.YtgcmnkanjcfndaaGreatDoor
open Go.RowKit
set_option linter.unusedVariables false
set_option linter.unusedSimpArgs false
end Go.Proofs.YtgcmnkanjcfndaaGreatDoor
