import Derived.Test.YtgnjhjkbnchdmaaPart22
import Derived.Test.YtgnjhjkbnchdmaaPart19
import Derived.Test.YtgnjhjkbnchdmaaPart13
/- The reference of layer 16: Check, whatever the code. -/
namespace Go.Proofs.Ytgnjhjkbnchdmaa
open Go.RowKit
set_option linter.unusedVariables false
set_option linter.unusedSimpArgs false

/-- latheref16.Check of any code whose lists are read is IR1's answer. -/
theorem rcheck16_any (v0 v1 v2 v3 : Value) (c : Cd) (hk : CdOk c) (w : World) (hv : CdV w v0 v1 v2 v3 c) :
    Calls Try.prog 6 #[.agg #[v0, v1, v2, v3]] w fun e w' => e = .returned (.tuple #[.int .i64 (checkC c).1, .int .i64 (checkC c).2]) ∧ Below w.heap.size w w' := by
  by_cases h0 : checkP c.sign = 0
  · by_cases h1 : 16384 < c.regs.length ∨ 32768 < c.list.length
    · have e : checkC c = (181, -1) := by unfold checkC aheadP; simp [h0, h1]
      rw [e]
      exact rcheck_early v0 v1 v2 v3 c hk w hv 181 (.inr (.inl ⟨h0, h1, rfl⟩))
    · by_cases h2 : 4096 < c.slots.length
      · have e : checkC c = (180, -1) := by unfold checkC aheadP; simp [h0, h1, h2]
        rw [e]
        exact rcheck_early v0 v1 v2 v3 c hk w hv 180 (.inr (.inr ⟨h0, fun e => h1 (.inl e), fun e => h1 (.inr e), h2, rfl⟩))
      · refine rcheck_walk v0 v1 v2 v3 c hk w hv h0 (by omega) (by omega) (by omega) _ _ ?_
        have hA : aheadP c = if (typesMay c && slotsMay c) = true then 0 else 160 := by
          unfold aheadP
          rw [if_neg (fun e => e h0), if_neg h1, if_neg h2]
        unfold checkC
        rw [hA]
        by_cases h3 : (typesMay c && slotsMay c) = true
        · rw [if_pos h3, if_pos h3, if_neg (by decide)]
        · rw [if_neg h3, if_neg h3, if_pos (by decide)]
  · have e : checkC c = (checkP c.sign, -1) := by unfold checkC aheadP; simp [h0]
    rw [e]
    exact rcheck_early v0 v1 v2 v3 c hk w hv _ (.inl ⟨h0, rfl⟩)

end Go.Proofs.Ytgnjhjkbnchdmaa
/- Layer 16: the codes of IrLong, in memory. -/
namespace Go.Proofs.Ytgnjhjkbnchdmaa
open Go.RowKit
set_option linter.unusedVariables false
set_option linter.unusedSimpArgs false

def fSg (j : Nat) : Value := if j = 0 then .string ⟨#[119]⟩ else if j = 1 then .int .i64 1 else .int .i64 3
def fRg (j : Nat) : Value := if j = 0 then .int .i64 1 else if j = 1 then .int .i64 0 else if j = 2 then .int .i64 3 else if j = 3 then .int .i64 0 else if j = 4 then .int .i64 2 else .int .i64 0
theorem fSg_ok : ∀ i, i < (#[.string ⟨#[119]⟩, .int .i64 1, .int .i64 3] : Array Value).size → (#[.string ⟨#[119]⟩, .int .i64 1, .int .i64 3] : Array Value)[i]? = some (fSg i) := by
  intro i hi
  have hi' : i < 3 := hi
  obtain rfl | rfl | rfl : i = 0 ∨ i = 1 ∨ i = 2 := by omega
  all_goals rfl
theorem fRg_ok : ∀ i, i < (#[.int .i64 1, .int .i64 0, .int .i64 3, .int .i64 0, .int .i64 2, .int .i64 0] : Array Value).size → (#[.int .i64 1, .int .i64 0, .int .i64 3, .int .i64 0, .int .i64 2, .int .i64 0] : Array Value)[i]? = some (fRg i) := by
  intro i hi
  have hi' : i < 6 := hi
  obtain rfl | rfl | rfl | rfl | rfl | rfl : i = 0 ∨ i = 1 ∨ i = 2 ∨ i = 3 ∨ i = 4 ∨ i = 5 := by omega
  all_goals rfl
theorem rowIs_sign {v : World} {s : Nat} (h : v.rowIs s 43 3 fSg) (l : List Ins) : RowG 3 parCells v (.slice (some ⟨s, 0, none⟩) 1 1) (smallC l).sign := by
  refine ⟨_, _, rfl, .inr ⟨s, 0, rfl, fun i hi j hj => ?_⟩⟩
  have hi' : i < 1 := hi
  have hj' : j < 3 := hj
  obtain rfl : i = 0 := by omega
  obtain rfl | rfl | rfl : j = 0 ∨ j = 1 ∨ j = 2 := by omega
  · exact h.cell (i := 0) (by decide)
  · exact h.cell (i := 1) (by decide)
  · exact h.cell (i := 2) (by decide)
theorem rowIs_regs {v : World} {s : Nat} (h : v.rowIs s 45 6 fRg) (l : List Ins) : RowG 2 tyC v (.slice (some ⟨s, 0, none⟩) 3 3) (smallC l).regs := by
  refine ⟨_, _, rfl, .inr ⟨s, 0, rfl, fun i hi j hj => ?_⟩⟩
  have hi' : i < 3 := hi
  have hj' : j < 2 := hj
  obtain rfl | rfl | rfl : i = 0 ∨ i = 1 ∨ i = 2 := by omega
  all_goals obtain rfl | rfl : j = 0 ∨ j = 1 := by omega
  · exact h.cell (i := 0) (by decide)
  · exact h.cell (i := 1) (by decide)
  · exact h.cell (i := 2) (by decide)
  · exact h.cell (i := 3) (by decide)
  · exact h.cell (i := 4) (by decide)
  · exact h.cell (i := 5) (by decide)
/-- An own row lies in no row of another type. -/
theorem own_rowIs {w : World} {B : Nat} {t t' : TypeId} {k n n' b : Nat} {v : Value} {xs : List Value} {f : Nat → Value} (h : w.ownsRow B t k v n xs) (h' : w.rowIs b t' n' f) (ht : t ≠ t') : v.ownBlock ≠ some b := by
  intro hb
  rcases h.2 with ⟨rfl, _⟩ | ⟨g, cap, cur, rfl, _, hg, _⟩
  · exact absurd (show (none : Option Nat) = some b from hb) (by simp)
  obtain ⟨c, hc, -⟩ := h'
  have e1 : g = b := Option.some.inj hb
  rw [e1, hc] at hg
  simp only [Option.some.injEq, Obj.cells.injEq] at hg
  exact ht hg.2.1.symm

set_option maxRecDepth 100000 in
set_option maxHeartbeats 2000000 in
theorem small_blk (l : List Ins) (hl : l.length ≤ 1000) (v : Value) (w : World) (h : RowG 7 inC w v l) :
    Calls Try.prog 4 #[v] w fun e w' => ∃ s v3, e = .returned (.agg #[.slice (some ⟨s, 0, none⟩) 1 1, .slice (some ⟨s + 1, 0, none⟩) 3 3, .slice none 0 0, v3]) ∧ CdV w' (.slice (some ⟨s, 0, none⟩) 1 1) (.slice (some ⟨s + 1, 0, none⟩) 3 3) (.slice none 0 0) v3 (smallC l) ∧ w'.ownsRow w.heap.size 34 7 v3 l.length (flat inC l) ∧ Below w.heap.size w w' ∧ w'.rowIs s 43 3 fSg ∧ w'.rowIs (s + 1) 45 6 fRg ∧ w.heap.size < s := by
  have hw : (w.alloc (.cells #[.slice none 0 0, .slice none 0 0, .slice none 0 0, .slice none 0 0] 29)).heap.size = w.heap.size + 1 := by simp
  obtain ⟨vl, w3, hr, hb, hown⟩ := app_ins (h.below (bel_alloc w (.cells #[.slice none 0 0, .slice none 0 0, .slice none 0 0, .slice none 0 0] 29))) (by omega) 27
  obtain ⟨p, q, rfl⟩ := own_len hown
  rw [hw] at hb hown
  have HSR := fun V hV => small_rows hb hown V hV
  have HR : Hid ((Builtin.append_ #[27, 27] 27 #[.slice none 0 0, v]).run Try.prog (w.alloc (.cells #[.slice none 0 0, .slice none 0 0, .slice none 0 0, .slice none 0 0] 29)) = .ok (.slice p l.length q) w3) := hr
  have HS : Hid (∀ V, V = ((((((w3.alloc (.cells #[.string wName, .int .i64 1, .int .i64 3] 43)).alloc (.cells #[.int .i64 1, .int .i64 0, .int .i64 3, .int .i64 0, .int .i64 2, .int .i64 0] 45)).setCell ⟨w.heap.size, 0, none⟩ (.slice (some ⟨w3.heap.size, 0, none⟩) 1 1)).setCell ⟨w.heap.size, 1, none⟩ (.slice (some ⟨w3.heap.size + 1, 0, none⟩) 3 3)).setCell ⟨w.heap.size, 2, none⟩ (.slice none 0 0)).setCell ⟨w.heap.size, 3, none⟩ (.slice p l.length q)) → Below w.heap.size w V ∧ CdV V (.slice (some ⟨w3.heap.size, 0, none⟩) 1 1) (.slice (some ⟨w3.heap.size + 1, 0, none⟩) 3 3) (.slice none 0 0) (.slice p l.length q) (smallC l) ∧ V.ownsRow w.heap.size 34 7 (.slice p l.length q) l.length (flat inC l)) := HSR
  have hbb := hb.block w.heap.size (by omega)
  have f0 : w3.heap[w.heap.size]? = some (.cells #[.slice none 0 0, .slice none 0 0, .slice none 0 0, .slice none 0 0] 29) := by rw [hbb]; exact heap_alloc_new w _
  have e0 : w3.cell? ⟨w.heap.size, 0, none⟩ = some (.slice none 0 0) := by simp [World.cell?, f0]
  have e1 : w3.cell? ⟨w.heap.size, 1, none⟩ = some (.slice none 0 0) := by simp [World.cell?, f0]
  have e2 : w3.cell? ⟨w.heap.size, 2, none⟩ = some (.slice none 0 0) := by simp [World.cell?, f0]
  have e3 : w3.cell? ⟨w.heap.size, 3, none⟩ = some (.slice none 0 0) := by simp [World.cell?, f0]
  have z0 : w3.frozen? ⟨w.heap.size, 0, none⟩ = false := by simp [World.frozen?, f0]
  have z1 : w3.frozen? ⟨w.heap.size, 1, none⟩ = false := by simp [World.frozen?, f0]
  have z2 : w3.frozen? ⟨w.heap.size, 2, none⟩ = false := by simp [World.frozen?, f0]
  have z3 : w3.frozen? ⟨w.heap.size, 3, none⟩ = false := by simp [World.frozen?, f0]
  have hs3 := hb.size
  rw [hw] at hs3
  have m1 : w.heap.size ≠ w3.heap.size := by omega
  have m2 : w.heap.size ≠ w3.heap.size + 1 := by omega
  have k0 : ((w3.alloc (.cells #[.string ⟨#[119]⟩, .int .i64 1, .int .i64 3] 43)).alloc (.cells #[.int .i64 1, .int .i64 0, .int .i64 3, .int .i64 0, .int .i64 2, .int .i64 0] 45)).cell? ⟨w.heap.size, 0, none⟩ = some (.slice none 0 0) := kc (bel_alloc _ _) (kc (bel_alloc _ _) e0)
  have y0 : ((w3.alloc (.cells #[.string ⟨#[119]⟩, .int .i64 1, .int .i64 3] 43)).alloc (.cells #[.int .i64 1, .int .i64 0, .int .i64 3, .int .i64 0, .int .i64 2, .int .i64 0] 45)).frozen? ⟨w.heap.size, 0, none⟩ = false := kf (bel_alloc _ _) (kc (bel_alloc _ _) e0) (kf (bel_alloc _ _) e0 z0)
  have k1 : ((w3.alloc (.cells #[.string ⟨#[119]⟩, .int .i64 1, .int .i64 3] 43)).alloc (.cells #[.int .i64 1, .int .i64 0, .int .i64 3, .int .i64 0, .int .i64 2, .int .i64 0] 45)).cell? ⟨w.heap.size, 1, none⟩ = some (.slice none 0 0) := kc (bel_alloc _ _) (kc (bel_alloc _ _) e1)
  have y1 : ((w3.alloc (.cells #[.string ⟨#[119]⟩, .int .i64 1, .int .i64 3] 43)).alloc (.cells #[.int .i64 1, .int .i64 0, .int .i64 3, .int .i64 0, .int .i64 2, .int .i64 0] 45)).frozen? ⟨w.heap.size, 1, none⟩ = false := kf (bel_alloc _ _) (kc (bel_alloc _ _) e1) (kf (bel_alloc _ _) e1 z1)
  have k2 : ((w3.alloc (.cells #[.string ⟨#[119]⟩, .int .i64 1, .int .i64 3] 43)).alloc (.cells #[.int .i64 1, .int .i64 0, .int .i64 3, .int .i64 0, .int .i64 2, .int .i64 0] 45)).cell? ⟨w.heap.size, 2, none⟩ = some (.slice none 0 0) := kc (bel_alloc _ _) (kc (bel_alloc _ _) e2)
  have y2 : ((w3.alloc (.cells #[.string ⟨#[119]⟩, .int .i64 1, .int .i64 3] 43)).alloc (.cells #[.int .i64 1, .int .i64 0, .int .i64 3, .int .i64 0, .int .i64 2, .int .i64 0] 45)).frozen? ⟨w.heap.size, 2, none⟩ = false := kf (bel_alloc _ _) (kc (bel_alloc _ _) e2) (kf (bel_alloc _ _) e2 z2)
  have k3 : ((w3.alloc (.cells #[.string ⟨#[119]⟩, .int .i64 1, .int .i64 3] 43)).alloc (.cells #[.int .i64 1, .int .i64 0, .int .i64 3, .int .i64 0, .int .i64 2, .int .i64 0] 45)).cell? ⟨w.heap.size, 3, none⟩ = some (.slice none 0 0) := kc (bel_alloc _ _) (kc (bel_alloc _ _) e3)
  have y3 : ((w3.alloc (.cells #[.string ⟨#[119]⟩, .int .i64 1, .int .i64 3] 43)).alloc (.cells #[.int .i64 1, .int .i64 0, .int .i64 3, .int .i64 0, .int .i64 2, .int .i64 0] 45)).frozen? ⟨w.heap.size, 3, none⟩ = false := kf (bel_alloc _ _) (kc (bel_alloc _ _) e3) (kf (bel_alloc _ _) e3 z3)
  clear hr hb hown HSR h hbb f0
  go_enter Try.func4, Try.ntmps4
  go_wp2_with (at_builtin; refine wpList_app (by rfl) _ _ _ (by rfl) _ _ _ (by rfl) (by rfl) HR.out ?_)
  refine bodyPost_ret (by simp [results, Try.results4, go_sem, *]; try rfl) rfl ?_
  obtain ⟨hb, hc, ho⟩ := HS.out _ rfl
  refine ⟨_, _, rfl, hc, ho, hb, ?_, ?_, by omega⟩
  · exact ((((((World.rowIs_alloc w3 #[.string ⟨#[119]⟩, .int .i64 1, .int .i64 3] 43 fSg fSg_ok).alloc _).setOther (by show _ ≠ w.heap.size; omega) _).setOther (by show _ ≠ w.heap.size; omega) _).setOther (by show _ ≠ w.heap.size; omega) _).setOther (by show _ ≠ w.heap.size; omega) _)
  · have h9 := World.rowIs_alloc (w3.alloc (.cells #[.string ⟨#[119]⟩, .int .i64 1, .int .i64 3] 43)) #[.int .i64 1, .int .i64 0, .int .i64 3, .int .i64 0, .int .i64 2, .int .i64 0] 45 fRg fRg_ok
    rw [show (w3.alloc (.cells #[.string ⟨#[119]⟩, .int .i64 1, .int .i64 3] 43)).heap.size = w3.heap.size + 1 by simp] at h9
    exact ((((h9.setOther (by show _ ≠ w.heap.size; omega) _).setOther (by show _ ≠ w.heap.size; omega) _).setOther (by show _ ≠ w.heap.size; omega) _).setOther (by show _ ≠ w.heap.size; omega) _)

/-- The worlds of IrLong: the argument's box, the code's at D. -/
structure LG (w : World) (V0 V1 V2 : Int) (D s : Nat) (p : Option Addr) (q : Nat) (l : List Ins) (v : World) : Prop where
  bel : Below w.heap.size w v
  a0 : v.cell? ⟨w.heap.size, 0, none⟩ = some (.int .i64 V0)
  a1 : v.cell? ⟨w.heap.size, 1, none⟩ = some (.int .i64 V1)
  a2 : v.cell? ⟨w.heap.size, 2, none⟩ = some (.int .i64 V2)
  box : v.rowIs D 29 4 (f4 (.slice (some ⟨s, 0, none⟩) 1 1) (.slice (some ⟨s + 1, 0, none⟩) 3 3) (.slice none 0 0) (.slice p l.length q))
  own : v.ownsRow (w.heap.size + 1) 34 7 (.slice p l.length q) l.length (flat inC l)
  sg : v.rowIs s 43 3 fSg
  rg : v.rowIs (s + 1) 45 6 fRg
  hD : w.heap.size < D
section
variable {w : World} {V0 V1 V2 : Int} {D s : Nat} {p : Option Addr} {q : Nat} {l : List Ins} {v : World}
theorem LG.cdv (h : LG w V0 V1 V2 D s p q l v) : CdV v (.slice (some ⟨s, 0, none⟩) 1 1) (.slice (some ⟨s + 1, 0, none⟩) 3 3) (.slice none 0 0) (.slice p l.length q) (smallC l) :=
  ⟨rowIs_sign h.sg l, rowIs_regs h.rg l, ⟨none, 0, rfl, .inl rfl⟩, own_row inC_len h.own⟩
theorem LG.next {v' : World} (h : LG w V0 V1 V2 D s p q l v) (k : Below v.heap.size v v') : LG w V0 V1 V2 D s p q l v' :=
  ⟨Go.Proofs.Ytgnjhjkbnchdmaa.bel h.bel k, kc k h.a0, kc k h.a1, kc k h.a2, h.box.of_block (k.block _ h.box.lt), own_below h.own k, h.sg.of_block (k.block _ h.sg.lt), h.rg.of_block (k.block _ h.rg.lt), h.hD⟩
theorem t_ci : 34 ≠ 29 := by decide
theorem t_pi : 34 ≠ 43 := by decide
theorem t_ti : 34 ≠ 45 := by decide
theorem t_cp : 29 ≠ 43 := by decide
theorem t_ct : 29 ≠ 45 := by decide
theorem rowIs_ne {b b' n n' : Nat} {t t' : TypeId} {f g : Nat → Value} (h : v.rowIs b t n f) (h' : v.rowIs b' t' n' g) (ht : t ≠ t') : b ≠ b' := by
  intro e
  obtain ⟨c, hc, -⟩ := h
  obtain ⟨c', hc', -⟩ := h'
  rw [e, hc'] at hc
  simp only [Option.some.injEq, Obj.cells.injEq] at hc
  exact ht hc.2.1.symm
/-- The box's list is another one. -/
theorem LG.put {w' : World} {p' : Option Addr} {q' : Nat} {l' : List Ins} (h : LG w V0 V1 V2 D s p q l v) (hb : Below (w.heap.size + 1) v w') (ho : w'.ownsRow (w.heap.size + 1) 34 7 (.slice p' l'.length q') l'.length (flat inC l')) (hoth : ∀ b, b < v.heap.size → (Value.slice p l.length q).ownBlock ≠ some b → w'.heap[b]? = v.heap[b]?) :
    w'.cell? ⟨D, 3, none⟩ = some (.slice p l.length q) ∧ w'.frozen? ⟨D, 3, none⟩ = false ∧ LG w V0 V1 V2 D s p' q' l' (w'.setCell ⟨D, 3, none⟩ (.slice p' l'.length q')) := by
  have f : ∀ {b n : Nat} {t : TypeId} {f : Nat → Value}, v.rowIs b t n f → 34 ≠ t → w'.rowIs b t n f := fun hr ht => hr.of_block (hoth _ hr.lt (own_rowIs h.own hr ht))
  have hbox := f h.box t_ci
  have c9 : ∀ j, w'.cell? ⟨w.heap.size, j, none⟩ = v.cell? ⟨w.heap.size, j, none⟩ := fun j => hb.cell (Nat.lt_succ_self _)
  have hD := h.hD
  have d9 : ∀ j x, (w'.setCell ⟨D, 3, none⟩ x).cell? ⟨w.heap.size, j, none⟩ = w'.cell? ⟨w.heap.size, j, none⟩ := fun j x => World.cell?_of_block (Below.heap_setCell _ _ _ _ (by show w.heap.size ≠ D; omega))
  refine ⟨hbox.cell (i := 3) (by decide), hbox.frozen 3, (h.bel.trans (hb.mono (Nat.le_succ _))).setCell (by show w.heap.size ≤ D; omega) _, (d9 0 _).trans ((c9 0).trans h.a0), (d9 1 _).trans ((c9 1).trans h.a1), (d9 2 _).trans ((c9 2).trans h.a2), (hbox.set 3 _).congr (fun j hj => ?_), own_keep ho (fun g hg => Below.heap_setCell _ _ _ _ (fun e => own_rowIs ho hbox t_ci (hg.trans (congrArg some e)))), (f h.sg t_pi).setOther (Ne.symm (rowIs_ne h.box h.sg t_cp)) _, (f h.rg t_ti).setOther (Ne.symm (rowIs_ne h.box h.rg t_ct)) _, h.hD⟩
  have hj' : j < 4 := hj
  obtain rfl | rfl | rfl | rfl : j = 0 ∨ j = 1 ∨ j = 2 ∨ j = 3 := by omega
  all_goals simp [f4]
theorem rowG_lit (w : World) (cs : Array Value) (m : List Ins) (h : cs.toList = flat inC m) : RowG 7 inC (w.alloc (.cells cs 34)) (.slice (some ⟨w.heap.size, 0, none⟩) m.length m.length) m := by
  refine ⟨_, _, rfl, .inr ⟨w.heap.size, 0, rfl, fun i hi j hj => ?_⟩⟩
  have hj' : j < 7 := by rw [← inC_len m[i]]; exact hj
  have h1 := flat_at inC_len m i j hi hj'
  rw [← h] at h1
  have h2 : cs[0 + i * 7 + j]? = some (inC m[i])[j] := by
    rw [Nat.zero_add, ← Array.getElem?_toList, h1]
    exact List.getElem?_eq_getElem hj
  have h3 : (w.alloc (.cells cs 34)).heap[w.heap.size]? = some (.cells cs 34 (0, 0)) := heap_alloc_new w _
  unfold World.cell?
  simp only [h3]
  exact h2
/-- More instructions. -/
theorem LG.more (h : LG w V0 V1 V2 D s p q l v) (m : List Ins) (cs : Array Value) (hcs : cs.toList = flat inC m) (hl : (l.length + m.length) * 56 ≤ 140737488351232) :
    ∃ p' c' w', (Builtin.append_ #[27, 27] 27 #[.slice p l.length q, .slice (some ⟨v.heap.size, 0, none⟩) m.length m.length]).run Try.prog (v.alloc (.cells cs 34)) = .ok (.slice p' (l.length + m.length) c') w' ∧ w'.cell? ⟨D, 3, none⟩ = some (.slice p l.length q) ∧ w'.frozen? ⟨D, 3, none⟩ = false ∧ LG w V0 V1 V2 D s p' c' (l ++ m) (w'.setCell ⟨D, 3, none⟩ (.slice p' (l.length + m.length) c')) := by
  have h1 := h.next (bel_alloc v (.cells cs 34))
  obtain ⟨p', c', w', hap, hb, ho, hoth⟩ := app_on h1.own (rowG_lit v cs m hcs) (by have := h1.box.lt; have := h.hD; omega) hl
  have ho' : w'.ownsRow (w.heap.size + 1) 34 7 (.slice p' (l ++ m).length c') (l ++ m).length (flat inC (l ++ m)) := by rw [List.length_append]; rw [List.length_append] at ho; exact ho
  obtain ⟨h2, h3, h4⟩ := h1.put hb ho' hoth
  refine ⟨p', c', w', hap, h2, h3, ?_⟩
  rw [List.length_append] at h4
  exact h4
end
theorem long_start (w : World) (V0 V1 V2 : Int) (W0 w1 : World) (s : Nat) (p : Option Addr) (q : Nat) (hs : W0.heap.size = w.heap.size + 1 + 1) (hb : Below W0.heap.size W0 w1) (hbw : Below w.heap.size w W0) (h0 : W0.cell? ⟨w.heap.size, 0, none⟩ = some (.int .i64 V0)) (h1 : W0.cell? ⟨w.heap.size, 1, none⟩ = some (.int .i64 V1)) (h2 : W0.cell? ⟨w.heap.size, 2, none⟩ = some (.int .i64 V2)) (ho : w1.ownsRow W0.heap.size 34 7 (.slice p 1 q) 1 (flat inC [⟨2, 2, 0, 0, 0, 1, 0⟩])) (hsg : w1.rowIs s 43 3 fSg) (hrg : w1.rowIs (s + 1) 45 6 fRg) :
    LG w V0 V1 V2 w1.heap.size s p q [⟨2, 2, 0, 0, 0, 1, 0⟩] (w1.alloc (.cells #[.slice (some ⟨s, 0, none⟩) 1 1, .slice (some ⟨s + 1, 0, none⟩) 3 3, .slice none 0 0, .slice p 1 q] 29)) := by
  have k := bel_alloc w1 (.cells #[.slice (some ⟨s, 0, none⟩) 1 1, .slice (some ⟨s + 1, 0, none⟩) 3 3, .slice none 0 0, .slice p 1 q] 29)
  have hz := hb.size
  refine ⟨Go.Proofs.Ytgnjhjkbnchdmaa.bel hbw (Go.Proofs.Ytgnjhjkbnchdmaa.bel hb k), kc k (kc hb h0), kc k (kc hb h1), kc k (kc hb h2), ?_, own_mono (own_below ho k) (by omega), hsg.alloc _, hrg.alloc _, by omega⟩
  refine World.rowIs_alloc w1 _ _ _ (fun i hi => ?_)
  have hi' : i < 4 := hi
  obtain rfl | rfl | rfl | rfl : i = 0 ∨ i = 1 ∨ i = 2 ∨ i = 3 := by omega
  all_goals rfl

end Go.Proofs.Ytgnjhjkbnchdmaa
