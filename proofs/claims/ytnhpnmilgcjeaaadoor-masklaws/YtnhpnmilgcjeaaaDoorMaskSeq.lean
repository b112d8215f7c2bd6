import Derived.RangeFuncNested
import Derived.RangeFuncBound
import Derived.RangeFuncCalls
import Derived.RangeFuncLeaves
import Derived.Shelf.Abstract
import Derived.Shelf.RegionOpen
import Derived.WalkKit
import Derived.OwnWalkIn
import Derived.TacticsInMore
import Derived.LoopNIn
import Derived.LoopIn
import Derived.Test.YtnhpnmilgcjeaaaDoorMaskStr
/- strings.SplitSeq at a star: the iterator keeps what is left of the text in a cell of its own. -/
namespace Go.Proofs.YtnhpnmilgcjeaaaDoor
open Go.RowKit Go.Shelf
set_option linter.unusedVariables false
set_option linter.unusedSimpArgs false
attribute [local go_sem] Oper.semAt_some

/-- The iterator's three cells. -/
structure Sq (S T U : Nat) (r : ByteArray) (W : World) : Prop where
  size : r.size ≤ 1152921504606846975
  s : W.cell? ⟨S, 0, none⟩ = some (.string r)
  f : W.frozen? ⟨S, 0, none⟩ = false
  t : W.cell? ⟨T, 0, none⟩ = some (.string ⟨#[42]⟩)
  u : W.cell? ⟨U, 0, none⟩ = some (.int .i64 0)
def lenAt (S : Nat) (W : World) : Nat := match W.cell? ⟨S, 0, none⟩ with | some (.string r) => r.size | _ => 0
theorem Sq.len {S T U : Nat} {r : ByteArray} {W : World} (h : Sq S T U r W) : lenAt S W = r.size := by unfold lenAt; rw [h.s]
/-- What is left behind the first star. -/
def aft (r : ByteArray) (k : Nat) : ByteArray := r.extract (k + 1) r.size
theorem aft_size {r : ByteArray} {k : Nat} (h : k < r.size) : (aft r k).size < r.size := by unfold aft; rw [ByteArray.size_extract]; omega
theorem star_lt {r : ByteArray} {k : Nat} (h : starAt (gs r) = some k) : k < r.size := by
  obtain ⟨x, y, he, _, hl⟩ := star_some h
  rw [← gs_length, he]
  simp
  omega

set_option maxHeartbeats 2000000 in
theorem split1_in (n : Nat) (l S T U : Nat) (hn : 1 ≤ n) (J : ByteArray → World → Prop) (Jd Jx : World → Prop)
    (hJ : ∀ r W, J r W → Sq S T U r W)
    (hY : ∀ r k W, J r W → starAt (gs r) = some k → YieldAt Fence.wide (n - 1) Tryd.prog l #[.string (r.extract 0 k)] W fun e W' => (e = .returned (.bool true) ∧ Sq S T U r W' ∧ J (aft r k) (W'.setCell ⟨S, 0, none⟩ (.string (aft r k)))) ∨ (e = .returned (.bool false) ∧ Jx W'))
    (hZ : ∀ r W, J r W → starAt (gs r) = none → YieldAt Fence.wide (n - 1) Tryd.prog l #[.string r] W fun e W' => (e = .returned (.bool true) ∧ Jd W') ∨ (e = .returned (.bool false) ∧ Jx W'))
    (r0 : ByteArray) (W : World) (h0 : J r0 W) :
    CallsIn Fence.wide n Tryd.prog 35 #[.func (.yield l) #[] #[], .pointer (some ⟨T, 0, none⟩), .pointer (some ⟨S, 0, none⟩), .pointer (some ⟨U, 0, none⟩)] W fun e W' => (∃ v, e = .returned v) ∧ (Jd W' ∨ Jx W') := by
  have q0 := hJ r0 W h0
  have c1 := q0.t
  refine callsIn_of_wp Tryd.func35 rfl trivial ?_ rfl
  simp only [Tryd.ntmps35, List.size_toArray, List.length_cons, List.length_nil, Nat.reduceAdd, Nat.reduceSub, Array.replicate_succ, Array.replicate_zero, List.push_toArray, List.append_toArray, List.nil_append, List.cons_append]
  gi_wp2
  clear c1
  gi_loopw [7] (fun _ wr => ∃ r, J r wr) (fun _ wr => lenAt S wr)
  case atStart => exact ⟨r0, h0⟩
  case round =>
    obtain ⟨r, hr⟩ := hrel
    have q := hJ r wr hr
    have cs := q.s
    have ct := q.t
    have cu := q.u
    have HI : Hid (∀ v, CallsIn Fence.wide (n - 1) Tryd.prog 37 #[.string r, .string ⟨#[42]⟩] v fun e w' => e = .returned (.int .i64 (starI (gs r))) ∧ w' = v) := fun v => callsIn_wide.2 (index_any r v)
    cases hst : starAt (gs r) with
    | none =>
      have hsi : starI (gs r) = -1 := by unfold starI; rw [hst]
      rw [hsi] at HI
      obtain ⟨fn, tmps, assign, body, hy, hR⟩ := hZ r wr hr hst
      have HR : Hid (RoundIn Fence.wide (n - 1) Tryd.prog l fn tmps assign body wr fun e W' => (e = .returned (.bool true) ∧ Jd W') ∨ (e = .returned (.bool false) ∧ Jx W')) := hR
      clear hR hY hZ hJ hsi
      gi_wp2_with (refine ⟨trivial, ?_⟩; gi_at_call 37; refine (HI.out _).mono ?_; rintro e w1 ⟨rfl, rfl⟩)
      refine HR.out.mono ?_
      rintro e W3 (⟨rfl, hd⟩ | ⟨rfl, hx⟩)
      · gi_wp2
        go_end0
        exact ⟨⟨_, rfl⟩, .inl hd⟩
      · gi_wp2
        go_end0
        exact ⟨⟨_, rfl⟩, .inr hx⟩
    | some k =>
      have hk := star_lt hst
      have hsi : starI (gs r) = (k : Int) := by unfold starI; rw [hst]
      rw [hsi] at HI
      have hsz := q.size
      have k0 : (0 : Int) ≤ (k : Int) := by omega
      have k1 : (k : Int) ≤ (r.size : Int) := by omega
      have k2 : (k : Int) + 1 ≤ (r.size : Int) := by omega
      have k3 : (0 : Int) ≤ (k : Int) + 1 := by omega
      have hw1 : IntKind.i64.wrap ((k : Int) + 1) = (k : Int) + 1 := by rw [IntKind.wrap_i64]; omega
      have hw0 : IntKind.i64.wrap (k : Int) = (k : Int) := by rw [IntKind.wrap_i64]; omega
      have ql := q.len
      obtain ⟨fn, tmps, assign, body, hy, hR⟩ := hY r k wr hr hst
      have HR : Hid (RoundIn Fence.wide (n - 1) Tryd.prog l fn tmps assign body wr fun e W' => (e = .returned (.bool true) ∧ Sq S T U r W' ∧ J (aft r k) (W'.setCell ⟨S, 0, none⟩ (.string (aft r k)))) ∨ (e = .returned (.bool false) ∧ Jx W')) := hR
      have haz := aft_size hk
      have HJ : Hid (∀ r W, J r W → Sq S T U r W) := hJ
      clear hR hY hZ hJ hsi
      gi_wp2_with (refine ⟨trivial, ?_⟩; gi_at_call 37; refine (HI.out _).mono ?_; rintro e w1 ⟨rfl, rfl⟩)
      refine HR.out.mono ?_
      rintro e W3 (⟨rfl, q3, hj3⟩ | ⟨rfl, hx⟩)
      · have ds := q3.s
        have df := q3.f
        have dt := q3.t
        have du := q3.u
        have haf : r.extract (k + 1) r.size = aft r k := rfl
        have q4 := HJ.out _ _ hj3
        have ql4 := q4.len
        clear cs ct cu
        gi_wp2
        refine ⟨⟨_, hj3⟩, ?_⟩
        rw [ql4, ql]
        exact haz
      · gi_wp2
        refine bodyPost_ret (results_none rfl _ _ _) rfl ?_
        exact ⟨⟨_, rfl⟩, .inr hx⟩

/-- How a round's body may be left: on to Ok, or by a return to Ix. -/
def sqPost (Ok Ix : World → Prop) (W : World) : Exit → Act → World → Prop
  | .normal, _, W' => KeepsOthers W W' ∧ Ok W'
  | .ret, _, W' => KeepsOthers W W' ∧ Ix W'
  | _, _, _ => False
/-- What the loop's own book-keeping leaves as it is. -/
def Stays (B : Nat) (I : World → Prop) : Prop := (∀ (W : World) (l : Nat) (o o' : Obj), I W → B ≤ l → W.heap[l]? = some o → o.isCells = false → I (W.putObj l o')) ∧ ∀ (W : World) (o : Obj), I W → I (W.alloc o)

/-- The book of one loop: its record and the block for deferred calls. -/
structure Book (D l : Nat) (rc : Loop) (W : World) : Prop where
  lp : W.heap[l]? = some (.loop rc)
  def_ : W.heap[D]? = some (.deferred (some []))
theorem Book.keeps {D l : Nat} {rc : Loop} {W W' : World} (h : Book D l rc W) (k : KeepsOthers W W') : Book D l rc W' := ⟨k.same _ _ h.lp rfl, k.same _ _ h.def_ rfl⟩
theorem Book.put {D l : Nat} {rc : Loop} {W : World} (h : Book D l rc W) (hDl : D ≠ l) (rc' : Loop) : Book D l rc' (W.putObj l (.loop rc')) :=
  ⟨World.putObj_heap_same (Array.getElem?_eq_some_iff.1 h.lp).1, (World.putObj_heap_other hDl).trans h.def_⟩

/-- One round: yield is called with one value. -/
theorem round_at {n : Nat} {P : Program} {fn : FuncId} {D l t : Nat} {tm : Array Value} {assign body : Code} {W : World} {x : Value} {Ok Ok' Ix Ix' : World → Prop} {rc : Loop}
    (hDl : D ≠ l) (hb : Book D l rc W) (hst : rc.state = .ready) (hfn : rc.fn = fn) (htm : rc.tmps = tm) (hps : rc.params = #[t]) (has : rc.assign = assign) (hbd : rc.body = body) (a₁ : Act)
    (hassign : ∀ (K : Act → World → Prop), K a₁ W → assign.wpIn (Fence.wide.inRound l) n P (Exit.then K (fun _ _ _ => False)) { tmps := tm.setIfInBounds t x, defers := [] } W)
    (hbody : body.wpIn (Fence.wide.inRound l) n P (sqPost Ok Ix (W.putObj l (.loop { rc with state := .busy }))) a₁ (W.putObj l (.loop { rc with state := .busy })))
    (hok : ∀ W', Ok W' → Book D l { rc with state := .busy } W' → Ok' (W'.putObj l (.loop { rc with state := .ready, pending := none })))
    (hix : ∀ W', Ix W' → Book D l { rc with state := .busy } W' → Ix' (W'.putObj l (.loop { rc with state := .done, pending := some .ret }))) :
    YieldAt Fence.wide n P l #[x] W fun e W' => (e = .returned (.bool true) ∧ Ok' W' ∧ Book D l { rc with state := .ready, pending := none } W') ∨ (e = .returned (.bool false) ∧ Ix' W' ∧ Book D l { rc with state := .done, pending := some .ret } W') := by
  have hy := run_yield (P := P) (args := #[x]) hb.lp (by rw [hps]; rfl)
  rw [hps, htm, hfn, has, hbd] at hy
  have hz : ((#[t].zip #[x]).foldl (fun tmps (t, a) => tmps.setIfInBounds t a) tm) = tm.setIfInBounds t x := by simp
  rw [hz] at hy
  refine ⟨fn, _, assign, body, hy, roundIn_of_wpIn trivial (hassign _ ⟨_, run_beginRound hb.lp hst, ?_⟩)⟩
  have hb2 := hb.put hDl { rc with state := .busy }
  refine wpIn_mono hbody ?_
  rintro e a3 W3 hp
  cases e with
  | normal =>
    have hb3 := hb2.keeps hp.1
    have hr := run_endRound (P := P) none hb3.lp
    exact ⟨_, _, hr, .inl ⟨rfl, hok W3 hp.2 hb3, hb3.put hDl _⟩⟩
  | ret =>
    have hb3 := hb2.keeps hp.1
    have hr := run_endRound (P := P) (some .ret) hb3.lp
    exact ⟨_, _, hr, .inr ⟨rfl, hix W3 hp.2 hb3, hb3.put hDl _⟩⟩
  | exit id => exact hp.elim
  | goto t => exact hp.elim
  | panic ch => exact hp.elim
  | outgrown => exact hp.elim

theorem Sq.put {S T U : Nat} {r : ByteArray} {W : World} (q : Sq S T U r W) {l : Nat} {o : Obj} (h : W.heap[l]? = some o) (ho : o.isCells = false) (o' : Obj) : Sq S T U r (W.putObj l o') := by
  have hr : ∀ x, some l = some x → ∃ o : Obj, W.heap[x]? = some o ∧ o.isCells = false := fun x e => by cases e; exact ⟨o, h, ho⟩
  exact ⟨q.size, cell_kept q.s (grownBy_putObj' W l o') hr, (frozen_kept q.s (grownBy_putObj' W l o') hr).trans q.f, cell_kept q.t (grownBy_putObj' W l o') hr, cell_kept q.u (grownBy_putObj' W l o') hr⟩
theorem put_set {W : World} {l S : Nat} {o' : Obj} {v : Value} (h : S ≠ l) : (W.putObj l o').setCell ⟨S, 0, none⟩ v = (W.setCell ⟨S, 0, none⟩ v).putObj l o' := by
  unfold World.setCell World.putObj
  simp only
  congr 1
  apply Array.ext_getElem?
  intro i
  by_cases h1 : i = l
  · subst h1
    simp only [Array.getElem?_modify, Array.getElem?_setIfInBounds, if_neg h, Array.size_modify, if_pos]
  · by_cases h2 : i = S
    · subst h2
      simp only [Array.getElem?_modify, Array.getElem?_setIfInBounds, if_neg (Ne.symm h1), if_pos]
    · simp only [Array.getElem?_modify, Array.getElem?_setIfInBounds, if_neg (Ne.symm h1), if_neg (Ne.symm h2)]

/-- The statement 'for piece := range strings.SplitSeq(.., "*")': I r: between two rounds, r being left; Id: all has come; Ix: a round has returned. -/
theorem wpIn_range_split {n : Nat} {g : Operand} {t : Tmp} {assign body : Code} {Q : Exit → Act → World → Prop} {a : Act} {w : World} {S T U : Nat} (hn : 2 ≤ n)
    (hg : a.eval g = .func (.func 35) #[] #[.pointer (some ⟨T, 0, none⟩), .pointer (some ⟨S, 0, none⟩), .pointer (some ⟨U, 0, none⟩)])
    (I : ByteArray → World → Prop) (Id Ix : World → Prop) (hI : ∀ r W, I r W → Sq S T U r W)
    (sI : ∀ r, Stays w.heap.size (I r)) (sd : Stays w.heap.size Id) (sx : Stays w.heap.size Ix) (hlt : S < w.heap.size ∧ T < w.heap.size ∧ U < w.heap.size)
    (r0 : ByteArray) (h0 : I r0 w) (a₁ : ByteArray → Act)
    (hassign : ∀ (l : Nat) (x : ByteArray) (W : World) (K : Act → World → Prop), K (a₁ x) W → assign.wpIn (Fence.wide.inRound l) (n - 1 - 1) Tryd.prog (Exit.then K (fun _ _ _ => False)) { tmps := a.tmps.setIfInBounds t (.string x), defers := [] } W)
    (hb1 : ∀ l r k W, I r W → starAt (gs r) = some k → body.wpIn (Fence.wide.inRound l) (n - 1 - 1) Tryd.prog (sqPost (fun W' => Sq S T U r W' ∧ I (aft r k) (W'.setCell ⟨S, 0, none⟩ (.string (aft r k)))) Ix W) (a₁ (r.extract 0 k)) W)
    (hb2 : ∀ l r W, I r W → starAt (gs r) = none → body.wpIn (Fence.wide.inRound l) (n - 1 - 1) Tryd.prog (sqPost Id Ix W) (a₁ r) W)
    (hdone : ∀ (D : Nat) (W : World), w.heap.size ≤ D → Id W → W.heap[D]? = some (.deferred (some [])) → Q .normal { a with defers := { target := .collected D, args := #[] } :: a.defers } W)
    (hstop : ∀ (D : Nat) (W : World), w.heap.size ≤ D → Ix W → W.heap[D]? = some (.deferred (some [])) → Code.ret.wpIn Fence.wide n Tryd.prog Q { a with defers := { target := .collected D, args := #[] } :: a.defers } W) :
    (Code.rangeFunc g #[t] assign body).wpIn Fence.wide n Tryd.prog Q a w := by
  refine wpIn_rangeFunc ?_
  intro fn _
  obtain ⟨rc, hrc⟩ : ∃ rc : Loop, rc = { state := .ready, pending := none, fn, tmps := a.tmps, params := #[t], assign, body, defers := w.heap.size } := ⟨_, rfl⟩
  have hrr : ({ rc with state := .ready, pending := none } : Loop) = rc := by rw [hrc]
  have hDl : w.heap.size ≠ w.heap.size + 1 := by omega
  have hbk : Book w.heap.size (w.heap.size + 1) rc ((w.alloc (.deferred (some []))).alloc (.loop rc)) := by
    refine ⟨?_, (Below.heap_alloc _ _ _ (by simp)).trans (World.alloc_heap_new w _)⟩
    have := World.alloc_heap_new (w.alloc (.deferred (some []))) (.loop rc)
    rwa [World.size_alloc] at this
  have hI1 : I r0 ((w.alloc (.deferred (some []))).alloc (.loop rc)) := (sI r0).2 _ _ ((sI r0).2 _ _ h0)
  obtain ⟨W1, hW1⟩ : ∃ W1, (w.alloc (.deferred (some []))).alloc (.loop rc) = W1 := ⟨_, rfl⟩
  have hen : (Instr.enterLoop fn a.tmps #[t] assign body Fence.wide.round).run Tryd.prog w = .ok (w.heap.size + 1, [{ target := .collected w.heap.size, args := #[] }]) W1 := by
    rw [← hW1, hrc]; exact run_enterLoop_outer _ _ _ _ _
  rw [hW1] at hbk hI1
  refine ⟨w.heap.size + 1, _, W1, { target := .fn (.func 35) #[.pointer (some ⟨T, 0, none⟩), .pointer (some ⟨S, 0, none⟩), .pointer (some ⟨U, 0, none⟩)], args := #[.func (.yield (w.heap.size + 1)) #[] #[]] }, W1, 35,
    #[.func (.yield (w.heap.size + 1)) #[] #[], .pointer (some ⟨T, 0, none⟩), .pointer (some ⟨S, 0, none⟩), .pointer (some ⟨U, 0, none⟩)], W1, hen, ?_, fun _ _ => trivial, ?_, fun h => absurd h (by decide), ?_⟩
  · simp only [resolve, hg]
    simp [go_sem]
  · have eg : ∀ args w, (callFunc 35 args).run Tryd.prog w = .ok (.enter 35 args) w := enters_of Tryd.func35 (by kernel_rfl) rfl
    simp [invoke, go_sem, eg]
  · refine (split1_in (n - 1) (w.heap.size + 1) S T U (by omega) (fun r W => I r W ∧ Book w.heap.size (w.heap.size + 1) rc W) (fun W => Id W ∧ Book w.heap.size (w.heap.size + 1) rc W)
      (fun W => Ix W ∧ Book w.heap.size (w.heap.size + 1) { rc with state := .done, pending := some .ret } W) (fun r W h => hI r W h.1) ?_ ?_ r0 W1 ⟨hI1, hbk⟩).mono ?_
    · rintro r k W ⟨hi, hb⟩ hst
      have key := round_at (n := n - 1 - 1) (P := Tryd.prog) (fn := fn) (x := .string (r.extract 0 k)) (Ok := fun W' => Sq S T U r W' ∧ I (aft r k) (W'.setCell ⟨S, 0, none⟩ (.string (aft r k)))) (Ok' := fun W' => Sq S T U r W' ∧ I (aft r k) (W'.setCell ⟨S, 0, none⟩ (.string (aft r k)))) (Ix := Ix) (Ix' := Ix) hDl hb (by rw [hrc]) (by rw [hrc]) (by rw [hrc]) (by rw [hrc]) (by rw [hrc]) (by rw [hrc]) (a₁ (r.extract 0 k))
        (fun K hK => hassign _ _ W K hK) (hb1 _ r k _ ((sI r).1 _ _ _ _ hi (by omega) hb.lp rfl) hst)
        (fun W' hk hb' => ⟨?_, by rw [put_set (by omega)]; exact (sI _).1 _ _ _ _ hk.2 (by omega) ((KeepsOthers.setCell _ _ _).same _ _ hb'.lp rfl) rfl⟩) (fun W' hk hb' => sx.1 _ _ _ _ hk (by omega) hb'.lp rfl)
      · refine key.mono ?_
        rintro e W' (⟨rfl, ⟨hq, hj⟩, hb'⟩ | ⟨rfl, hx, hb'⟩)
        · rw [hrr] at hb'
          exact .inl ⟨rfl, hq, hj, hb'.keeps (KeepsOthers.setCell _ _ _)⟩
        · exact .inr ⟨rfl, hx, hb'⟩
      · exact hk.1.put hb'.lp rfl _
    · rintro r W ⟨hi, hb⟩ hst
      have key := round_at (n := n - 1 - 1) (P := Tryd.prog) (fn := fn) (x := .string r) (Ok := Id) (Ok' := Id) (Ix := Ix) (Ix' := Ix) hDl hb (by rw [hrc]) (by rw [hrc]) (by rw [hrc]) (by rw [hrc]) (by rw [hrc]) (by rw [hrc]) (a₁ r)
        (fun K hK => hassign _ _ W K hK) (hb2 _ r _ ((sI r).1 _ _ _ _ hi (by omega) hb.lp rfl) hst)
        (fun W' hk hb' => sd.1 _ _ _ _ hk (by omega) hb'.lp rfl) (fun W' hk hb' => sx.1 _ _ _ _ hk (by omega) hb'.lp rfl)
      refine key.mono ?_
      rintro e W' (⟨rfl, hd, hb'⟩ | ⟨rfl, hx, hb'⟩)
      · rw [hrr] at hb'
        exact .inl ⟨rfl, hd, hb'⟩
      · exact .inr ⟨rfl, hx, hb'⟩
    · rintro e W2 ⟨⟨v, rfl⟩, (⟨hd, hb⟩ | ⟨hx, hb⟩)⟩
      · refine ⟨none, _, (run_endLoop (P := Tryd.prog) hb.lp (by rw [hrc]; simp)).trans (by rw [hrc]), hdone _ _ (Nat.le_refl _) (sd.1 _ _ _ _ hd (by omega) hb.lp rfl) (hb.put hDl _).def_⟩
      · refine ⟨some .ret, _, run_endLoop (P := Tryd.prog) hb.lp (by simp), hstop _ _ (Nat.le_refl _) (sx.1 _ _ _ _ hx (by omega) hb.lp rfl) (hb.put hDl _).def_⟩

end Go.Proofs.YtnhpnmilgcjeaaaDoor
