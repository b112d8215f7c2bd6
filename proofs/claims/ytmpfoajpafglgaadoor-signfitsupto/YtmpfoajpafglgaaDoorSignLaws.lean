import Derived.Test.YtmpfoajpafglgaaDoorSignPrint
/- The statements' own: same, works. -/
namespace Go.Proofs.YtmpfoajpafglgaaDoor
open Go.RowKit
set_option linter.unusedVariables false
set_option linter.unusedSimpArgs false

set_option maxRecDepth 100000 in
set_option maxHeartbeats 1000000 in
theorem same_any (u v : Value) (l : List Par) (hn : l.length ≤ 140737488351232) (w : World) (hu : Rd w u l) (hv : Rd w v l) :
    Calls Tryd.prog 17 #[u, v] w fun e w' => e = .returned (.bool true) ∧ Below w.heap.size w w' := by
  obtain ⟨p, c, rfl, hu⟩ := hu
  obtain ⟨q, d, rfl, hv⟩ := hv
  obtain ⟨n, hln⟩ : ∃ n, l.length = n := ⟨_, rfl⟩
  rw [hln] at hn ⊢
  have HN : Hid (l.length = n) := hln
  have HU : Hid (Row w p l) := hu
  have HV : Hid (Row w q l) := hv
  clear hln hu hv
  go_enter Tryd.func17, Tryd.ntmps17
  go_wp2
  go_loopw [5] (fun iv wr => Below w.heap.size w wr ∧ ∃ i : Nat, i ≤ n ∧ iv = .int .i64 i) (fun iv _ => n - (intOf iv).toNat)
  case atStart => exact ⟨bel0 w, 0, Nat.zero_le _, rfl⟩
  case round =>
    obtain ⟨hb, i, hi, rfl⟩ := hrel
    by_cases hlt : i < n
    · have hll : i < l.length := by rw [HN.out]; exact hlt
      obtain ⟨b, o, rfl, hx⟩ := HU.out.at hll
      obtain ⟨b', o', rfl, hy⟩ := HV.out.at hll
      obtain ⟨x0, x1, x2⟩ := hx.below hb
      obtain ⟨y0, y1, y2⟩ := hy.below hb
      obtain ⟨K, X, A⟩ := l[i]
      have i1 : (0 : Int) ≤ (i : Int) := by omega
      have i2 : (i : Int) < (n : Int) := by omega
      clear hx hy
      go_wp2
      go_quiet (fail)
      go_wp2
      go_roundw
      case rel => exact ⟨bel hb (bel_dn _ _), i + 1, by omega, by go_num⟩
      case measure => simp [intOf]; omega
    · have : i = n := by omega
      subst this
      go_wp2
      go_ret
      exact ⟨rfl, hb⟩

/-- As wpList_append_own_at, of an append that is asked under a guard. -/
theorem wpList_append_when {P : Program} {w : World} {ops : Array Oper} {rest : List Oper} {o : Oper} {a : Act} {Q : Exit → Act → World → Prop} (hwt : Region.wanted o (yielded ops a.tmps) = true) (s x : Operand) (t : TypeId)
    (ho : o.op = .call { callee := .builtin .append, args := #[s, x], argTypes := #[t, t] })
    (base : Nat) (e : TypeId) (i : TypeInfo) (z : Value) (size bytes : Nat) (ht : P.underlying t = some (.slice e)) (hi : P.info? e = some i) (hz : i.zero = some z)
    (hsize : i.size = size) (hby : i.bytes = bytes) (hzs : z.cells.size = size) (hsz : 0 < size)
    (v : Value) (n : Nat) (xs : List Value) (hs : a.eval s = v) (hown : w.ownsRow base e size v n xs)
    (ad : Addr) (m c : Nat) (news : List Value) (hx : a.eval x = .slice (some ad) m c) (hl : news.length = m * size) (hnews : ∀ j u, news[j]? = some u → w.cell? (ad.add j) = some u) (h1 : ∀ u ∈ news, u.oneCell' = true)
    (h63 : n + m ≤ maxLen) (hbytes : (n + m) * bytes ≤ 140737488355328) (hbase : base ≤ w.heap.size)
    (h : ∀ v' w', w'.ownsRow base e size v' (n + m) (xs ++ news) → w.grownBy w' v.ownBlock → wpList P ops Q rest (a.put o.dst v') w') :
    wpList P ops Q (o :: rest) a w := by
  refine wpList_step fun K hK => ?_
  rw [if_pos hwt]
  obtain ⟨v', w', hr, h2, h3, h4, h5⟩ := run_append_own_at (P := P) w base t o.type e i z size bytes ht hi hz hsize hby hzs hsz v n xs hown ad m c news hl hnews h1 h63 hbytes hbase
  unfold Oper.wp execOp
  simp only [ho, resolve, invoke, builtin, Sem.run_bind, Sem.run_pure, Result.andThen_ok, List.map_toArray, List.map_cons, List.map_nil, hs, hx, hr]
  exact hK _ _ (h v' w' h2 h3)

def parW : Par := ⟨⟨#[119]⟩, 1, 3⟩
def parB : Par := ⟨⟨#[98, 47, 99]⟩, 2, 2⟩
def src1 : ByteArray := ⟨#[35, 32, 116, 119, 111, 10, 119, 32, 114, 101, 97, 108, 32, 51, 10, 10, 98, 47, 99, 32, 99, 111, 109, 112, 108, 101, 120, 32, 50]⟩
theorem parse1 : parseP (bs src1) = ⟨[parW, parB], 0, 0⟩ := by kernel_rfl
theorem print1 : printP [parW, parB] = ([119, 32, 114, 101, 97, 108, 32, 51, 10, 98, 47, 99, 32, 99, 111, 109, 112, 108, 101, 120, 32, 50, 10], 0) := by kernel_rfl
theorem total1 : totP [parW, parB] = 7 := by kernel_rfl
theorem check1 : checkP [parW, parB, parW] = 101 := by kernel_rfl
theorem names1 : ∀ p ∈ [parW, parB, parW], p.name.size ≤ 140737488351232 := by decide
theorem names2 : ∀ p ∈ [parW, parB], p.name.size ≤ 140737488351232 := by decide

set_option maxRecDepth 100000 in
set_option maxHeartbeats 2000000 in
theorem works_any (w : World) (hLd : Laid w) :
    Calls Tryd.prog 18 #[] w fun e w' => e = .returned (.bool true) ∧ Below w.heap.size w w' := by
  obtain ⟨i0, hi0, hz0, hz1, hz2⟩ := info_parts info_Param
  have S1 := sParse_any src1 (by decide) w hLd
  rw [parse1] at S1
  have H1 : Hid (Calls Tryd.prog 19 #[.string src1] w fun e w' => ∃ v, e = .returned (.tuple #[v, .int .i64 0, .int .i64 0]) ∧ Own w' w.heap.size v [parW, parB] ∧ Below w.heap.size w w') := S1
  have S2 := fun (v : Value) (w : World) (hL : Laid w) (h : Rd w v [parW, parB]) => sPrint_any v _ (by decide) names2 w hL h
  rw [print1] at S2
  have H2 : Hid (∀ (v : Value) (w : World), Laid w → Rd w v [parW, parB] → Calls Tryd.prog 21 #[v] w fun e w' => e = .returned (.tuple #[.string ⟨#[119, 32, 114, 101, 97, 108, 32, 51, 10, 98, 47, 99, 32, 99, 111, 109, 112, 108, 101, 120, 32, 50, 10]⟩, .int .i64 0]) ∧ Below w.heap.size w w') := S2
  have S3 := fun (v : Value) (w : World) (h : Rd w v [parW, parB]) => sTotal_any v _ (by decide) names2 w h
  rw [total1] at S3
  have H3 : Hid (∀ (v : Value) (w : World), Rd w v [parW, parB] → Calls Tryd.prog 13 #[v] w fun e w' => e = .returned (.int .i64 7) ∧ Below w.heap.size w w') := S3
  have S4 := fun (v : Value) (w : World) (h : Rd w v [parW, parB, parW]) => sCheck_any v _ (by decide) names1 w h
  rw [check1] at S4
  have H4 : Hid (∀ (v : Value) (w : World), Rd w v [parW, parB, parW] → Calls Tryd.prog 11 #[v] w fun e w' => e = .returned (.int .i64 101) ∧ Below w.heap.size w w') := S4
  have HLD : Hid (Laid w) := hLd
  clear S1 S2 S3 S4 hLd
  unfold src1 at *
  go_enter Tryd.func18, Tryd.ntmps18
  go_wp2_with (first
    | ((with_reducible refine H1.out.mono ?_); rintro e w1 ⟨v1, rfl, ho1, hb1⟩; obtain ⟨g, cp, rfl, hBg, hcp, _⟩ := ho1.rows (by simp); have HO1 : Hid (Own w1 w.heap.size (.slice (some ⟨g, 0, none⟩) 2 cp) [parW, parB]) := ho1; clear ho1)
    | (go_at_call 21; (with_reducible refine (H2.out _ _ (HLD.out.below hb1) HO1.out.rd).mono ?_); rintro e w2 ⟨rfl, hb2⟩; have HO2 : Hid (Own w2 w.heap.size (.slice (some ⟨g, 0, none⟩) 2 cp) [parW, parB]) := HO1.out.below hb2)
    | (go_at_call 13; (with_reducible refine (H3.out _ _ HO2.out.rd).mono ?_); rintro e w3 ⟨rfl, hb3⟩; have HO3 : Hid (Own w3 w.heap.size (.slice (some ⟨g, 0, none⟩) 2 cp) [parW, parB]) := HO2.out.below hb3; obtain ⟨g', cp', hv', _, _, hc3⟩ := HO3.out.rows (by simp); obtain ⟨rfl, -⟩ : g = g' ∧ cp = cp' := (by simp at hv'; exact hv'); obtain ⟨c0, c1, c2⟩ := hc3 0 (by simp); simp only [List.getElem_cons_zero] at c0 c1 c2; have sz3 := (bel (bel hb1 hb2) hb3).size; clear hc3 hv')
    | (at_builtin; refine wpList_append_when (by rfl) _ _ 22 rfl w.heap.size 30 i0 _ 3 32 Tryd.underlying22 hi0 hz0 hz1 hz2 rfl (by decide) (.slice (some ⟨g, 0, none⟩) 2 cp) 2 (cellsOf [parW, parB]) rfl (World.ownsRow.alloc HO3.out _) ⟨w3.heap.size, 0, none⟩ 1 1 [.string parW.name, .int .i64 parW.kind, .int .i64 parW.len] rfl rfl (World.news_of_block (cs := #[.string parW.name, .int .i64 parW.kind, .int .i64 parW.len]) (t := 30) (fr := (0, 0)) (heap_alloc_new w3 _)) (by simp [Value.oneCell']) (by decide) (by decide) (by simp; omega) ?_; intro v' w4 hown4 hgrow; have HO4 : Hid (Own w4 w.heap.size v' [parW, parB, parW]) := hown4; have hb4 : Below w.heap.size w w4 := Below.grown ((bel (bel hb1 hb2) hb3).alloc (by omega) _) hgrow (by simp; omega) (fun q e => (HO3.out.lt q e).1); clear hown4 hgrow)
    | (go_at_call 11; (with_reducible refine (H4.out _ _ HO4.out.rd).mono ?_); rintro e w5 ⟨rfl, hb5⟩))
  go_ret
  exact ⟨rfl, bel hb4 hb5⟩

end Go.Proofs.YtmpfoajpafglgaaDoor
