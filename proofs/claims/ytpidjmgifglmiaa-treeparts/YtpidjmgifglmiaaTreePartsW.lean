import Derived.Test.YtpidjmgifglmiaaTreeSure
import Derived.Test.YtpidjmgifglmiaaTreeRefNames
import Derived.Test.YtpidjmgifglmiaaTreeRefEq
/- The walk of TreeParts. -/
namespace Go.Proofs.Ytpidjmgifglmiaa
open Go.RowKit
set_option linter.unusedVariables false
set_option linter.unusedSimpArgs false

set_option maxRecDepth 100000 in
set_option maxHeartbeats 8000000 in
theorem walk_TreeParts (t : Nd) (p : Option Addr) (c : Nat) (hok : ok1 t) (w : World) (hk : Kids w anyH (.slice p t.args.length c) t.args) :
    Calls Try.prog 7 #[nv t (.slice p t.args.length c)] w fun e w' => e = .returned (.bool true) ∧ Below w.heap.size w w' := by
  obtain ⟨n, hn⟩ : ∃ n, t.args.length = n := ⟨_, rfl⟩
  have HN : Hid (t.args.length = n) := hn
  have hg := fun v hv => big_any t p c v (hk.below hv)
  unfold nv at hg ⊢
  rw [hn] at hk hg ⊢
  clear hn
  have hb0 := bel_alloc w (.cells #[.int .i64 t.kind, .string t.name, .int .u32 t.num, .int .i64 t.int_, .string t.key, .slice p n c, .int .i64 t.at_] 26)
  have hx0 := box_heap w (.cells #[.int .i64 t.kind, .string t.name, .int .u32 t.num, .int .i64 t.int_, .string t.key, .slice p n c, .int .i64 t.at_] 26)
  have HG : Hid (∀ v, Below w.heap.size w v → Calls Try.prog 9 #[.agg #[.int .i64 t.kind, .string t.name, .int .u32 t.num, .int .i64 t.int_, .string t.key, .slice p n c, .int .i64 t.at_]] v fun e v' => e = .returned (.bool (decide (9000 < cnt t))) ∧ Below v.heap.size v v') := hg
  have HW0 : Hid (Below w.heap.size w (w.alloc (.cells #[.int .i64 t.kind, .string t.name, .int .u32 t.num, .int .i64 t.int_, .string t.key, .slice p n c, .int .i64 t.at_] 26))) := hb0
  clear hg
  by_cases hbig : 9000 < cnt t
  · have e : decide (9000 < cnt t) = true := by simpa using hbig
    rw [e] at HG
    clear e hbig hk hok hx0 hb0
    go_enter Try.func7, Try.ntmps7
    go_wp2_with (first
      | (go_at_call 9; (with_reducible refine (HG.out _ HW0.out).mono ?_); rintro e w1 ⟨rfl, hb1⟩)
      | (go_at_call 10; (with_reducible refine (sure_any _).mono ?_); rintro e w2 ⟨rfl, hb2⟩))
    go_ret
    exact ⟨rfl, bel HW0.out (bel hb1 hb2)⟩
  have e : decide (9000 < cnt t) = false := by simpa using hbig
  rw [e] at HG
  have hc : cnt t ≤ 9000 := by omega
  have HX : Hid (∀ v, Below (w.alloc (.cells #[.int .i64 t.kind, .string t.name, .int .u32 t.num, .int .i64 t.int_, .string t.key, .slice p n c, .int .i64 t.at_] 26)).heap.size (w.alloc (.cells #[.int .i64 t.kind, .string t.name, .int .u32 t.num, .int .i64 t.int_, .string t.key, .slice p n c, .int .i64 t.at_] 26)) v → v.heap[w.heap.size]? = some (.cells #[.int .i64 t.kind, .string t.name, .int .u32 t.num, .int .i64 t.int_, .string t.key, .slice p n c, .int .i64 t.at_] 26) ∧ Kids v anyH (.slice p n c) t.args) := fun v hv => ⟨by rw [hv.block _ (hlt hx0)]; exact hx0, hk.below (bel hb0 hv)⟩
  have HOK : Hid (ok1 t ∧ cnt t ≤ 9000) := ⟨hok, hc⟩
  have hlen : n ≤ 9000 := by have h1 := cntL_len t.args; have h2 := HN.out; unfold cnt at hc; omega
  obtain ⟨i0, hi0, hz0, hz1, hz2⟩ := info_parts info_string
  clear e hbig hk hok hx0 hb0 hc
  by_cases hk1 : t.kind = 1
  · have zk : (t.kind == 1) = true := by simpa using hk1
    have HNM : Hid (names t = [t.name] ++ namesL t.args) := by unfold names; rw [zk]; exact rfl
    clear hk1
    go_enter Try.func7, Try.ntmps7
    go_upto_region 3 with (go_at_call 9; (with_reducible refine (HG.out _ HW0.out).mono ?_); rintro e w1 ⟨rfl, hb1⟩)
    obtain ⟨hx1, hk1⟩ := HX.out w1 hb1
    have HBW : Hid (Below w.heap.size w w1) := bel HW0.out hb1
    have HBX : Hid (w1.heap[w.heap.size]? = some (.cells #[.int .i64 t.kind, .string t.name, .int .u32 t.num, .int .i64 t.int_, .string t.key, .slice p n c, .int .i64 t.at_] 26)) := hx1
    have HK1 : Hid (Kids w1 anyH (.slice p t.args.length c) t.args) := by rw [HN.out]; exact hk1
    have HCL : Hid (∀ v, Below w1.heap.size w1 v → v.cell? ⟨w.heap.size, 0, none⟩ = some (.int .i64 t.kind) ∧ v.cell? ⟨w.heap.size, 1, none⟩ = some (.string t.name) ∧ v.cell? ⟨w.heap.size, 2, none⟩ = some (.int .u32 t.num) ∧ v.cell? ⟨w.heap.size, 3, none⟩ = some (.int .i64 t.int_) ∧ v.cell? ⟨w.heap.size, 4, none⟩ = some (.string t.key) ∧ v.cell? ⟨w.heap.size, 5, none⟩ = some (.slice p n c) ∧ v.cell? ⟨w.heap.size, 6, none⟩ = some (.int .i64 t.at_)) := fun v hv => by
      have hx : v.heap[w.heap.size]? = some (.cells #[.int .i64 t.kind, .string t.name, .int .u32 t.num, .int .i64 t.int_, .string t.key, .slice p n c, .int .i64 t.at_] 26) := by rw [hv.block _ (hlt hx1)]; exact hx1
      exact ⟨cell_heap hx 0, cell_heap hx 1, cell_heap hx 2, cell_heap hx 3, cell_heap hx 4, cell_heap hx 5, cell_heap hx 6⟩
    obtain ⟨z0, z1, z2, z3, z4, z5, z6⟩ := HCL.out w1 (bel0 w1)
    clear HX HG HW0 hb1 hx1 hk1
    go_upto_region 7 with (at_builtin; refine wpList_append_own_at _ rfl _ _ 35 rfl w1.heap.size 9 i0 _ 1 16 Try.underlying35 hi0 hz0 hz1 hz2 rfl (by decide) (.slice none 0 0) 0 [] rfl (World.ownsRow_nil _ _ _ _) ⟨w1.heap.size, 0, none⟩ 1 1 [.string t.name] rfl rfl (World.news_of_block (cs := #[.string t.name]) (t := 9) (fr := (0, 0)) (box_heap _ _)) (by simp [Value.oneCell']) (by unfold maxLen; omega) (by omega) (by simp) ?_; intro v4 w4 hown4 hgrow hnil hat; have HO4 : Hid (OwnS w4 w1.heap.size v4 [t.name]) := hown4; have HG4 : Hid ((w1.alloc (.cells #[.string t.name] 9)).grownBy w4 none) := hgrow; clear hown4 hgrow hnil hat)
    have HB4 : Hid (Below w1.heap.size w1 w4) := Below.grown (bel_alloc _ _) HG4.out (by simp) (fun k hk => by cases hk)
    go_wp2
    clear z0 z1 z2 z3 z4 z5 z6
    go_loopw [3, 4, 5, 6] (fun cv dv lv iv wr => Below w1.heap.size w1 wr ∧ ∃ (j : Nat) (ov : Value), ov = lv ∧ j ≤ n ∧ iv = .int .i64 j ∧ cv = .int .i64 (1 + (cntL (t.args.take j) : Int)) ∧ dv = .int .i64 (depL (t.args.take j) : Int) ∧ Hid (OwnS wr w1.heap.size ov ([t.name] ++ namesL (t.args.take j)) ∧ ([t.name] ++ namesL (t.args.take j) = [] → ov = .slice none 0 0))) (fun _ _ _ iv _ => n - (intOf iv).toNat)
    case atStart => exact ⟨HB4.out, 0, _, rfl, Nat.zero_le _, rfl, by rw [List.take_zero, cntL_nil]; rfl, by rw [List.take_zero, depL_nil]; rfl, by rw [List.take_zero, namesL_nil, List.append_nil]; exact ⟨HO4.out, fun e => by cases e⟩⟩
    case round =>
      obtain ⟨hb, j, ov, rfl, hj, rfl, rfl, rfl, hS⟩ := hrel
      obtain ⟨hok, hc⟩ := HOK.out
      by_cases hlt0 : j < n
      · have hll : j < t.args.length := by rw [HN.out]; exact hlt0
        obtain ⟨b1, o1, q1, d1, hp, hcs, kx⟩ := kid_at HK1.out (bel0 w1) hll
        subst hp
        have hck : cnt t.args[j] ≤ 9000 := by have h1 := cnt_get hll; unfold cnt at hc; omega
        have hok2 := okL_get hok.2 hll
        have HB : Hid (∀ v, Below w1.heap.size w1 v → v.cell? ⟨b1, o1 + j * 7, none⟩ = some (.int .i64 t.args[j].kind) ∧ v.cell? ⟨b1, o1 + j * 7 + 1, none⟩ = some (.string t.args[j].name) ∧ v.cell? ⟨b1, o1 + j * 7 + 2, none⟩ = some (.int .u32 t.args[j].num) ∧ v.cell? ⟨b1, o1 + j * 7 + 3, none⟩ = some (.int .i64 t.args[j].int_) ∧ v.cell? ⟨b1, o1 + j * 7 + 4, none⟩ = some (.string t.args[j].key) ∧ v.cell? ⟨b1, o1 + j * 7 + 5, none⟩ = some (.slice q1 t.args[j].args.length d1) ∧ v.cell? ⟨b1, o1 + j * 7 + 6, none⟩ = some (.int .i64 t.args[j].at_)) := fun v hv => ⟨(hv.cell (mcell_lt hcs.1)).trans hcs.1, (hv.cell (mcell_lt hcs.2.1)).trans hcs.2.1, (hv.cell (mcell_lt hcs.2.2.1)).trans hcs.2.2.1, (hv.cell (mcell_lt hcs.2.2.2.1)).trans hcs.2.2.2.1, (hv.cell (mcell_lt hcs.2.2.2.2.1)).trans hcs.2.2.2.2.1, (hv.cell (mcell_lt hcs.2.2.2.2.2.1)).trans hcs.2.2.2.2.2.1, (hv.cell (mcell_lt hcs.2.2.2.2.2.2)).trans hcs.2.2.2.2.2.2⟩
        have ht1 := cntL_take hll
        have ht2 := depL_take hll
        have hle := cntL_take_le t.args (j + 1)
        have hdl := depL_take_le t.args (j + 1)
        have hdc := depL_cnt t.args
        have hce : cnt t = 1 + cntL t.args := rfl
        have hnl : ([t.name] ++ namesL (t.args.take (j + 1))).length ≤ 9001 := by
          have h1 := namesL_le (t.args.take (j + 1))
          rw [List.length_append]
          simp
          omega
        have hnx : [t.name] ++ namesL (t.args.take (j + 1)) = ([t.name] ++ namesL (t.args.take j)) ++ names t.args[j] := by rw [namesL_take hll, List.append_assoc]
        rw [hnx] at hnl
        obtain ⟨acc, hacc⟩ : ∃ acc, [t.name] ++ namesL (t.args.take j) = acc := ⟨_, rfl⟩
        obtain ⟨ns, hns⟩ : ∃ ns, names t.args[j] = ns := ⟨_, rfl⟩
        obtain ⟨s, hs⟩ : ∃ s, cntL (t.args.take j) = s := ⟨_, rfl⟩
        obtain ⟨m, hm⟩ : ∃ m, cnt t.args[j] = m := ⟨_, rfl⟩
        obtain ⟨sd, hsd⟩ : ∃ s, depL (t.args.take j) = s := ⟨_, rfl⟩
        obtain ⟨md, hmd⟩ : ∃ m, dep t.args[j] = m := ⟨_, rfl⟩
        rw [hacc, hns] at hnl hnx
        rw [hacc] at hS
        rw [hs, hm] at ht1
        rw [hsd, hmd] at ht2
        rw [hs, hsd]
        rw [List.length_append] at hnl
        have HNX : Hid ([t.name] ++ namesL (t.args.take (j + 1)) = acc ++ ns) := hnx
        have HT1 : Hid (cntL (t.args.take (j + 1)) = s + m) := ht1
        have HT2 : Hid (depL (t.args.take (j + 1)) = max sd md) := ht2
        have HCnt : Hid (∀ (v : World), Below w1.heap.size w1 v → Calls Try.prog 18 #[.agg #[.int .i64 t.args[j].kind, .string t.args[j].name, .int .u32 t.args[j].num, .int .i64 t.args[j].int_, .string t.args[j].key, .slice q1 t.args[j].args.length d1, .int .i64 t.args[j].at_]] v fun e v' => e = .returned (.int .i64 (m : Int)) ∧ (Below w1.heap.size w1 v' ∧ Below v.heap.size v v')) := fun v hv => (count_any t.args[j] _ v hck hok2 (kx.below hv)).mono fun e v' ⟨he, hb⟩ => ⟨by rw [he, hm], bel hv hb, hb⟩
        have HDep : Hid (∀ (v : World), Below w1.heap.size w1 v → Calls Try.prog 20 #[.agg #[.int .i64 t.args[j].kind, .string t.args[j].name, .int .u32 t.args[j].num, .int .i64 t.args[j].int_, .string t.args[j].key, .slice q1 t.args[j].args.length d1, .int .i64 t.args[j].at_]] v fun e v' => e = .returned (.int .i64 (md : Int)) ∧ (Below w1.heap.size w1 v' ∧ Below v.heap.size v v')) := fun v hv => (depth_any t.args[j] _ v hck hok2 (kx.below hv)).mono fun e v' ⟨he, hb⟩ => ⟨by rw [he, hmd], bel hv hb, hb⟩
        have HNm : Hid (∀ (v : World), Below w1.heap.size w1 v → Calls Try.prog 24 #[.agg #[.int .i64 t.args[j].kind, .string t.args[j].name, .int .u32 t.args[j].num, .int .i64 t.args[j].int_, .string t.args[j].key, .slice q1 t.args[j].args.length d1, .int .i64 t.args[j].at_]] v fun e v' => ∃ x, e = .returned (x) ∧ OwnS v' v.heap.size x ns ∧ (ns = [] → x = .slice none 0 0) ∧ (Below w1.heap.size w1 v' ∧ Below v.heap.size v v')) := fun v hv => (names_any t.args[j] _ v hck hok2 (kx.below hv)).mono fun e v' ⟨x, he, ho, hz, hb⟩ => ⟨x, he, by rw [hns] at ho; exact ho, by rw [hns] at hz; exact hz, bel hv hb, hb⟩
        have HFd : Hid (∀ (v : World) (G : Nat), Below w1.heap.size w1 v → v.cell? ⟨G, 0, none⟩ = some (.int .i64 (j : Int)) → Calls Try.prog 26 #[.agg #[.int .i64 t.kind, .string t.name, .int .u32 t.num, .int .i64 t.int_, .string t.key, .slice (some ⟨b1, o1, none⟩) n c, .int .i64 t.at_], .slice (some ⟨G, 0, none⟩) 1 1] v fun e v' => ∃ q m d, e = .returned (.tuple #[.agg #[.int .i64 t.args[j].kind, .string t.args[j].name, .int .u32 t.args[j].num, .int .i64 t.args[j].int_, .string t.args[j].key, .slice q m d, .int .i64 t.args[j].at_], .bool true]) ∧ Kids v' anyH (.slice q m d) t.args[j].args ∧ (Below w1.heap.size w1 v' ∧ Below v.heap.size v v')) := fun v G hv hG => by
          have hf : findP [(j : Int)] t = some t.args[j] := by rw [findP_in (by omega) (by simpa using hll)]; exact rfl
          have := find_any t (.slice (some ⟨b1, o1, none⟩) n c) (.slice (some ⟨G, 0, none⟩) 1 1) [(j : Int)] v (by simp) hc hok (by have := HK1.out.below hv; rw [HN.out] at this; exact this) ⟨some ⟨G, 0, none⟩, 1, rfl, .inr ⟨G, 0, rfl, fun i hi => by have hi0 : i = 0 := (by simpa using hi); subst hi0; exact hG⟩⟩
          rw [hf] at this
          exact this.mono fun e v' ⟨q, m, d, he, hkk, hb⟩ => ⟨q, m, d, he, hkk, bel hv hb, hb⟩
        have HSm : Hid (∀ (v : World) (q : Option Addr) (m d : Nat), Below w1.heap.size w1 v → Kids v anyH (.slice q m d) t.args[j].args → Calls Try.prog 14 #[.agg #[.int .i64 t.args[j].kind, .string t.args[j].name, .int .u32 t.args[j].num, .int .i64 t.args[j].int_, .string t.args[j].key, .slice q m d, .int .i64 t.args[j].at_], .agg #[.int .i64 t.args[j].kind, .string t.args[j].name, .int .u32 t.args[j].num, .int .i64 t.args[j].int_, .string t.args[j].key, .slice q1 t.args[j].args.length d1, .int .i64 t.args[j].at_]] v fun e v' => e = .returned (.bool true) ∧ (Below w1.heap.size w1 v' ∧ Below v.heap.size v v')) := fun v q m d hv ha => by
          obtain ⟨_, _, e1, -⟩ := id ha
          simp only [Value.slice.injEq] at e1
          obtain ⟨-, rfl, -⟩ := e1
          exact (same_to (dep t.args[j]) t.args[j] q q1 d d1 v (Nat.le_refl _) hck ha (kx.below hv)).mono fun e v' ⟨he, hb⟩ => ⟨he, bel hv hb, hb⟩
        have i1 : (0 : Int) ≤ (j : Int) := by omega
        have i2 : (j : Int) < (n : Int) := by omega
        have sm : s + m ≤ 9000 := by omega
        have sd9 : sd ≤ 9000 := by omega
        have md9 : md ≤ 9000 := by omega
        have HOB : Hid (∀ k, ov.ownBlock = some k → w1.heap.size ≤ k ∧ k < wr.heap.size) := fun k hk => hS.out.1.lt k hk
        have HBR : Hid (Below w1.heap.size w1 wr) := hb
        clear kx hck hok2 hcs ht1 ht2 hle hdl hdc hce hnx hacc hns hs hm hsd hmd hok hc hb
        obtain ⟨z0, z1, z2, z3, z4, z5, z6⟩ := HCL.out wr HBR.out
        obtain ⟨x0, x1, x2, x3, x4, x5, x6⟩ := HB.out wr HBR.out
        by_cases hsm : sd < md
        · have y1 : (sd : Int) < (md : Int) := by omega
          have y2 : ¬ ((md : Int) < (sd : Int)) := by omega
          have y3 : ¬ ((md : Int) ≤ (sd : Int)) := by omega
          go_upto_region 12 with (first
            | (go_at_call 18; (with_reducible refine (HCnt.out _ HBR.out).mono ?_); rintro e w3 ⟨rfl, hs3⟩; have HB3 : Hid (Below w1.heap.size w1 w3 ∧ Below wr.heap.size wr w3) := hs3; clear hs3; clear z0 z1 z2 z3 z4 z5 z6 x0 x1 x2 x3 x4 x5 x6; obtain ⟨z0, z1, z2, z3, z4, z5, z6⟩ := HCL.out w3 HB3.out.1; obtain ⟨x0, x1, x2, x3, x4, x5, x6⟩ := HB.out w3 HB3.out.1)
            | (go_at_call 20; (with_reducible refine (HDep.out _ HB3.out.1).mono ?_); rintro e w4 ⟨rfl, hs4⟩; have HB4 : Hid (Below w1.heap.size w1 w4 ∧ Below wr.heap.size wr w4) := ⟨hs4.1, bel HB3.out.2 hs4.2⟩; clear hs4; clear z0 z1 z2 z3 z4 z5 z6 x0 x1 x2 x3 x4 x5 x6; obtain ⟨z0, z1, z2, z3, z4, z5, z6⟩ := HCL.out w4 HB4.out.1; obtain ⟨x0, x1, x2, x3, x4, x5, x6⟩ := HB.out w4 HB4.out.1))
          by_cases hns0 : ns = []
          · have HNS : Hid (ns = []) := hns0
            clear hns0
            go_upto_region 13 with (first
              | (go_at_call 24; (with_reducible refine (HNm.out _ HB4.out.1).mono ?_); rintro e w5 ⟨v3, rfl, ho3, hz3, hs5⟩; obtain rfl := hz3 HNS.out; have HO3 : Hid (OwnS w5 w1.heap.size ov acc) := hS.out.1.below (bel HB4.out.2 hs5.2); have HB5 : Hid (Below w1.heap.size w1 w5) := hs5.1; clear ho3 hz3 hs5)
              | (at_builtin; refine wpList_append_own_none rfl _ _ 35 rfl w1.heap.size 9 i0 1 Try.underlying35 hi0 ov acc.length (strs acc) rfl HO3.out rfl ?_))
            clear z0 z1 z2 z3 z4 z5 z6 x0 x1 x2 x3 x4 x5 x6
            obtain ⟨z0, z1, z2, z3, z4, z5, z6⟩ := HCL.out w5 HB5.out
            have HGx : Hid ((w5.alloc (.cells #[.int .i64 (j : Int)] 3)).cell? ⟨w5.heap.size, 0, none⟩ = some (.int .i64 (j : Int))) := cell_heap (box_heap w5 (.cells #[.int .i64 (j : Int)] 3)) 0
            have HGb : Hid (Below w1.heap.size w1 (w5.alloc (.cells #[.int .i64 (j : Int)] 3))) := bel HB5.out (bel_alloc _ _)
            go_upto_region 14 with (go_at_call 26; (with_reducible refine (HFd.out _ _ HGb.out HGx.out).mono ?_); rintro e w7 ⟨q5, m5, d5, rfl, hk7, hs7⟩)
            have hb7 := bel_alloc w7 (.cells #[.int .i64 t.args[j].kind, .string t.args[j].name, .int .u32 t.args[j].num, .int .i64 t.args[j].int_, .string t.args[j].key, .slice q5 m5 d5, .int .i64 t.args[j].at_] 26)
            have hx7 := box_heap w7 (.cells #[.int .i64 t.args[j].kind, .string t.args[j].name, .int .u32 t.args[j].num, .int .i64 t.args[j].int_, .string t.args[j].key, .slice q5 m5 d5, .int .i64 t.args[j].at_] 26)
            have HV7 : Hid (Below w1.heap.size w1 (w7.alloc (.cells #[.int .i64 t.args[j].kind, .string t.args[j].name, .int .u32 t.args[j].num, .int .i64 t.args[j].int_, .string t.args[j].key, .slice q5 m5 d5, .int .i64 t.args[j].at_] 26)) ∧ Below w5.heap.size w5 (w7.alloc (.cells #[.int .i64 t.args[j].kind, .string t.args[j].name, .int .u32 t.args[j].num, .int .i64 t.args[j].int_, .string t.args[j].key, .slice q5 m5 d5, .int .i64 t.args[j].at_] 26))) := ⟨bel hs7.1 hb7, bel (bel_alloc _ _) (bel hs7.2 hb7)⟩
            have HK7 : Hid (Kids (w7.alloc (.cells #[.int .i64 t.args[j].kind, .string t.args[j].name, .int .u32 t.args[j].num, .int .i64 t.args[j].int_, .string t.args[j].key, .slice q5 m5 d5, .int .i64 t.args[j].at_] 26)) anyH (.slice q5 m5 d5) t.args[j].args) := hk7.below hb7
            obtain ⟨V, hV⟩ : ∃ V, w7.alloc (.cells #[.int .i64 t.args[j].kind, .string t.args[j].name, .int .u32 t.args[j].num, .int .i64 t.args[j].int_, .string t.args[j].key, .slice q5 m5 d5, .int .i64 t.args[j].at_] 26) = V := ⟨_, rfl⟩
            obtain ⟨G, hG⟩ : ∃ G, w7.heap.size = G := ⟨_, rfl⟩
            rw [hV, hG] at hx7
            rw [hV] at HV7 HK7
            rw [hV, hG]
            have HA7 : Hid (∀ v, Below V.heap.size V v → v.cell? ⟨G, 0, none⟩ = some (.int .i64 t.args[j].kind) ∧ v.cell? ⟨G, 1, none⟩ = some (.string t.args[j].name) ∧ v.cell? ⟨G, 2, none⟩ = some (.int .u32 t.args[j].num) ∧ v.cell? ⟨G, 3, none⟩ = some (.int .i64 t.args[j].int_) ∧ v.cell? ⟨G, 4, none⟩ = some (.string t.args[j].key) ∧ v.cell? ⟨G, 5, none⟩ = some (.slice q5 m5 d5) ∧ v.cell? ⟨G, 6, none⟩ = some (.int .i64 t.args[j].at_)) := fun v hv => by
              have hx : v.heap[G]? = some (.cells #[.int .i64 t.args[j].kind, .string t.args[j].name, .int .u32 t.args[j].num, .int .i64 t.args[j].int_, .string t.args[j].key, .slice q5 m5 d5, .int .i64 t.args[j].at_] 26) := by rw [hv.block _ (hlt hx7)]; exact hx7
              exact ⟨cell_heap hx 0, cell_heap hx 1, cell_heap hx 2, cell_heap hx 3, cell_heap hx 4, cell_heap hx 5, cell_heap hx 6⟩
            clear hV hG hk7 hs7 hb7 hx7 HGx HGb z0 z1 z2 z3 z4 z5 z6
            obtain ⟨-, -, -, -, -, z5, -⟩ := HCL.out V HV7.out.1
            obtain ⟨x0, x1, x2, x3, x4, x5, x6⟩ := HB.out V HV7.out.1
            obtain ⟨a0, a1, a2, a3, a4, a5, a6⟩ := HA7.out V (bel0 V)
            refine wp_region_held_drew (S := (fun w' => w'.cell? ⟨w.heap.size, 5, none⟩ = some (.slice (some ⟨b1, o1, none⟩) n c) ∧ w'.cell? ⟨b1, o1 + j * 7, none⟩ = some (.int .i64 t.args[j].kind) ∧ w'.cell? ⟨b1, o1 + j * 7 + 1, none⟩ = some (.string t.args[j].name) ∧ w'.cell? ⟨b1, o1 + j * 7 + 2, none⟩ = some (.int .u32 t.args[j].num) ∧ w'.cell? ⟨b1, o1 + j * 7 + 3, none⟩ = some (.int .i64 t.args[j].int_) ∧ w'.cell? ⟨b1, o1 + j * 7 + 4, none⟩ = some (.string t.args[j].key) ∧ w'.cell? ⟨b1, o1 + j * 7 + 5, none⟩ = some (.slice q1 t.args[j].args.length d1) ∧ w'.cell? ⟨b1, o1 + j * 7 + 6, none⟩ = some (.int .i64 t.args[j].at_) ∧ w'.cell? ⟨G, 0, none⟩ = some (.int .i64 t.args[j].kind) ∧ w'.cell? ⟨G, 1, none⟩ = some (.string t.args[j].name) ∧ w'.cell? ⟨G, 2, none⟩ = some (.int .u32 t.args[j].num) ∧ w'.cell? ⟨G, 3, none⟩ = some (.int .i64 t.args[j].int_) ∧ w'.cell? ⟨G, 4, none⟩ = some (.string t.args[j].key) ∧ w'.cell? ⟨G, 5, none⟩ = some (.slice q5 m5 d5) ∧ w'.cell? ⟨G, 6, none⟩ = some (.int .i64 t.args[j].at_))) (by kernel_rfl) ?_ (fun hHeld => ?_)
            · ((try dsimp only); go_keep)
            refine wpAnyH_take (i := 0) (v := ?_) (by simp only [List.getElem?_toArray, List.getElem?_cons_succ, List.getElem?_cons_zero]; rfl) (by kernel_rfl) (by kernel_rfl) (by kernel_rfl) (by exact fun _ _ _ h => h) (Or.inl ⟨by rfl, ?_⟩) (by assumption) ?_
            rotate_left 1
            · (intro wS hSw; (try dsimp only at hSw); go_simp; try (with_reducible rfl))
            try simp only [Act.put, List.setIfInBounds_toArray, List.set_cons_zero, List.set_cons_succ]
            refine wpAnyH_take (i := 1) (v := ?_) (by simp only [List.getElem?_toArray, List.getElem?_cons_succ, List.getElem?_cons_zero]; rfl) (by kernel_rfl) (by kernel_rfl) (by kernel_rfl) (by exact fun _ _ _ h => h) (Or.inl ⟨by rfl, ?_⟩) (by assumption) ?_
            rotate_left 1
            · (intro wS hSw; (try dsimp only at hSw); go_simp; try (with_reducible rfl))
            try simp only [Act.put, List.setIfInBounds_toArray, List.set_cons_zero, List.set_cons_succ]
            refine wpAnyH_take (i := 2) (v := ?_) (by simp only [List.getElem?_toArray, List.getElem?_cons_succ, List.getElem?_cons_zero]; rfl) (by kernel_rfl) (by kernel_rfl) (by kernel_rfl) (by exact fun _ _ _ h => h) (Or.inl ⟨by rfl, ?_⟩) (by assumption) ?_
            rotate_left 1
            · (intro wS hSw; (try dsimp only at hSw); go_simp; try (with_reducible rfl))
            try simp only [Act.put, List.setIfInBounds_toArray, List.set_cons_zero, List.set_cons_succ]
            refine wpAnyH_take (i := 3) (v := ?_) (by simp only [List.getElem?_toArray, List.getElem?_cons_succ, List.getElem?_cons_zero]; rfl) (by kernel_rfl) (by kernel_rfl) (by kernel_rfl) (by exact fun _ _ _ h => h) (Or.inl ⟨by rfl, ?_⟩) (by assumption) ?_
            rotate_left 1
            · (intro wS hSw; (try dsimp only at hSw); go_simp; try (with_reducible rfl))
            try simp only [Act.put, List.setIfInBounds_toArray, List.set_cons_zero, List.set_cons_succ]
            refine wpAnyH_take (i := 4) (v := ?_) (by simp only [List.getElem?_toArray, List.getElem?_cons_succ, List.getElem?_cons_zero]; rfl) (by kernel_rfl) (by kernel_rfl) (by kernel_rfl) (by exact fun _ _ _ h => h) (Or.inl ⟨by rfl, ?_⟩) (by assumption) ?_
            rotate_left 1
            · (intro wS hSw; (try dsimp only at hSw); go_simp; try (with_reducible rfl))
            try simp only [Act.put, List.setIfInBounds_toArray, List.set_cons_zero, List.set_cons_succ]
            refine wpAnyH_take (i := 5) (v := ?_) (by simp only [List.getElem?_toArray, List.getElem?_cons_succ, List.getElem?_cons_zero]; rfl) (by kernel_rfl) (by kernel_rfl) (by kernel_rfl) (by exact fun _ _ _ h => h) (Or.inl ⟨by rfl, ?_⟩) (by assumption) ?_
            rotate_left 1
            · (intro wS hSw; (try dsimp only at hSw); go_simp; try (with_reducible rfl))
            try simp only [Act.put, List.setIfInBounds_toArray, List.set_cons_zero, List.set_cons_succ]
            refine wpAnyH_take (i := 6) (v := ?_) (by simp only [List.getElem?_toArray, List.getElem?_cons_succ, List.getElem?_cons_zero]; rfl) (by kernel_rfl) (by kernel_rfl) (by kernel_rfl) (by exact fun _ _ _ h => h) (Or.inl ⟨by rfl, ?_⟩) (by assumption) ?_
            rotate_left 1
            · (intro wS hSw; (try dsimp only at hSw); go_simp; try (with_reducible rfl))
            try simp only [Act.put, List.setIfInBounds_toArray, List.set_cons_zero, List.set_cons_succ]
            refine wpAnyH_take (i := 7) (v := ?_) (by simp only [List.getElem?_toArray, List.getElem?_cons_succ, List.getElem?_cons_zero]; rfl) (by kernel_rfl) (by kernel_rfl) (by kernel_rfl) (by exact fun _ _ _ h => h) (Or.inl ⟨by rfl, ?_⟩) (by assumption) ?_
            rotate_left 1
            · (intro wS hSw; (try dsimp only at hSw); go_simp; try (with_reducible rfl))
            try simp only [Act.put, List.setIfInBounds_toArray, List.set_cons_zero, List.set_cons_succ]
            refine wpAnyH_take (i := 8) (v := ?_) (by simp only [List.getElem?_toArray, List.getElem?_cons_succ, List.getElem?_cons_zero]; rfl) (by kernel_rfl) (by kernel_rfl) (by kernel_rfl) (by exact fun _ _ _ h => h) (Or.inl ⟨by rfl, ?_⟩) (by assumption) ?_
            rotate_left 1
            · (intro wS hSw; (try dsimp only at hSw); go_simp; try (with_reducible rfl))
            try simp only [Act.put, List.setIfInBounds_toArray, List.set_cons_zero, List.set_cons_succ]
            clear hHeld
            refine wpAnyH_ready (rs := [9]) (by kernel_rfl) (by simp) ?_
            refine AllReadyH.cons (i := 9) (by simp only [List.getElem?_toArray, List.getElem?_cons_succ, List.getElem?_cons_zero]; rfl) (fun K hK => ?_) AllReadyH.nil
            go_simp
            (go_at_call 14; (with_reducible refine (HSm.out _ _ _ _ (bel HV7.out.1 (bel_d _)) (HK7.out.below (bel_d _))).mono ?_); rintro e w8 ⟨rfl, hs8⟩; have HB8 : Hid (Below w1.heap.size w1 w8 ∧ Below V.heap.size V w8) := ⟨hs8.1, bel (bel_d _) hs8.2⟩; clear hs8 z5 x0 x1 x2 x3 x4 x5 x6 a0 a1 a2 a3 a4 a5 a6; obtain ⟨-, -, -, -, -, z5, -⟩ := HCL.out w8 HB8.out.1; obtain ⟨x0, x1, x2, x3, x4, x5, x6⟩ := HB.out w8 HB8.out.1; obtain ⟨a0, a1, a2, a3, a4, a5, a6⟩ := HA7.out w8 HB8.out.2)
            try (go_wp2_with fail)
            refine hK.out _ _ ?_ (fun hHeld => ?_)
            · ((try dsimp only); go_keep)
            clear hK K
            try simp only [Act.put, List.setIfInBounds_toArray, List.set_cons_zero, List.set_cons_succ]
            refine wpAnyH_take (i := 10) (v := ?_) (by simp only [List.getElem?_toArray, List.getElem?_cons_succ, List.getElem?_cons_zero]; rfl) (by kernel_rfl) (by kernel_rfl) (by kernel_rfl) (by exact fun _ _ _ h => h) (Or.inl ⟨by rfl, ?_⟩) (by assumption) ?_
            rotate_left 1
            · (intro wS hSw; (try dsimp only at hSw); go_simp; try (with_reducible rfl))
            try simp only [Act.put, List.setIfInBounds_toArray, List.set_cons_zero, List.set_cons_succ]
            refine wpAnyH_take (i := 11) (v := ?_) (by simp only [List.getElem?_toArray, List.getElem?_cons_succ, List.getElem?_cons_zero]; rfl) (by kernel_rfl) (by kernel_rfl) (by kernel_rfl) (by exact fun _ _ _ h => h) (Or.inl ⟨by rfl, ?_⟩) (by assumption) ?_
            rotate_left 1
            · (intro wS hSw; (try dsimp only at hSw); go_simp; try (with_reducible rfl))
            try simp only [Act.put, List.setIfInBounds_toArray, List.set_cons_zero, List.set_cons_succ]
            refine wpAnyH_done (by kernel_rfl) ?_ _
            go_wp2
            go_roundw
            case rel => exact ⟨HB8.out.1, j + 1, _, rfl, by omega, by go_num, by rw [HT1.out]; congr 1; push_cast; omega, by rw [HT2.out]; congr 1; push_cast; omega, by rw [HNX.out]; exact ⟨((by rw [HNS.out, List.append_nil]; exact HO3.out : OwnS w5 w1.heap.size ov (acc ++ ns))).below (bel HV7.out.2 HB8.out.2), fun e => hS.out.2 (List.append_eq_nil_iff.1 e).1⟩⟩
            case measure => simp [intOf]; omega
          · have hnp : 0 < ns.length := by cases ns with | nil => exact absurd rfl hns0 | cons a b => simp
            have HNS : Hid (¬ ns = []) := hns0
            clear hns0
            go_upto_region 13 with (first
              | (go_at_call 24; (with_reducible refine (HNm.out _ HB4.out.1).mono ?_); rintro e w5 ⟨v3, rfl, ho3, hz3, hs5⟩; obtain ⟨g3, c3, rfl, hg3, hg4⟩ := World.ownsRow.form ho3 hnp; have HO3 : Hid (OwnS w5 w1.heap.size ov acc) := hS.out.1.below (bel HB4.out.2 hs5.2); have HN3 : Hid (∀ j u, (strs ns)[j]? = some u → w5.cell? ((⟨g3, 0, none⟩ : Addr).add j) = some u) := ho3.cells (g := g3) rfl; have HB5 : Hid (Below w1.heap.size w1 w5 ∧ Below wr.heap.size wr w5) := ⟨hs5.1, bel HB4.out.2 hs5.2⟩; have hs3 := HB5.out.1.size; clear ho3 hz3 hs5)
              | (at_builtin; refine wpList_append_own_at _ rfl _ _ 35 rfl w1.heap.size 9 i0 _ 1 16 Try.underlying35 hi0 hz0 hz1 hz2 rfl (by decide) ov acc.length (strs acc) rfl HO3.out ⟨g3, 0, none⟩ ns.length c3 (strs ns) rfl (by simp [strs]) HN3.out (by intro u hu; obtain ⟨x, -, rfl⟩ := List.mem_map.1 hu; rfl) (by unfold maxLen; omega) (by omega) (by omega) ?_; intro v4 w6 hown4 hgrow hnil hat; have HO4 : Hid (OwnS w6 w1.heap.size v4 (acc ++ ns)) := (by unfold OwnS strs; rw [List.length_append, List.map_append]; exact hown4); have HG4 : Hid (w5.grownBy w6 ov.ownBlock) := hgrow; clear hown4 hgrow hnil hat))
            have HB6 : Hid (Below w1.heap.size w1 w6) := Below.grown HB5.out.1 HG4.out HB5.out.1.size (fun k hk => (HOB.out k hk).1)
            clear z0 z1 z2 z3 z4 z5 z6 x0 x1 x2 x3 x4 x5 x6
            obtain ⟨z0, z1, z2, z3, z4, z5, z6⟩ := HCL.out w6 HB6.out
            have HGx : Hid ((w6.alloc (.cells #[.int .i64 (j : Int)] 3)).cell? ⟨w6.heap.size, 0, none⟩ = some (.int .i64 (j : Int))) := cell_heap (box_heap w6 (.cells #[.int .i64 (j : Int)] 3)) 0
            have HGb : Hid (Below w1.heap.size w1 (w6.alloc (.cells #[.int .i64 (j : Int)] 3))) := bel HB6.out (bel_alloc _ _)
            go_upto_region 14 with (go_at_call 26; (with_reducible refine (HFd.out _ _ HGb.out HGx.out).mono ?_); rintro e w7 ⟨q5, m5, d5, rfl, hk7, hs7⟩)
            have hb7 := bel_alloc w7 (.cells #[.int .i64 t.args[j].kind, .string t.args[j].name, .int .u32 t.args[j].num, .int .i64 t.args[j].int_, .string t.args[j].key, .slice q5 m5 d5, .int .i64 t.args[j].at_] 26)
            have hx7 := box_heap w7 (.cells #[.int .i64 t.args[j].kind, .string t.args[j].name, .int .u32 t.args[j].num, .int .i64 t.args[j].int_, .string t.args[j].key, .slice q5 m5 d5, .int .i64 t.args[j].at_] 26)
            have HV7 : Hid (Below w1.heap.size w1 (w7.alloc (.cells #[.int .i64 t.args[j].kind, .string t.args[j].name, .int .u32 t.args[j].num, .int .i64 t.args[j].int_, .string t.args[j].key, .slice q5 m5 d5, .int .i64 t.args[j].at_] 26)) ∧ Below w6.heap.size w6 (w7.alloc (.cells #[.int .i64 t.args[j].kind, .string t.args[j].name, .int .u32 t.args[j].num, .int .i64 t.args[j].int_, .string t.args[j].key, .slice q5 m5 d5, .int .i64 t.args[j].at_] 26))) := ⟨bel hs7.1 hb7, bel (bel_alloc _ _) (bel hs7.2 hb7)⟩
            have HK7 : Hid (Kids (w7.alloc (.cells #[.int .i64 t.args[j].kind, .string t.args[j].name, .int .u32 t.args[j].num, .int .i64 t.args[j].int_, .string t.args[j].key, .slice q5 m5 d5, .int .i64 t.args[j].at_] 26)) anyH (.slice q5 m5 d5) t.args[j].args) := hk7.below hb7
            obtain ⟨V, hV⟩ : ∃ V, w7.alloc (.cells #[.int .i64 t.args[j].kind, .string t.args[j].name, .int .u32 t.args[j].num, .int .i64 t.args[j].int_, .string t.args[j].key, .slice q5 m5 d5, .int .i64 t.args[j].at_] 26) = V := ⟨_, rfl⟩
            obtain ⟨G, hG⟩ : ∃ G, w7.heap.size = G := ⟨_, rfl⟩
            rw [hV, hG] at hx7
            rw [hV] at HV7 HK7
            rw [hV, hG]
            have HA7 : Hid (∀ v, Below V.heap.size V v → v.cell? ⟨G, 0, none⟩ = some (.int .i64 t.args[j].kind) ∧ v.cell? ⟨G, 1, none⟩ = some (.string t.args[j].name) ∧ v.cell? ⟨G, 2, none⟩ = some (.int .u32 t.args[j].num) ∧ v.cell? ⟨G, 3, none⟩ = some (.int .i64 t.args[j].int_) ∧ v.cell? ⟨G, 4, none⟩ = some (.string t.args[j].key) ∧ v.cell? ⟨G, 5, none⟩ = some (.slice q5 m5 d5) ∧ v.cell? ⟨G, 6, none⟩ = some (.int .i64 t.args[j].at_)) := fun v hv => by
              have hx : v.heap[G]? = some (.cells #[.int .i64 t.args[j].kind, .string t.args[j].name, .int .u32 t.args[j].num, .int .i64 t.args[j].int_, .string t.args[j].key, .slice q5 m5 d5, .int .i64 t.args[j].at_] 26) := by rw [hv.block _ (hlt hx7)]; exact hx7
              exact ⟨cell_heap hx 0, cell_heap hx 1, cell_heap hx 2, cell_heap hx 3, cell_heap hx 4, cell_heap hx 5, cell_heap hx 6⟩
            clear hV hG hk7 hs7 hb7 hx7 HGx HGb z0 z1 z2 z3 z4 z5 z6
            obtain ⟨-, -, -, -, -, z5, -⟩ := HCL.out V HV7.out.1
            obtain ⟨x0, x1, x2, x3, x4, x5, x6⟩ := HB.out V HV7.out.1
            obtain ⟨a0, a1, a2, a3, a4, a5, a6⟩ := HA7.out V (bel0 V)
            refine wp_region_held_drew (S := (fun w' => w'.cell? ⟨w.heap.size, 5, none⟩ = some (.slice (some ⟨b1, o1, none⟩) n c) ∧ w'.cell? ⟨b1, o1 + j * 7, none⟩ = some (.int .i64 t.args[j].kind) ∧ w'.cell? ⟨b1, o1 + j * 7 + 1, none⟩ = some (.string t.args[j].name) ∧ w'.cell? ⟨b1, o1 + j * 7 + 2, none⟩ = some (.int .u32 t.args[j].num) ∧ w'.cell? ⟨b1, o1 + j * 7 + 3, none⟩ = some (.int .i64 t.args[j].int_) ∧ w'.cell? ⟨b1, o1 + j * 7 + 4, none⟩ = some (.string t.args[j].key) ∧ w'.cell? ⟨b1, o1 + j * 7 + 5, none⟩ = some (.slice q1 t.args[j].args.length d1) ∧ w'.cell? ⟨b1, o1 + j * 7 + 6, none⟩ = some (.int .i64 t.args[j].at_) ∧ w'.cell? ⟨G, 0, none⟩ = some (.int .i64 t.args[j].kind) ∧ w'.cell? ⟨G, 1, none⟩ = some (.string t.args[j].name) ∧ w'.cell? ⟨G, 2, none⟩ = some (.int .u32 t.args[j].num) ∧ w'.cell? ⟨G, 3, none⟩ = some (.int .i64 t.args[j].int_) ∧ w'.cell? ⟨G, 4, none⟩ = some (.string t.args[j].key) ∧ w'.cell? ⟨G, 5, none⟩ = some (.slice q5 m5 d5) ∧ w'.cell? ⟨G, 6, none⟩ = some (.int .i64 t.args[j].at_))) (by kernel_rfl) ?_ (fun hHeld => ?_)
            · ((try dsimp only); go_keep)
            refine wpAnyH_take (i := 0) (v := ?_) (by simp only [List.getElem?_toArray, List.getElem?_cons_succ, List.getElem?_cons_zero]; rfl) (by kernel_rfl) (by kernel_rfl) (by kernel_rfl) (by exact fun _ _ _ h => h) (Or.inl ⟨by rfl, ?_⟩) (by assumption) ?_
            rotate_left 1
            · (intro wS hSw; (try dsimp only at hSw); go_simp; try (with_reducible rfl))
            try simp only [Act.put, List.setIfInBounds_toArray, List.set_cons_zero, List.set_cons_succ]
            refine wpAnyH_take (i := 1) (v := ?_) (by simp only [List.getElem?_toArray, List.getElem?_cons_succ, List.getElem?_cons_zero]; rfl) (by kernel_rfl) (by kernel_rfl) (by kernel_rfl) (by exact fun _ _ _ h => h) (Or.inl ⟨by rfl, ?_⟩) (by assumption) ?_
            rotate_left 1
            · (intro wS hSw; (try dsimp only at hSw); go_simp; try (with_reducible rfl))
            try simp only [Act.put, List.setIfInBounds_toArray, List.set_cons_zero, List.set_cons_succ]
            refine wpAnyH_take (i := 2) (v := ?_) (by simp only [List.getElem?_toArray, List.getElem?_cons_succ, List.getElem?_cons_zero]; rfl) (by kernel_rfl) (by kernel_rfl) (by kernel_rfl) (by exact fun _ _ _ h => h) (Or.inl ⟨by rfl, ?_⟩) (by assumption) ?_
            rotate_left 1
            · (intro wS hSw; (try dsimp only at hSw); go_simp; try (with_reducible rfl))
            try simp only [Act.put, List.setIfInBounds_toArray, List.set_cons_zero, List.set_cons_succ]
            refine wpAnyH_take (i := 3) (v := ?_) (by simp only [List.getElem?_toArray, List.getElem?_cons_succ, List.getElem?_cons_zero]; rfl) (by kernel_rfl) (by kernel_rfl) (by kernel_rfl) (by exact fun _ _ _ h => h) (Or.inl ⟨by rfl, ?_⟩) (by assumption) ?_
            rotate_left 1
            · (intro wS hSw; (try dsimp only at hSw); go_simp; try (with_reducible rfl))
            try simp only [Act.put, List.setIfInBounds_toArray, List.set_cons_zero, List.set_cons_succ]
            refine wpAnyH_take (i := 4) (v := ?_) (by simp only [List.getElem?_toArray, List.getElem?_cons_succ, List.getElem?_cons_zero]; rfl) (by kernel_rfl) (by kernel_rfl) (by kernel_rfl) (by exact fun _ _ _ h => h) (Or.inl ⟨by rfl, ?_⟩) (by assumption) ?_
            rotate_left 1
            · (intro wS hSw; (try dsimp only at hSw); go_simp; try (with_reducible rfl))
            try simp only [Act.put, List.setIfInBounds_toArray, List.set_cons_zero, List.set_cons_succ]
            refine wpAnyH_take (i := 5) (v := ?_) (by simp only [List.getElem?_toArray, List.getElem?_cons_succ, List.getElem?_cons_zero]; rfl) (by kernel_rfl) (by kernel_rfl) (by kernel_rfl) (by exact fun _ _ _ h => h) (Or.inl ⟨by rfl, ?_⟩) (by assumption) ?_
            rotate_left 1
            · (intro wS hSw; (try dsimp only at hSw); go_simp; try (with_reducible rfl))
            try simp only [Act.put, List.setIfInBounds_toArray, List.set_cons_zero, List.set_cons_succ]
            refine wpAnyH_take (i := 6) (v := ?_) (by simp only [List.getElem?_toArray, List.getElem?_cons_succ, List.getElem?_cons_zero]; rfl) (by kernel_rfl) (by kernel_rfl) (by kernel_rfl) (by exact fun _ _ _ h => h) (Or.inl ⟨by rfl, ?_⟩) (by assumption) ?_
            rotate_left 1
            · (intro wS hSw; (try dsimp only at hSw); go_simp; try (with_reducible rfl))
            try simp only [Act.put, List.setIfInBounds_toArray, List.set_cons_zero, List.set_cons_succ]
            refine wpAnyH_take (i := 7) (v := ?_) (by simp only [List.getElem?_toArray, List.getElem?_cons_succ, List.getElem?_cons_zero]; rfl) (by kernel_rfl) (by kernel_rfl) (by kernel_rfl) (by exact fun _ _ _ h => h) (Or.inl ⟨by rfl, ?_⟩) (by assumption) ?_
            rotate_left 1
            · (intro wS hSw; (try dsimp only at hSw); go_simp; try (with_reducible rfl))
            try simp only [Act.put, List.setIfInBounds_toArray, List.set_cons_zero, List.set_cons_succ]
            refine wpAnyH_take (i := 8) (v := ?_) (by simp only [List.getElem?_toArray, List.getElem?_cons_succ, List.getElem?_cons_zero]; rfl) (by kernel_rfl) (by kernel_rfl) (by kernel_rfl) (by exact fun _ _ _ h => h) (Or.inl ⟨by rfl, ?_⟩) (by assumption) ?_
            rotate_left 1
            · (intro wS hSw; (try dsimp only at hSw); go_simp; try (with_reducible rfl))
            try simp only [Act.put, List.setIfInBounds_toArray, List.set_cons_zero, List.set_cons_succ]
            clear hHeld
            refine wpAnyH_ready (rs := [9]) (by kernel_rfl) (by simp) ?_
            refine AllReadyH.cons (i := 9) (by simp only [List.getElem?_toArray, List.getElem?_cons_succ, List.getElem?_cons_zero]; rfl) (fun K hK => ?_) AllReadyH.nil
            go_simp
            (go_at_call 14; (with_reducible refine (HSm.out _ _ _ _ (bel HV7.out.1 (bel_d _)) (HK7.out.below (bel_d _))).mono ?_); rintro e w8 ⟨rfl, hs8⟩; have HB8 : Hid (Below w1.heap.size w1 w8 ∧ Below V.heap.size V w8) := ⟨hs8.1, bel (bel_d _) hs8.2⟩; clear hs8 z5 x0 x1 x2 x3 x4 x5 x6 a0 a1 a2 a3 a4 a5 a6; obtain ⟨-, -, -, -, -, z5, -⟩ := HCL.out w8 HB8.out.1; obtain ⟨x0, x1, x2, x3, x4, x5, x6⟩ := HB.out w8 HB8.out.1; obtain ⟨a0, a1, a2, a3, a4, a5, a6⟩ := HA7.out w8 HB8.out.2)
            try (go_wp2_with fail)
            refine hK.out _ _ ?_ (fun hHeld => ?_)
            · ((try dsimp only); go_keep)
            clear hK K
            try simp only [Act.put, List.setIfInBounds_toArray, List.set_cons_zero, List.set_cons_succ]
            refine wpAnyH_take (i := 10) (v := ?_) (by simp only [List.getElem?_toArray, List.getElem?_cons_succ, List.getElem?_cons_zero]; rfl) (by kernel_rfl) (by kernel_rfl) (by kernel_rfl) (by exact fun _ _ _ h => h) (Or.inl ⟨by rfl, ?_⟩) (by assumption) ?_
            rotate_left 1
            · (intro wS hSw; (try dsimp only at hSw); go_simp; try (with_reducible rfl))
            try simp only [Act.put, List.setIfInBounds_toArray, List.set_cons_zero, List.set_cons_succ]
            refine wpAnyH_take (i := 11) (v := ?_) (by simp only [List.getElem?_toArray, List.getElem?_cons_succ, List.getElem?_cons_zero]; rfl) (by kernel_rfl) (by kernel_rfl) (by kernel_rfl) (by exact fun _ _ _ h => h) (Or.inl ⟨by rfl, ?_⟩) (by assumption) ?_
            rotate_left 1
            · (intro wS hSw; (try dsimp only at hSw); go_simp; try (with_reducible rfl))
            try simp only [Act.put, List.setIfInBounds_toArray, List.set_cons_zero, List.set_cons_succ]
            refine wpAnyH_done (by kernel_rfl) ?_ _
            go_wp2
            go_roundw
            case rel => exact ⟨HB8.out.1, j + 1, _, rfl, by omega, by go_num, by rw [HT1.out]; congr 1; push_cast; omega, by rw [HT2.out]; congr 1; push_cast; omega, by rw [HNX.out]; exact ⟨(HO4.out).below (bel HV7.out.2 HB8.out.2), fun e => absurd (List.append_eq_nil_iff.1 e).2 HNS.out⟩⟩
            case measure => simp [intOf]; omega
        · have y1 : ¬ ((sd : Int) < (md : Int)) := by omega
          have y3 : (md : Int) ≤ (sd : Int) := by omega
          go_upto_region 12 with (first
            | (go_at_call 18; (with_reducible refine (HCnt.out _ HBR.out).mono ?_); rintro e w3 ⟨rfl, hs3⟩; have HB3 : Hid (Below w1.heap.size w1 w3 ∧ Below wr.heap.size wr w3) := hs3; clear hs3; clear z0 z1 z2 z3 z4 z5 z6 x0 x1 x2 x3 x4 x5 x6; obtain ⟨z0, z1, z2, z3, z4, z5, z6⟩ := HCL.out w3 HB3.out.1; obtain ⟨x0, x1, x2, x3, x4, x5, x6⟩ := HB.out w3 HB3.out.1)
            | (go_at_call 20; (with_reducible refine (HDep.out _ HB3.out.1).mono ?_); rintro e w4 ⟨rfl, hs4⟩; have HB4 : Hid (Below w1.heap.size w1 w4 ∧ Below wr.heap.size wr w4) := ⟨hs4.1, bel HB3.out.2 hs4.2⟩; clear hs4; clear z0 z1 z2 z3 z4 z5 z6 x0 x1 x2 x3 x4 x5 x6; obtain ⟨z0, z1, z2, z3, z4, z5, z6⟩ := HCL.out w4 HB4.out.1; obtain ⟨x0, x1, x2, x3, x4, x5, x6⟩ := HB.out w4 HB4.out.1))
          by_cases hns0 : ns = []
          · have HNS : Hid (ns = []) := hns0
            clear hns0
            go_upto_region 13 with (first
              | (go_at_call 24; (with_reducible refine (HNm.out _ HB4.out.1).mono ?_); rintro e w5 ⟨v3, rfl, ho3, hz3, hs5⟩; obtain rfl := hz3 HNS.out; have HO3 : Hid (OwnS w5 w1.heap.size ov acc) := hS.out.1.below (bel HB4.out.2 hs5.2); have HB5 : Hid (Below w1.heap.size w1 w5) := hs5.1; clear ho3 hz3 hs5)
              | (at_builtin; refine wpList_append_own_none rfl _ _ 35 rfl w1.heap.size 9 i0 1 Try.underlying35 hi0 ov acc.length (strs acc) rfl HO3.out rfl ?_))
            clear z0 z1 z2 z3 z4 z5 z6 x0 x1 x2 x3 x4 x5 x6
            obtain ⟨z0, z1, z2, z3, z4, z5, z6⟩ := HCL.out w5 HB5.out
            have HGx : Hid ((w5.alloc (.cells #[.int .i64 (j : Int)] 3)).cell? ⟨w5.heap.size, 0, none⟩ = some (.int .i64 (j : Int))) := cell_heap (box_heap w5 (.cells #[.int .i64 (j : Int)] 3)) 0
            have HGb : Hid (Below w1.heap.size w1 (w5.alloc (.cells #[.int .i64 (j : Int)] 3))) := bel HB5.out (bel_alloc _ _)
            go_upto_region 14 with (go_at_call 26; (with_reducible refine (HFd.out _ _ HGb.out HGx.out).mono ?_); rintro e w7 ⟨q5, m5, d5, rfl, hk7, hs7⟩)
            have hb7 := bel_alloc w7 (.cells #[.int .i64 t.args[j].kind, .string t.args[j].name, .int .u32 t.args[j].num, .int .i64 t.args[j].int_, .string t.args[j].key, .slice q5 m5 d5, .int .i64 t.args[j].at_] 26)
            have hx7 := box_heap w7 (.cells #[.int .i64 t.args[j].kind, .string t.args[j].name, .int .u32 t.args[j].num, .int .i64 t.args[j].int_, .string t.args[j].key, .slice q5 m5 d5, .int .i64 t.args[j].at_] 26)
            have HV7 : Hid (Below w1.heap.size w1 (w7.alloc (.cells #[.int .i64 t.args[j].kind, .string t.args[j].name, .int .u32 t.args[j].num, .int .i64 t.args[j].int_, .string t.args[j].key, .slice q5 m5 d5, .int .i64 t.args[j].at_] 26)) ∧ Below w5.heap.size w5 (w7.alloc (.cells #[.int .i64 t.args[j].kind, .string t.args[j].name, .int .u32 t.args[j].num, .int .i64 t.args[j].int_, .string t.args[j].key, .slice q5 m5 d5, .int .i64 t.args[j].at_] 26))) := ⟨bel hs7.1 hb7, bel (bel_alloc _ _) (bel hs7.2 hb7)⟩
            have HK7 : Hid (Kids (w7.alloc (.cells #[.int .i64 t.args[j].kind, .string t.args[j].name, .int .u32 t.args[j].num, .int .i64 t.args[j].int_, .string t.args[j].key, .slice q5 m5 d5, .int .i64 t.args[j].at_] 26)) anyH (.slice q5 m5 d5) t.args[j].args) := hk7.below hb7
            obtain ⟨V, hV⟩ : ∃ V, w7.alloc (.cells #[.int .i64 t.args[j].kind, .string t.args[j].name, .int .u32 t.args[j].num, .int .i64 t.args[j].int_, .string t.args[j].key, .slice q5 m5 d5, .int .i64 t.args[j].at_] 26) = V := ⟨_, rfl⟩
            obtain ⟨G, hG⟩ : ∃ G, w7.heap.size = G := ⟨_, rfl⟩
            rw [hV, hG] at hx7
            rw [hV] at HV7 HK7
            rw [hV, hG]
            have HA7 : Hid (∀ v, Below V.heap.size V v → v.cell? ⟨G, 0, none⟩ = some (.int .i64 t.args[j].kind) ∧ v.cell? ⟨G, 1, none⟩ = some (.string t.args[j].name) ∧ v.cell? ⟨G, 2, none⟩ = some (.int .u32 t.args[j].num) ∧ v.cell? ⟨G, 3, none⟩ = some (.int .i64 t.args[j].int_) ∧ v.cell? ⟨G, 4, none⟩ = some (.string t.args[j].key) ∧ v.cell? ⟨G, 5, none⟩ = some (.slice q5 m5 d5) ∧ v.cell? ⟨G, 6, none⟩ = some (.int .i64 t.args[j].at_)) := fun v hv => by
              have hx : v.heap[G]? = some (.cells #[.int .i64 t.args[j].kind, .string t.args[j].name, .int .u32 t.args[j].num, .int .i64 t.args[j].int_, .string t.args[j].key, .slice q5 m5 d5, .int .i64 t.args[j].at_] 26) := by rw [hv.block _ (hlt hx7)]; exact hx7
              exact ⟨cell_heap hx 0, cell_heap hx 1, cell_heap hx 2, cell_heap hx 3, cell_heap hx 4, cell_heap hx 5, cell_heap hx 6⟩
            clear hV hG hk7 hs7 hb7 hx7 HGx HGb z0 z1 z2 z3 z4 z5 z6
            obtain ⟨-, -, -, -, -, z5, -⟩ := HCL.out V HV7.out.1
            obtain ⟨x0, x1, x2, x3, x4, x5, x6⟩ := HB.out V HV7.out.1
            obtain ⟨a0, a1, a2, a3, a4, a5, a6⟩ := HA7.out V (bel0 V)
            refine wp_region_held_drew (S := (fun w' => w'.cell? ⟨w.heap.size, 5, none⟩ = some (.slice (some ⟨b1, o1, none⟩) n c) ∧ w'.cell? ⟨b1, o1 + j * 7, none⟩ = some (.int .i64 t.args[j].kind) ∧ w'.cell? ⟨b1, o1 + j * 7 + 1, none⟩ = some (.string t.args[j].name) ∧ w'.cell? ⟨b1, o1 + j * 7 + 2, none⟩ = some (.int .u32 t.args[j].num) ∧ w'.cell? ⟨b1, o1 + j * 7 + 3, none⟩ = some (.int .i64 t.args[j].int_) ∧ w'.cell? ⟨b1, o1 + j * 7 + 4, none⟩ = some (.string t.args[j].key) ∧ w'.cell? ⟨b1, o1 + j * 7 + 5, none⟩ = some (.slice q1 t.args[j].args.length d1) ∧ w'.cell? ⟨b1, o1 + j * 7 + 6, none⟩ = some (.int .i64 t.args[j].at_) ∧ w'.cell? ⟨G, 0, none⟩ = some (.int .i64 t.args[j].kind) ∧ w'.cell? ⟨G, 1, none⟩ = some (.string t.args[j].name) ∧ w'.cell? ⟨G, 2, none⟩ = some (.int .u32 t.args[j].num) ∧ w'.cell? ⟨G, 3, none⟩ = some (.int .i64 t.args[j].int_) ∧ w'.cell? ⟨G, 4, none⟩ = some (.string t.args[j].key) ∧ w'.cell? ⟨G, 5, none⟩ = some (.slice q5 m5 d5) ∧ w'.cell? ⟨G, 6, none⟩ = some (.int .i64 t.args[j].at_))) (by kernel_rfl) ?_ (fun hHeld => ?_)
            · ((try dsimp only); go_keep)
            refine wpAnyH_take (i := 0) (v := ?_) (by simp only [List.getElem?_toArray, List.getElem?_cons_succ, List.getElem?_cons_zero]; rfl) (by kernel_rfl) (by kernel_rfl) (by kernel_rfl) (by exact fun _ _ _ h => h) (Or.inl ⟨by rfl, ?_⟩) (by assumption) ?_
            rotate_left 1
            · (intro wS hSw; (try dsimp only at hSw); go_simp; try (with_reducible rfl))
            try simp only [Act.put, List.setIfInBounds_toArray, List.set_cons_zero, List.set_cons_succ]
            refine wpAnyH_take (i := 1) (v := ?_) (by simp only [List.getElem?_toArray, List.getElem?_cons_succ, List.getElem?_cons_zero]; rfl) (by kernel_rfl) (by kernel_rfl) (by kernel_rfl) (by exact fun _ _ _ h => h) (Or.inl ⟨by rfl, ?_⟩) (by assumption) ?_
            rotate_left 1
            · (intro wS hSw; (try dsimp only at hSw); go_simp; try (with_reducible rfl))
            try simp only [Act.put, List.setIfInBounds_toArray, List.set_cons_zero, List.set_cons_succ]
            refine wpAnyH_take (i := 2) (v := ?_) (by simp only [List.getElem?_toArray, List.getElem?_cons_succ, List.getElem?_cons_zero]; rfl) (by kernel_rfl) (by kernel_rfl) (by kernel_rfl) (by exact fun _ _ _ h => h) (Or.inl ⟨by rfl, ?_⟩) (by assumption) ?_
            rotate_left 1
            · (intro wS hSw; (try dsimp only at hSw); go_simp; try (with_reducible rfl))
            try simp only [Act.put, List.setIfInBounds_toArray, List.set_cons_zero, List.set_cons_succ]
            refine wpAnyH_take (i := 3) (v := ?_) (by simp only [List.getElem?_toArray, List.getElem?_cons_succ, List.getElem?_cons_zero]; rfl) (by kernel_rfl) (by kernel_rfl) (by kernel_rfl) (by exact fun _ _ _ h => h) (Or.inl ⟨by rfl, ?_⟩) (by assumption) ?_
            rotate_left 1
            · (intro wS hSw; (try dsimp only at hSw); go_simp; try (with_reducible rfl))
            try simp only [Act.put, List.setIfInBounds_toArray, List.set_cons_zero, List.set_cons_succ]
            refine wpAnyH_take (i := 4) (v := ?_) (by simp only [List.getElem?_toArray, List.getElem?_cons_succ, List.getElem?_cons_zero]; rfl) (by kernel_rfl) (by kernel_rfl) (by kernel_rfl) (by exact fun _ _ _ h => h) (Or.inl ⟨by rfl, ?_⟩) (by assumption) ?_
            rotate_left 1
            · (intro wS hSw; (try dsimp only at hSw); go_simp; try (with_reducible rfl))
            try simp only [Act.put, List.setIfInBounds_toArray, List.set_cons_zero, List.set_cons_succ]
            refine wpAnyH_take (i := 5) (v := ?_) (by simp only [List.getElem?_toArray, List.getElem?_cons_succ, List.getElem?_cons_zero]; rfl) (by kernel_rfl) (by kernel_rfl) (by kernel_rfl) (by exact fun _ _ _ h => h) (Or.inl ⟨by rfl, ?_⟩) (by assumption) ?_
            rotate_left 1
            · (intro wS hSw; (try dsimp only at hSw); go_simp; try (with_reducible rfl))
            try simp only [Act.put, List.setIfInBounds_toArray, List.set_cons_zero, List.set_cons_succ]
            refine wpAnyH_take (i := 6) (v := ?_) (by simp only [List.getElem?_toArray, List.getElem?_cons_succ, List.getElem?_cons_zero]; rfl) (by kernel_rfl) (by kernel_rfl) (by kernel_rfl) (by exact fun _ _ _ h => h) (Or.inl ⟨by rfl, ?_⟩) (by assumption) ?_
            rotate_left 1
            · (intro wS hSw; (try dsimp only at hSw); go_simp; try (with_reducible rfl))
            try simp only [Act.put, List.setIfInBounds_toArray, List.set_cons_zero, List.set_cons_succ]
            refine wpAnyH_take (i := 7) (v := ?_) (by simp only [List.getElem?_toArray, List.getElem?_cons_succ, List.getElem?_cons_zero]; rfl) (by kernel_rfl) (by kernel_rfl) (by kernel_rfl) (by exact fun _ _ _ h => h) (Or.inl ⟨by rfl, ?_⟩) (by assumption) ?_
            rotate_left 1
            · (intro wS hSw; (try dsimp only at hSw); go_simp; try (with_reducible rfl))
            try simp only [Act.put, List.setIfInBounds_toArray, List.set_cons_zero, List.set_cons_succ]
            refine wpAnyH_take (i := 8) (v := ?_) (by simp only [List.getElem?_toArray, List.getElem?_cons_succ, List.getElem?_cons_zero]; rfl) (by kernel_rfl) (by kernel_rfl) (by kernel_rfl) (by exact fun _ _ _ h => h) (Or.inl ⟨by rfl, ?_⟩) (by assumption) ?_
            rotate_left 1
            · (intro wS hSw; (try dsimp only at hSw); go_simp; try (with_reducible rfl))
            try simp only [Act.put, List.setIfInBounds_toArray, List.set_cons_zero, List.set_cons_succ]
            clear hHeld
            refine wpAnyH_ready (rs := [9]) (by kernel_rfl) (by simp) ?_
            refine AllReadyH.cons (i := 9) (by simp only [List.getElem?_toArray, List.getElem?_cons_succ, List.getElem?_cons_zero]; rfl) (fun K hK => ?_) AllReadyH.nil
            go_simp
            (go_at_call 14; (with_reducible refine (HSm.out _ _ _ _ (bel HV7.out.1 (bel_d _)) (HK7.out.below (bel_d _))).mono ?_); rintro e w8 ⟨rfl, hs8⟩; have HB8 : Hid (Below w1.heap.size w1 w8 ∧ Below V.heap.size V w8) := ⟨hs8.1, bel (bel_d _) hs8.2⟩; clear hs8 z5 x0 x1 x2 x3 x4 x5 x6 a0 a1 a2 a3 a4 a5 a6; obtain ⟨-, -, -, -, -, z5, -⟩ := HCL.out w8 HB8.out.1; obtain ⟨x0, x1, x2, x3, x4, x5, x6⟩ := HB.out w8 HB8.out.1; obtain ⟨a0, a1, a2, a3, a4, a5, a6⟩ := HA7.out w8 HB8.out.2)
            try (go_wp2_with fail)
            refine hK.out _ _ ?_ (fun hHeld => ?_)
            · ((try dsimp only); go_keep)
            clear hK K
            try simp only [Act.put, List.setIfInBounds_toArray, List.set_cons_zero, List.set_cons_succ]
            refine wpAnyH_take (i := 10) (v := ?_) (by simp only [List.getElem?_toArray, List.getElem?_cons_succ, List.getElem?_cons_zero]; rfl) (by kernel_rfl) (by kernel_rfl) (by kernel_rfl) (by exact fun _ _ _ h => h) (Or.inl ⟨by rfl, ?_⟩) (by assumption) ?_
            rotate_left 1
            · (intro wS hSw; (try dsimp only at hSw); go_simp; try (with_reducible rfl))
            try simp only [Act.put, List.setIfInBounds_toArray, List.set_cons_zero, List.set_cons_succ]
            refine wpAnyH_take (i := 11) (v := ?_) (by simp only [List.getElem?_toArray, List.getElem?_cons_succ, List.getElem?_cons_zero]; rfl) (by kernel_rfl) (by kernel_rfl) (by kernel_rfl) (by exact fun _ _ _ h => h) (Or.inl ⟨by rfl, ?_⟩) (by assumption) ?_
            rotate_left 1
            · (intro wS hSw; (try dsimp only at hSw); go_simp; try (with_reducible rfl))
            try simp only [Act.put, List.setIfInBounds_toArray, List.set_cons_zero, List.set_cons_succ]
            refine wpAnyH_done (by kernel_rfl) ?_ _
            go_wp2
            go_roundw
            case rel => exact ⟨HB8.out.1, j + 1, _, rfl, by omega, by go_num, by rw [HT1.out]; congr 1; push_cast; omega, by rw [HT2.out]; congr 1; push_cast; omega, by rw [HNX.out]; exact ⟨((by rw [HNS.out, List.append_nil]; exact HO3.out : OwnS w5 w1.heap.size ov (acc ++ ns))).below (bel HV7.out.2 HB8.out.2), fun e => hS.out.2 (List.append_eq_nil_iff.1 e).1⟩⟩
            case measure => simp [intOf]; omega
          · have hnp : 0 < ns.length := by cases ns with | nil => exact absurd rfl hns0 | cons a b => simp
            have HNS : Hid (¬ ns = []) := hns0
            clear hns0
            go_upto_region 13 with (first
              | (go_at_call 24; (with_reducible refine (HNm.out _ HB4.out.1).mono ?_); rintro e w5 ⟨v3, rfl, ho3, hz3, hs5⟩; obtain ⟨g3, c3, rfl, hg3, hg4⟩ := World.ownsRow.form ho3 hnp; have HO3 : Hid (OwnS w5 w1.heap.size ov acc) := hS.out.1.below (bel HB4.out.2 hs5.2); have HN3 : Hid (∀ j u, (strs ns)[j]? = some u → w5.cell? ((⟨g3, 0, none⟩ : Addr).add j) = some u) := ho3.cells (g := g3) rfl; have HB5 : Hid (Below w1.heap.size w1 w5 ∧ Below wr.heap.size wr w5) := ⟨hs5.1, bel HB4.out.2 hs5.2⟩; have hs3 := HB5.out.1.size; clear ho3 hz3 hs5)
              | (at_builtin; refine wpList_append_own_at _ rfl _ _ 35 rfl w1.heap.size 9 i0 _ 1 16 Try.underlying35 hi0 hz0 hz1 hz2 rfl (by decide) ov acc.length (strs acc) rfl HO3.out ⟨g3, 0, none⟩ ns.length c3 (strs ns) rfl (by simp [strs]) HN3.out (by intro u hu; obtain ⟨x, -, rfl⟩ := List.mem_map.1 hu; rfl) (by unfold maxLen; omega) (by omega) (by omega) ?_; intro v4 w6 hown4 hgrow hnil hat; have HO4 : Hid (OwnS w6 w1.heap.size v4 (acc ++ ns)) := (by unfold OwnS strs; rw [List.length_append, List.map_append]; exact hown4); have HG4 : Hid (w5.grownBy w6 ov.ownBlock) := hgrow; clear hown4 hgrow hnil hat))
            have HB6 : Hid (Below w1.heap.size w1 w6) := Below.grown HB5.out.1 HG4.out HB5.out.1.size (fun k hk => (HOB.out k hk).1)
            clear z0 z1 z2 z3 z4 z5 z6 x0 x1 x2 x3 x4 x5 x6
            obtain ⟨z0, z1, z2, z3, z4, z5, z6⟩ := HCL.out w6 HB6.out
            have HGx : Hid ((w6.alloc (.cells #[.int .i64 (j : Int)] 3)).cell? ⟨w6.heap.size, 0, none⟩ = some (.int .i64 (j : Int))) := cell_heap (box_heap w6 (.cells #[.int .i64 (j : Int)] 3)) 0
            have HGb : Hid (Below w1.heap.size w1 (w6.alloc (.cells #[.int .i64 (j : Int)] 3))) := bel HB6.out (bel_alloc _ _)
            go_upto_region 14 with (go_at_call 26; (with_reducible refine (HFd.out _ _ HGb.out HGx.out).mono ?_); rintro e w7 ⟨q5, m5, d5, rfl, hk7, hs7⟩)
            have hb7 := bel_alloc w7 (.cells #[.int .i64 t.args[j].kind, .string t.args[j].name, .int .u32 t.args[j].num, .int .i64 t.args[j].int_, .string t.args[j].key, .slice q5 m5 d5, .int .i64 t.args[j].at_] 26)
            have hx7 := box_heap w7 (.cells #[.int .i64 t.args[j].kind, .string t.args[j].name, .int .u32 t.args[j].num, .int .i64 t.args[j].int_, .string t.args[j].key, .slice q5 m5 d5, .int .i64 t.args[j].at_] 26)
            have HV7 : Hid (Below w1.heap.size w1 (w7.alloc (.cells #[.int .i64 t.args[j].kind, .string t.args[j].name, .int .u32 t.args[j].num, .int .i64 t.args[j].int_, .string t.args[j].key, .slice q5 m5 d5, .int .i64 t.args[j].at_] 26)) ∧ Below w6.heap.size w6 (w7.alloc (.cells #[.int .i64 t.args[j].kind, .string t.args[j].name, .int .u32 t.args[j].num, .int .i64 t.args[j].int_, .string t.args[j].key, .slice q5 m5 d5, .int .i64 t.args[j].at_] 26))) := ⟨bel hs7.1 hb7, bel (bel_alloc _ _) (bel hs7.2 hb7)⟩
            have HK7 : Hid (Kids (w7.alloc (.cells #[.int .i64 t.args[j].kind, .string t.args[j].name, .int .u32 t.args[j].num, .int .i64 t.args[j].int_, .string t.args[j].key, .slice q5 m5 d5, .int .i64 t.args[j].at_] 26)) anyH (.slice q5 m5 d5) t.args[j].args) := hk7.below hb7
            obtain ⟨V, hV⟩ : ∃ V, w7.alloc (.cells #[.int .i64 t.args[j].kind, .string t.args[j].name, .int .u32 t.args[j].num, .int .i64 t.args[j].int_, .string t.args[j].key, .slice q5 m5 d5, .int .i64 t.args[j].at_] 26) = V := ⟨_, rfl⟩
            obtain ⟨G, hG⟩ : ∃ G, w7.heap.size = G := ⟨_, rfl⟩
            rw [hV, hG] at hx7
            rw [hV] at HV7 HK7
            rw [hV, hG]
            have HA7 : Hid (∀ v, Below V.heap.size V v → v.cell? ⟨G, 0, none⟩ = some (.int .i64 t.args[j].kind) ∧ v.cell? ⟨G, 1, none⟩ = some (.string t.args[j].name) ∧ v.cell? ⟨G, 2, none⟩ = some (.int .u32 t.args[j].num) ∧ v.cell? ⟨G, 3, none⟩ = some (.int .i64 t.args[j].int_) ∧ v.cell? ⟨G, 4, none⟩ = some (.string t.args[j].key) ∧ v.cell? ⟨G, 5, none⟩ = some (.slice q5 m5 d5) ∧ v.cell? ⟨G, 6, none⟩ = some (.int .i64 t.args[j].at_)) := fun v hv => by
              have hx : v.heap[G]? = some (.cells #[.int .i64 t.args[j].kind, .string t.args[j].name, .int .u32 t.args[j].num, .int .i64 t.args[j].int_, .string t.args[j].key, .slice q5 m5 d5, .int .i64 t.args[j].at_] 26) := by rw [hv.block _ (hlt hx7)]; exact hx7
              exact ⟨cell_heap hx 0, cell_heap hx 1, cell_heap hx 2, cell_heap hx 3, cell_heap hx 4, cell_heap hx 5, cell_heap hx 6⟩
            clear hV hG hk7 hs7 hb7 hx7 HGx HGb z0 z1 z2 z3 z4 z5 z6
            obtain ⟨-, -, -, -, -, z5, -⟩ := HCL.out V HV7.out.1
            obtain ⟨x0, x1, x2, x3, x4, x5, x6⟩ := HB.out V HV7.out.1
            obtain ⟨a0, a1, a2, a3, a4, a5, a6⟩ := HA7.out V (bel0 V)
            refine wp_region_held_drew (S := (fun w' => w'.cell? ⟨w.heap.size, 5, none⟩ = some (.slice (some ⟨b1, o1, none⟩) n c) ∧ w'.cell? ⟨b1, o1 + j * 7, none⟩ = some (.int .i64 t.args[j].kind) ∧ w'.cell? ⟨b1, o1 + j * 7 + 1, none⟩ = some (.string t.args[j].name) ∧ w'.cell? ⟨b1, o1 + j * 7 + 2, none⟩ = some (.int .u32 t.args[j].num) ∧ w'.cell? ⟨b1, o1 + j * 7 + 3, none⟩ = some (.int .i64 t.args[j].int_) ∧ w'.cell? ⟨b1, o1 + j * 7 + 4, none⟩ = some (.string t.args[j].key) ∧ w'.cell? ⟨b1, o1 + j * 7 + 5, none⟩ = some (.slice q1 t.args[j].args.length d1) ∧ w'.cell? ⟨b1, o1 + j * 7 + 6, none⟩ = some (.int .i64 t.args[j].at_) ∧ w'.cell? ⟨G, 0, none⟩ = some (.int .i64 t.args[j].kind) ∧ w'.cell? ⟨G, 1, none⟩ = some (.string t.args[j].name) ∧ w'.cell? ⟨G, 2, none⟩ = some (.int .u32 t.args[j].num) ∧ w'.cell? ⟨G, 3, none⟩ = some (.int .i64 t.args[j].int_) ∧ w'.cell? ⟨G, 4, none⟩ = some (.string t.args[j].key) ∧ w'.cell? ⟨G, 5, none⟩ = some (.slice q5 m5 d5) ∧ w'.cell? ⟨G, 6, none⟩ = some (.int .i64 t.args[j].at_))) (by kernel_rfl) ?_ (fun hHeld => ?_)
            · ((try dsimp only); go_keep)
            refine wpAnyH_take (i := 0) (v := ?_) (by simp only [List.getElem?_toArray, List.getElem?_cons_succ, List.getElem?_cons_zero]; rfl) (by kernel_rfl) (by kernel_rfl) (by kernel_rfl) (by exact fun _ _ _ h => h) (Or.inl ⟨by rfl, ?_⟩) (by assumption) ?_
            rotate_left 1
            · (intro wS hSw; (try dsimp only at hSw); go_simp; try (with_reducible rfl))
            try simp only [Act.put, List.setIfInBounds_toArray, List.set_cons_zero, List.set_cons_succ]
            refine wpAnyH_take (i := 1) (v := ?_) (by simp only [List.getElem?_toArray, List.getElem?_cons_succ, List.getElem?_cons_zero]; rfl) (by kernel_rfl) (by kernel_rfl) (by kernel_rfl) (by exact fun _ _ _ h => h) (Or.inl ⟨by rfl, ?_⟩) (by assumption) ?_
            rotate_left 1
            · (intro wS hSw; (try dsimp only at hSw); go_simp; try (with_reducible rfl))
            try simp only [Act.put, List.setIfInBounds_toArray, List.set_cons_zero, List.set_cons_succ]
            refine wpAnyH_take (i := 2) (v := ?_) (by simp only [List.getElem?_toArray, List.getElem?_cons_succ, List.getElem?_cons_zero]; rfl) (by kernel_rfl) (by kernel_rfl) (by kernel_rfl) (by exact fun _ _ _ h => h) (Or.inl ⟨by rfl, ?_⟩) (by assumption) ?_
            rotate_left 1
            · (intro wS hSw; (try dsimp only at hSw); go_simp; try (with_reducible rfl))
            try simp only [Act.put, List.setIfInBounds_toArray, List.set_cons_zero, List.set_cons_succ]
            refine wpAnyH_take (i := 3) (v := ?_) (by simp only [List.getElem?_toArray, List.getElem?_cons_succ, List.getElem?_cons_zero]; rfl) (by kernel_rfl) (by kernel_rfl) (by kernel_rfl) (by exact fun _ _ _ h => h) (Or.inl ⟨by rfl, ?_⟩) (by assumption) ?_
            rotate_left 1
            · (intro wS hSw; (try dsimp only at hSw); go_simp; try (with_reducible rfl))
            try simp only [Act.put, List.setIfInBounds_toArray, List.set_cons_zero, List.set_cons_succ]
            refine wpAnyH_take (i := 4) (v := ?_) (by simp only [List.getElem?_toArray, List.getElem?_cons_succ, List.getElem?_cons_zero]; rfl) (by kernel_rfl) (by kernel_rfl) (by kernel_rfl) (by exact fun _ _ _ h => h) (Or.inl ⟨by rfl, ?_⟩) (by assumption) ?_
            rotate_left 1
            · (intro wS hSw; (try dsimp only at hSw); go_simp; try (with_reducible rfl))
            try simp only [Act.put, List.setIfInBounds_toArray, List.set_cons_zero, List.set_cons_succ]
            refine wpAnyH_take (i := 5) (v := ?_) (by simp only [List.getElem?_toArray, List.getElem?_cons_succ, List.getElem?_cons_zero]; rfl) (by kernel_rfl) (by kernel_rfl) (by kernel_rfl) (by exact fun _ _ _ h => h) (Or.inl ⟨by rfl, ?_⟩) (by assumption) ?_
            rotate_left 1
            · (intro wS hSw; (try dsimp only at hSw); go_simp; try (with_reducible rfl))
            try simp only [Act.put, List.setIfInBounds_toArray, List.set_cons_zero, List.set_cons_succ]
            refine wpAnyH_take (i := 6) (v := ?_) (by simp only [List.getElem?_toArray, List.getElem?_cons_succ, List.getElem?_cons_zero]; rfl) (by kernel_rfl) (by kernel_rfl) (by kernel_rfl) (by exact fun _ _ _ h => h) (Or.inl ⟨by rfl, ?_⟩) (by assumption) ?_
            rotate_left 1
            · (intro wS hSw; (try dsimp only at hSw); go_simp; try (with_reducible rfl))
            try simp only [Act.put, List.setIfInBounds_toArray, List.set_cons_zero, List.set_cons_succ]
            refine wpAnyH_take (i := 7) (v := ?_) (by simp only [List.getElem?_toArray, List.getElem?_cons_succ, List.getElem?_cons_zero]; rfl) (by kernel_rfl) (by kernel_rfl) (by kernel_rfl) (by exact fun _ _ _ h => h) (Or.inl ⟨by rfl, ?_⟩) (by assumption) ?_
            rotate_left 1
            · (intro wS hSw; (try dsimp only at hSw); go_simp; try (with_reducible rfl))
            try simp only [Act.put, List.setIfInBounds_toArray, List.set_cons_zero, List.set_cons_succ]
            refine wpAnyH_take (i := 8) (v := ?_) (by simp only [List.getElem?_toArray, List.getElem?_cons_succ, List.getElem?_cons_zero]; rfl) (by kernel_rfl) (by kernel_rfl) (by kernel_rfl) (by exact fun _ _ _ h => h) (Or.inl ⟨by rfl, ?_⟩) (by assumption) ?_
            rotate_left 1
            · (intro wS hSw; (try dsimp only at hSw); go_simp; try (with_reducible rfl))
            try simp only [Act.put, List.setIfInBounds_toArray, List.set_cons_zero, List.set_cons_succ]
            clear hHeld
            refine wpAnyH_ready (rs := [9]) (by kernel_rfl) (by simp) ?_
            refine AllReadyH.cons (i := 9) (by simp only [List.getElem?_toArray, List.getElem?_cons_succ, List.getElem?_cons_zero]; rfl) (fun K hK => ?_) AllReadyH.nil
            go_simp
            (go_at_call 14; (with_reducible refine (HSm.out _ _ _ _ (bel HV7.out.1 (bel_d _)) (HK7.out.below (bel_d _))).mono ?_); rintro e w8 ⟨rfl, hs8⟩; have HB8 : Hid (Below w1.heap.size w1 w8 ∧ Below V.heap.size V w8) := ⟨hs8.1, bel (bel_d _) hs8.2⟩; clear hs8 z5 x0 x1 x2 x3 x4 x5 x6 a0 a1 a2 a3 a4 a5 a6; obtain ⟨-, -, -, -, -, z5, -⟩ := HCL.out w8 HB8.out.1; obtain ⟨x0, x1, x2, x3, x4, x5, x6⟩ := HB.out w8 HB8.out.1; obtain ⟨a0, a1, a2, a3, a4, a5, a6⟩ := HA7.out w8 HB8.out.2)
            try (go_wp2_with fail)
            refine hK.out _ _ ?_ (fun hHeld => ?_)
            · ((try dsimp only); go_keep)
            clear hK K
            try simp only [Act.put, List.setIfInBounds_toArray, List.set_cons_zero, List.set_cons_succ]
            refine wpAnyH_take (i := 10) (v := ?_) (by simp only [List.getElem?_toArray, List.getElem?_cons_succ, List.getElem?_cons_zero]; rfl) (by kernel_rfl) (by kernel_rfl) (by kernel_rfl) (by exact fun _ _ _ h => h) (Or.inl ⟨by rfl, ?_⟩) (by assumption) ?_
            rotate_left 1
            · (intro wS hSw; (try dsimp only at hSw); go_simp; try (with_reducible rfl))
            try simp only [Act.put, List.setIfInBounds_toArray, List.set_cons_zero, List.set_cons_succ]
            refine wpAnyH_take (i := 11) (v := ?_) (by simp only [List.getElem?_toArray, List.getElem?_cons_succ, List.getElem?_cons_zero]; rfl) (by kernel_rfl) (by kernel_rfl) (by kernel_rfl) (by exact fun _ _ _ h => h) (Or.inl ⟨by rfl, ?_⟩) (by assumption) ?_
            rotate_left 1
            · (intro wS hSw; (try dsimp only at hSw); go_simp; try (with_reducible rfl))
            try simp only [Act.put, List.setIfInBounds_toArray, List.set_cons_zero, List.set_cons_succ]
            refine wpAnyH_done (by kernel_rfl) ?_ _
            go_wp2
            go_roundw
            case rel => exact ⟨HB8.out.1, j + 1, _, rfl, by omega, by go_num, by rw [HT1.out]; congr 1; push_cast; omega, by rw [HT2.out]; congr 1; push_cast; omega, by rw [HNX.out]; exact ⟨(HO4.out).below (bel HV7.out.2 HB8.out.2), fun e => absurd (List.append_eq_nil_iff.1 e).2 HNS.out⟩⟩
            case measure => simp [intOf]; omega
      · have : j = n := by omega
        subst this
        have e : t.args.take j = t.args := List.take_of_length_le (by rw [HN.out]; exact Nat.le_refl _)
        rw [e, ← HNM.out] at hS
        rw [e]
        have HOW := hS.out.1
        obtain ⟨pl, cl, rfl, hrow⟩ := rowS_cell hS.out.1
        have HTX : Hid (Txt wr (.slice pl (names t).length cl) (names t)) := ⟨pl, cl, rfl, hrow⟩
        have HBR : Hid (Below w1.heap.size w1 wr) := hb
        have hnl := names_le t
        have hce : cnt t = 1 + cntL t.args := rfl
        have hdl : depL t.args ≤ 9000 := by have := depL_cnt t.args; omega
        have hk1 := HK1.out.below hb
        have hk2 : Kids wr anyH (.slice p j c) t.args := by rw [HN.out] at hk1; exact hk1
        have HCnt : Hid (∀ (v : World), Below wr.heap.size wr v → Calls Try.prog 18 #[.agg #[.int .i64 t.kind, .string t.name, .int .u32 t.num, .int .i64 t.int_, .string t.key, .slice p j c, .int .i64 t.at_]] v fun e v' => e = .returned (.int .i64 (1 + (cntL t.args : Int))) ∧ (Below wr.heap.size wr v' ∧ Below v.heap.size v v')) := fun v hv => (count_any t _ v hc hok (hk2.below hv)).mono fun e v' ⟨he, hb⟩ => ⟨by rw [he, hce]; push_cast; try rfl, bel hv hb, hb⟩
        have HDep : Hid (∀ (v : World), Below wr.heap.size wr v → Calls Try.prog 20 #[.agg #[.int .i64 t.kind, .string t.name, .int .u32 t.num, .int .i64 t.int_, .string t.key, .slice p j c, .int .i64 t.at_]] v fun e v' => e = .returned (.int .i64 ((depL t.args : Int) + 1)) ∧ (Below wr.heap.size wr v' ∧ Below v.heap.size v v')) := fun v hv => (depth_any t _ v hc hok (hk2.below hv)).mono fun e v' ⟨he, hb⟩ => ⟨by rw [he]; rfl, bel hv hb, hb⟩
        have HNm : Hid (∀ (v : World), Below wr.heap.size wr v → Calls Try.prog 24 #[.agg #[.int .i64 t.kind, .string t.name, .int .u32 t.num, .int .i64 t.int_, .string t.key, .slice p j c, .int .i64 t.at_]] v fun e v' => ∃ x, e = .returned (x) ∧ Txt v' x (names t) ∧ (Below wr.heap.size wr v' ∧ Below v.heap.size v v')) := fun v hv => (names_any t _ v hc hok (hk2.below hv)).mono fun e v' ⟨x, he, ho, _, hb⟩ => ⟨x, he, rowS_cell ho, bel hv hb, hb⟩
        have HTx : Hid (∀ (v : World) (x : Value), Below wr.heap.size wr v → Txt v x (names t) → Txt v (.slice pl (names t).length cl) (names t) → Calls Try.prog 23 #[x, .slice pl (names t).length cl] v fun e v' => e = .returned (.bool true) ∧ (Below wr.heap.size wr v' ∧ Below v.heap.size v v')) := fun v x hv ha hb => (sameTexts_any x _ (names t) (by omega) v ha hb).mono fun e v' ⟨he, hb'⟩ => ⟨he, bel hv hb', hb'⟩
        have HSu : Hid (∀ (v : World), Below wr.heap.size wr v → Calls Try.prog 10 #[] v fun e v' => e = .returned (.bool true) ∧ (Below wr.heap.size wr v' ∧ Below v.heap.size v v')) := fun v hv => (sure_any v).mono fun e v' ⟨he, hb⟩ => ⟨he, bel hv hb, hb⟩
        have HCE : Hid (∀ v, Below wr.heap.size wr v → v.cell? ⟨w.heap.size, 0, none⟩ = some (.int .i64 t.kind) ∧ v.cell? ⟨w.heap.size, 1, none⟩ = some (.string t.name) ∧ v.cell? ⟨w.heap.size, 2, none⟩ = some (.int .u32 t.num) ∧ v.cell? ⟨w.heap.size, 3, none⟩ = some (.int .i64 t.int_) ∧ v.cell? ⟨w.heap.size, 4, none⟩ = some (.string t.key) ∧ v.cell? ⟨w.heap.size, 5, none⟩ = some (.slice p j c) ∧ v.cell? ⟨w.heap.size, 6, none⟩ = some (.int .i64 t.at_)) := fun v hv => HCL.out v (bel HBR.out hv)
        have hle2 : ((names t).length : Int) ≤ 1 + (cntL t.args : Int) := by omega
        obtain ⟨nn, hnn⟩ : ∃ nn, (names t).length = nn := ⟨_, rfl⟩
        rw [hnn] at HTX HTx hle2 ⊢
        clear hrow hnl hce hk1 hk2 hok hc hS HOW hb e hnn HK1 HN
        obtain ⟨z0, z1, z2, z3, z4, z5, z6⟩ := HCE.out wr (bel0 wr)
        go_wp2_with (first
          | (go_at_call 18; (with_reducible refine (HCnt.out _ (bel0 _)).mono ?_); rintro e w2 ⟨rfl, hs2⟩; clear z0 z1 z2 z3 z4 z5 z6; obtain ⟨z0, z1, z2, z3, z4, z5, z6⟩ := HCE.out w2 hs2.1)
          | (go_at_call 20; (with_reducible refine (HDep.out _ hs2.1).mono ?_); rintro e w3 ⟨rfl, hs3⟩; clear z0 z1 z2 z3 z4 z5 z6; obtain ⟨z0, z1, z2, z3, z4, z5, z6⟩ := HCE.out w3 hs3.1)
          | (go_at_call 24; (with_reducible refine (HNm.out _ hs3.1).mono ?_); rintro e w4 ⟨x4, rfl, ht4, hs4⟩; have HT4 : Hid (Txt w4 x4 (names t)) := ht4; clear ht4)
          | (go_at_call 23; (with_reducible refine (HTx.out _ _ hs4.1 HT4.out (HTX.out.below hs4.1)).mono ?_); rintro e w5 ⟨rfl, hs5⟩)
          | (go_at_call 10; (with_reducible refine (HSu.out _ hs5.1).mono ?_); rintro e w6 ⟨rfl, hs6⟩))
        go_ret
        exact ⟨rfl, bel HBW.out (bel HBR.out hs6.1)⟩
  · have zk : (t.kind == 1) = false := by simpa using hk1
    have HNM : Hid (names t = ([] : List ByteArray) ++ namesL t.args) := by unfold names; rw [zk]; exact rfl
    clear hk1
    go_enter Try.func7, Try.ntmps7
    go_upto_region 3 with (go_at_call 9; (with_reducible refine (HG.out _ HW0.out).mono ?_); rintro e w1 ⟨rfl, hb1⟩)
    obtain ⟨hx1, hk1⟩ := HX.out w1 hb1
    have HBW : Hid (Below w.heap.size w w1) := bel HW0.out hb1
    have HBX : Hid (w1.heap[w.heap.size]? = some (.cells #[.int .i64 t.kind, .string t.name, .int .u32 t.num, .int .i64 t.int_, .string t.key, .slice p n c, .int .i64 t.at_] 26)) := hx1
    have HK1 : Hid (Kids w1 anyH (.slice p t.args.length c) t.args) := by rw [HN.out]; exact hk1
    have HCL : Hid (∀ v, Below w1.heap.size w1 v → v.cell? ⟨w.heap.size, 0, none⟩ = some (.int .i64 t.kind) ∧ v.cell? ⟨w.heap.size, 1, none⟩ = some (.string t.name) ∧ v.cell? ⟨w.heap.size, 2, none⟩ = some (.int .u32 t.num) ∧ v.cell? ⟨w.heap.size, 3, none⟩ = some (.int .i64 t.int_) ∧ v.cell? ⟨w.heap.size, 4, none⟩ = some (.string t.key) ∧ v.cell? ⟨w.heap.size, 5, none⟩ = some (.slice p n c) ∧ v.cell? ⟨w.heap.size, 6, none⟩ = some (.int .i64 t.at_)) := fun v hv => by
      have hx : v.heap[w.heap.size]? = some (.cells #[.int .i64 t.kind, .string t.name, .int .u32 t.num, .int .i64 t.int_, .string t.key, .slice p n c, .int .i64 t.at_] 26) := by rw [hv.block _ (hlt hx1)]; exact hx1
      exact ⟨cell_heap hx 0, cell_heap hx 1, cell_heap hx 2, cell_heap hx 3, cell_heap hx 4, cell_heap hx 5, cell_heap hx 6⟩
    obtain ⟨z0, z1, z2, z3, z4, z5, z6⟩ := HCL.out w1 (bel0 w1)
    clear HX HG HW0 hb1 hx1 hk1
    go_wp2
    clear z0 z1 z2 z3 z4 z5 z6
    go_loopw [3, 4, 5, 6] (fun cv dv lv iv wr => Below w1.heap.size w1 wr ∧ ∃ (j : Nat) (ov : Value), ov = lv ∧ j ≤ n ∧ iv = .int .i64 j ∧ cv = .int .i64 (1 + (cntL (t.args.take j) : Int)) ∧ dv = .int .i64 (depL (t.args.take j) : Int) ∧ Hid (OwnS wr w1.heap.size ov (([] : List ByteArray) ++ namesL (t.args.take j)) ∧ (([] : List ByteArray) ++ namesL (t.args.take j) = [] → ov = .slice none 0 0))) (fun _ _ _ iv _ => n - (intOf iv).toNat)
    case atStart => exact ⟨bel0 _, 0, _, rfl, Nat.zero_le _, rfl, by rw [List.take_zero, cntL_nil]; rfl, by rw [List.take_zero, depL_nil]; rfl, by rw [List.take_zero, namesL_nil, List.append_nil]; exact ⟨ownS_nil _ _, fun _ => rfl⟩⟩
    case round =>
      obtain ⟨hb, j, ov, rfl, hj, rfl, rfl, rfl, hS⟩ := hrel
      obtain ⟨hok, hc⟩ := HOK.out
      by_cases hlt0 : j < n
      · have hll : j < t.args.length := by rw [HN.out]; exact hlt0
        obtain ⟨b1, o1, q1, d1, hp, hcs, kx⟩ := kid_at HK1.out (bel0 w1) hll
        subst hp
        have hck : cnt t.args[j] ≤ 9000 := by have h1 := cnt_get hll; unfold cnt at hc; omega
        have hok2 := okL_get hok.2 hll
        have HB : Hid (∀ v, Below w1.heap.size w1 v → v.cell? ⟨b1, o1 + j * 7, none⟩ = some (.int .i64 t.args[j].kind) ∧ v.cell? ⟨b1, o1 + j * 7 + 1, none⟩ = some (.string t.args[j].name) ∧ v.cell? ⟨b1, o1 + j * 7 + 2, none⟩ = some (.int .u32 t.args[j].num) ∧ v.cell? ⟨b1, o1 + j * 7 + 3, none⟩ = some (.int .i64 t.args[j].int_) ∧ v.cell? ⟨b1, o1 + j * 7 + 4, none⟩ = some (.string t.args[j].key) ∧ v.cell? ⟨b1, o1 + j * 7 + 5, none⟩ = some (.slice q1 t.args[j].args.length d1) ∧ v.cell? ⟨b1, o1 + j * 7 + 6, none⟩ = some (.int .i64 t.args[j].at_)) := fun v hv => ⟨(hv.cell (mcell_lt hcs.1)).trans hcs.1, (hv.cell (mcell_lt hcs.2.1)).trans hcs.2.1, (hv.cell (mcell_lt hcs.2.2.1)).trans hcs.2.2.1, (hv.cell (mcell_lt hcs.2.2.2.1)).trans hcs.2.2.2.1, (hv.cell (mcell_lt hcs.2.2.2.2.1)).trans hcs.2.2.2.2.1, (hv.cell (mcell_lt hcs.2.2.2.2.2.1)).trans hcs.2.2.2.2.2.1, (hv.cell (mcell_lt hcs.2.2.2.2.2.2)).trans hcs.2.2.2.2.2.2⟩
        have ht1 := cntL_take hll
        have ht2 := depL_take hll
        have hle := cntL_take_le t.args (j + 1)
        have hdl := depL_take_le t.args (j + 1)
        have hdc := depL_cnt t.args
        have hce : cnt t = 1 + cntL t.args := rfl
        have hnl : (([] : List ByteArray) ++ namesL (t.args.take (j + 1))).length ≤ 9001 := by
          have h1 := namesL_le (t.args.take (j + 1))
          rw [List.length_append]
          simp
          omega
        have hnx : ([] : List ByteArray) ++ namesL (t.args.take (j + 1)) = (([] : List ByteArray) ++ namesL (t.args.take j)) ++ names t.args[j] := by rw [namesL_take hll, List.append_assoc]
        rw [hnx] at hnl
        obtain ⟨acc, hacc⟩ : ∃ acc, ([] : List ByteArray) ++ namesL (t.args.take j) = acc := ⟨_, rfl⟩
        obtain ⟨ns, hns⟩ : ∃ ns, names t.args[j] = ns := ⟨_, rfl⟩
        obtain ⟨s, hs⟩ : ∃ s, cntL (t.args.take j) = s := ⟨_, rfl⟩
        obtain ⟨m, hm⟩ : ∃ m, cnt t.args[j] = m := ⟨_, rfl⟩
        obtain ⟨sd, hsd⟩ : ∃ s, depL (t.args.take j) = s := ⟨_, rfl⟩
        obtain ⟨md, hmd⟩ : ∃ m, dep t.args[j] = m := ⟨_, rfl⟩
        rw [hacc, hns] at hnl hnx
        rw [hacc] at hS
        rw [hs, hm] at ht1
        rw [hsd, hmd] at ht2
        rw [hs, hsd]
        rw [List.length_append] at hnl
        have HNX : Hid (([] : List ByteArray) ++ namesL (t.args.take (j + 1)) = acc ++ ns) := hnx
        have HT1 : Hid (cntL (t.args.take (j + 1)) = s + m) := ht1
        have HT2 : Hid (depL (t.args.take (j + 1)) = max sd md) := ht2
        have HCnt : Hid (∀ (v : World), Below w1.heap.size w1 v → Calls Try.prog 18 #[.agg #[.int .i64 t.args[j].kind, .string t.args[j].name, .int .u32 t.args[j].num, .int .i64 t.args[j].int_, .string t.args[j].key, .slice q1 t.args[j].args.length d1, .int .i64 t.args[j].at_]] v fun e v' => e = .returned (.int .i64 (m : Int)) ∧ (Below w1.heap.size w1 v' ∧ Below v.heap.size v v')) := fun v hv => (count_any t.args[j] _ v hck hok2 (kx.below hv)).mono fun e v' ⟨he, hb⟩ => ⟨by rw [he, hm], bel hv hb, hb⟩
        have HDep : Hid (∀ (v : World), Below w1.heap.size w1 v → Calls Try.prog 20 #[.agg #[.int .i64 t.args[j].kind, .string t.args[j].name, .int .u32 t.args[j].num, .int .i64 t.args[j].int_, .string t.args[j].key, .slice q1 t.args[j].args.length d1, .int .i64 t.args[j].at_]] v fun e v' => e = .returned (.int .i64 (md : Int)) ∧ (Below w1.heap.size w1 v' ∧ Below v.heap.size v v')) := fun v hv => (depth_any t.args[j] _ v hck hok2 (kx.below hv)).mono fun e v' ⟨he, hb⟩ => ⟨by rw [he, hmd], bel hv hb, hb⟩
        have HNm : Hid (∀ (v : World), Below w1.heap.size w1 v → Calls Try.prog 24 #[.agg #[.int .i64 t.args[j].kind, .string t.args[j].name, .int .u32 t.args[j].num, .int .i64 t.args[j].int_, .string t.args[j].key, .slice q1 t.args[j].args.length d1, .int .i64 t.args[j].at_]] v fun e v' => ∃ x, e = .returned (x) ∧ OwnS v' v.heap.size x ns ∧ (ns = [] → x = .slice none 0 0) ∧ (Below w1.heap.size w1 v' ∧ Below v.heap.size v v')) := fun v hv => (names_any t.args[j] _ v hck hok2 (kx.below hv)).mono fun e v' ⟨x, he, ho, hz, hb⟩ => ⟨x, he, by rw [hns] at ho; exact ho, by rw [hns] at hz; exact hz, bel hv hb, hb⟩
        have HFd : Hid (∀ (v : World) (G : Nat), Below w1.heap.size w1 v → v.cell? ⟨G, 0, none⟩ = some (.int .i64 (j : Int)) → Calls Try.prog 26 #[.agg #[.int .i64 t.kind, .string t.name, .int .u32 t.num, .int .i64 t.int_, .string t.key, .slice (some ⟨b1, o1, none⟩) n c, .int .i64 t.at_], .slice (some ⟨G, 0, none⟩) 1 1] v fun e v' => ∃ q m d, e = .returned (.tuple #[.agg #[.int .i64 t.args[j].kind, .string t.args[j].name, .int .u32 t.args[j].num, .int .i64 t.args[j].int_, .string t.args[j].key, .slice q m d, .int .i64 t.args[j].at_], .bool true]) ∧ Kids v' anyH (.slice q m d) t.args[j].args ∧ (Below w1.heap.size w1 v' ∧ Below v.heap.size v v')) := fun v G hv hG => by
          have hf : findP [(j : Int)] t = some t.args[j] := by rw [findP_in (by omega) (by simpa using hll)]; exact rfl
          have := find_any t (.slice (some ⟨b1, o1, none⟩) n c) (.slice (some ⟨G, 0, none⟩) 1 1) [(j : Int)] v (by simp) hc hok (by have := HK1.out.below hv; rw [HN.out] at this; exact this) ⟨some ⟨G, 0, none⟩, 1, rfl, .inr ⟨G, 0, rfl, fun i hi => by have hi0 : i = 0 := (by simpa using hi); subst hi0; exact hG⟩⟩
          rw [hf] at this
          exact this.mono fun e v' ⟨q, m, d, he, hkk, hb⟩ => ⟨q, m, d, he, hkk, bel hv hb, hb⟩
        have HSm : Hid (∀ (v : World) (q : Option Addr) (m d : Nat), Below w1.heap.size w1 v → Kids v anyH (.slice q m d) t.args[j].args → Calls Try.prog 14 #[.agg #[.int .i64 t.args[j].kind, .string t.args[j].name, .int .u32 t.args[j].num, .int .i64 t.args[j].int_, .string t.args[j].key, .slice q m d, .int .i64 t.args[j].at_], .agg #[.int .i64 t.args[j].kind, .string t.args[j].name, .int .u32 t.args[j].num, .int .i64 t.args[j].int_, .string t.args[j].key, .slice q1 t.args[j].args.length d1, .int .i64 t.args[j].at_]] v fun e v' => e = .returned (.bool true) ∧ (Below w1.heap.size w1 v' ∧ Below v.heap.size v v')) := fun v q m d hv ha => by
          obtain ⟨_, _, e1, -⟩ := id ha
          simp only [Value.slice.injEq] at e1
          obtain ⟨-, rfl, -⟩ := e1
          exact (same_to (dep t.args[j]) t.args[j] q q1 d d1 v (Nat.le_refl _) hck ha (kx.below hv)).mono fun e v' ⟨he, hb⟩ => ⟨he, bel hv hb, hb⟩
        have i1 : (0 : Int) ≤ (j : Int) := by omega
        have i2 : (j : Int) < (n : Int) := by omega
        have sm : s + m ≤ 9000 := by omega
        have sd9 : sd ≤ 9000 := by omega
        have md9 : md ≤ 9000 := by omega
        have HOB : Hid (∀ k, ov.ownBlock = some k → w1.heap.size ≤ k ∧ k < wr.heap.size) := fun k hk => hS.out.1.lt k hk
        have HBR : Hid (Below w1.heap.size w1 wr) := hb
        clear kx hck hok2 hcs ht1 ht2 hle hdl hdc hce hnx hacc hns hs hm hsd hmd hok hc hb
        obtain ⟨z0, z1, z2, z3, z4, z5, z6⟩ := HCL.out wr HBR.out
        obtain ⟨x0, x1, x2, x3, x4, x5, x6⟩ := HB.out wr HBR.out
        by_cases hsm : sd < md
        · have y1 : (sd : Int) < (md : Int) := by omega
          have y2 : ¬ ((md : Int) < (sd : Int)) := by omega
          have y3 : ¬ ((md : Int) ≤ (sd : Int)) := by omega
          go_upto_region 12 with (first
            | (go_at_call 18; (with_reducible refine (HCnt.out _ HBR.out).mono ?_); rintro e w3 ⟨rfl, hs3⟩; have HB3 : Hid (Below w1.heap.size w1 w3 ∧ Below wr.heap.size wr w3) := hs3; clear hs3; clear z0 z1 z2 z3 z4 z5 z6 x0 x1 x2 x3 x4 x5 x6; obtain ⟨z0, z1, z2, z3, z4, z5, z6⟩ := HCL.out w3 HB3.out.1; obtain ⟨x0, x1, x2, x3, x4, x5, x6⟩ := HB.out w3 HB3.out.1)
            | (go_at_call 20; (with_reducible refine (HDep.out _ HB3.out.1).mono ?_); rintro e w4 ⟨rfl, hs4⟩; have HB4 : Hid (Below w1.heap.size w1 w4 ∧ Below wr.heap.size wr w4) := ⟨hs4.1, bel HB3.out.2 hs4.2⟩; clear hs4; clear z0 z1 z2 z3 z4 z5 z6 x0 x1 x2 x3 x4 x5 x6; obtain ⟨z0, z1, z2, z3, z4, z5, z6⟩ := HCL.out w4 HB4.out.1; obtain ⟨x0, x1, x2, x3, x4, x5, x6⟩ := HB.out w4 HB4.out.1))
          by_cases hns0 : ns = []
          · have HNS : Hid (ns = []) := hns0
            clear hns0
            go_upto_region 13 with (first
              | (go_at_call 24; (with_reducible refine (HNm.out _ HB4.out.1).mono ?_); rintro e w5 ⟨v3, rfl, ho3, hz3, hs5⟩; obtain rfl := hz3 HNS.out; have HO3 : Hid (OwnS w5 w1.heap.size ov acc) := hS.out.1.below (bel HB4.out.2 hs5.2); have HB5 : Hid (Below w1.heap.size w1 w5) := hs5.1; clear ho3 hz3 hs5)
              | (at_builtin; refine wpList_append_own_none rfl _ _ 35 rfl w1.heap.size 9 i0 1 Try.underlying35 hi0 ov acc.length (strs acc) rfl HO3.out rfl ?_))
            clear z0 z1 z2 z3 z4 z5 z6 x0 x1 x2 x3 x4 x5 x6
            obtain ⟨z0, z1, z2, z3, z4, z5, z6⟩ := HCL.out w5 HB5.out
            have HGx : Hid ((w5.alloc (.cells #[.int .i64 (j : Int)] 3)).cell? ⟨w5.heap.size, 0, none⟩ = some (.int .i64 (j : Int))) := cell_heap (box_heap w5 (.cells #[.int .i64 (j : Int)] 3)) 0
            have HGb : Hid (Below w1.heap.size w1 (w5.alloc (.cells #[.int .i64 (j : Int)] 3))) := bel HB5.out (bel_alloc _ _)
            go_upto_region 14 with (go_at_call 26; (with_reducible refine (HFd.out _ _ HGb.out HGx.out).mono ?_); rintro e w7 ⟨q5, m5, d5, rfl, hk7, hs7⟩)
            have hb7 := bel_alloc w7 (.cells #[.int .i64 t.args[j].kind, .string t.args[j].name, .int .u32 t.args[j].num, .int .i64 t.args[j].int_, .string t.args[j].key, .slice q5 m5 d5, .int .i64 t.args[j].at_] 26)
            have hx7 := box_heap w7 (.cells #[.int .i64 t.args[j].kind, .string t.args[j].name, .int .u32 t.args[j].num, .int .i64 t.args[j].int_, .string t.args[j].key, .slice q5 m5 d5, .int .i64 t.args[j].at_] 26)
            have HV7 : Hid (Below w1.heap.size w1 (w7.alloc (.cells #[.int .i64 t.args[j].kind, .string t.args[j].name, .int .u32 t.args[j].num, .int .i64 t.args[j].int_, .string t.args[j].key, .slice q5 m5 d5, .int .i64 t.args[j].at_] 26)) ∧ Below w5.heap.size w5 (w7.alloc (.cells #[.int .i64 t.args[j].kind, .string t.args[j].name, .int .u32 t.args[j].num, .int .i64 t.args[j].int_, .string t.args[j].key, .slice q5 m5 d5, .int .i64 t.args[j].at_] 26))) := ⟨bel hs7.1 hb7, bel (bel_alloc _ _) (bel hs7.2 hb7)⟩
            have HK7 : Hid (Kids (w7.alloc (.cells #[.int .i64 t.args[j].kind, .string t.args[j].name, .int .u32 t.args[j].num, .int .i64 t.args[j].int_, .string t.args[j].key, .slice q5 m5 d5, .int .i64 t.args[j].at_] 26)) anyH (.slice q5 m5 d5) t.args[j].args) := hk7.below hb7
            obtain ⟨V, hV⟩ : ∃ V, w7.alloc (.cells #[.int .i64 t.args[j].kind, .string t.args[j].name, .int .u32 t.args[j].num, .int .i64 t.args[j].int_, .string t.args[j].key, .slice q5 m5 d5, .int .i64 t.args[j].at_] 26) = V := ⟨_, rfl⟩
            obtain ⟨G, hG⟩ : ∃ G, w7.heap.size = G := ⟨_, rfl⟩
            rw [hV, hG] at hx7
            rw [hV] at HV7 HK7
            rw [hV, hG]
            have HA7 : Hid (∀ v, Below V.heap.size V v → v.cell? ⟨G, 0, none⟩ = some (.int .i64 t.args[j].kind) ∧ v.cell? ⟨G, 1, none⟩ = some (.string t.args[j].name) ∧ v.cell? ⟨G, 2, none⟩ = some (.int .u32 t.args[j].num) ∧ v.cell? ⟨G, 3, none⟩ = some (.int .i64 t.args[j].int_) ∧ v.cell? ⟨G, 4, none⟩ = some (.string t.args[j].key) ∧ v.cell? ⟨G, 5, none⟩ = some (.slice q5 m5 d5) ∧ v.cell? ⟨G, 6, none⟩ = some (.int .i64 t.args[j].at_)) := fun v hv => by
              have hx : v.heap[G]? = some (.cells #[.int .i64 t.args[j].kind, .string t.args[j].name, .int .u32 t.args[j].num, .int .i64 t.args[j].int_, .string t.args[j].key, .slice q5 m5 d5, .int .i64 t.args[j].at_] 26) := by rw [hv.block _ (hlt hx7)]; exact hx7
              exact ⟨cell_heap hx 0, cell_heap hx 1, cell_heap hx 2, cell_heap hx 3, cell_heap hx 4, cell_heap hx 5, cell_heap hx 6⟩
            clear hV hG hk7 hs7 hb7 hx7 HGx HGb z0 z1 z2 z3 z4 z5 z6
            obtain ⟨-, -, -, -, -, z5, -⟩ := HCL.out V HV7.out.1
            obtain ⟨x0, x1, x2, x3, x4, x5, x6⟩ := HB.out V HV7.out.1
            obtain ⟨a0, a1, a2, a3, a4, a5, a6⟩ := HA7.out V (bel0 V)
            refine wp_region_held_drew (S := (fun w' => w'.cell? ⟨w.heap.size, 5, none⟩ = some (.slice (some ⟨b1, o1, none⟩) n c) ∧ w'.cell? ⟨b1, o1 + j * 7, none⟩ = some (.int .i64 t.args[j].kind) ∧ w'.cell? ⟨b1, o1 + j * 7 + 1, none⟩ = some (.string t.args[j].name) ∧ w'.cell? ⟨b1, o1 + j * 7 + 2, none⟩ = some (.int .u32 t.args[j].num) ∧ w'.cell? ⟨b1, o1 + j * 7 + 3, none⟩ = some (.int .i64 t.args[j].int_) ∧ w'.cell? ⟨b1, o1 + j * 7 + 4, none⟩ = some (.string t.args[j].key) ∧ w'.cell? ⟨b1, o1 + j * 7 + 5, none⟩ = some (.slice q1 t.args[j].args.length d1) ∧ w'.cell? ⟨b1, o1 + j * 7 + 6, none⟩ = some (.int .i64 t.args[j].at_) ∧ w'.cell? ⟨G, 0, none⟩ = some (.int .i64 t.args[j].kind) ∧ w'.cell? ⟨G, 1, none⟩ = some (.string t.args[j].name) ∧ w'.cell? ⟨G, 2, none⟩ = some (.int .u32 t.args[j].num) ∧ w'.cell? ⟨G, 3, none⟩ = some (.int .i64 t.args[j].int_) ∧ w'.cell? ⟨G, 4, none⟩ = some (.string t.args[j].key) ∧ w'.cell? ⟨G, 5, none⟩ = some (.slice q5 m5 d5) ∧ w'.cell? ⟨G, 6, none⟩ = some (.int .i64 t.args[j].at_))) (by kernel_rfl) ?_ (fun hHeld => ?_)
            · ((try dsimp only); go_keep)
            refine wpAnyH_take (i := 0) (v := ?_) (by simp only [List.getElem?_toArray, List.getElem?_cons_succ, List.getElem?_cons_zero]; rfl) (by kernel_rfl) (by kernel_rfl) (by kernel_rfl) (by exact fun _ _ _ h => h) (Or.inl ⟨by rfl, ?_⟩) (by assumption) ?_
            rotate_left 1
            · (intro wS hSw; (try dsimp only at hSw); go_simp; try (with_reducible rfl))
            try simp only [Act.put, List.setIfInBounds_toArray, List.set_cons_zero, List.set_cons_succ]
            refine wpAnyH_take (i := 1) (v := ?_) (by simp only [List.getElem?_toArray, List.getElem?_cons_succ, List.getElem?_cons_zero]; rfl) (by kernel_rfl) (by kernel_rfl) (by kernel_rfl) (by exact fun _ _ _ h => h) (Or.inl ⟨by rfl, ?_⟩) (by assumption) ?_
            rotate_left 1
            · (intro wS hSw; (try dsimp only at hSw); go_simp; try (with_reducible rfl))
            try simp only [Act.put, List.setIfInBounds_toArray, List.set_cons_zero, List.set_cons_succ]
            refine wpAnyH_take (i := 2) (v := ?_) (by simp only [List.getElem?_toArray, List.getElem?_cons_succ, List.getElem?_cons_zero]; rfl) (by kernel_rfl) (by kernel_rfl) (by kernel_rfl) (by exact fun _ _ _ h => h) (Or.inl ⟨by rfl, ?_⟩) (by assumption) ?_
            rotate_left 1
            · (intro wS hSw; (try dsimp only at hSw); go_simp; try (with_reducible rfl))
            try simp only [Act.put, List.setIfInBounds_toArray, List.set_cons_zero, List.set_cons_succ]
            refine wpAnyH_take (i := 3) (v := ?_) (by simp only [List.getElem?_toArray, List.getElem?_cons_succ, List.getElem?_cons_zero]; rfl) (by kernel_rfl) (by kernel_rfl) (by kernel_rfl) (by exact fun _ _ _ h => h) (Or.inl ⟨by rfl, ?_⟩) (by assumption) ?_
            rotate_left 1
            · (intro wS hSw; (try dsimp only at hSw); go_simp; try (with_reducible rfl))
            try simp only [Act.put, List.setIfInBounds_toArray, List.set_cons_zero, List.set_cons_succ]
            refine wpAnyH_take (i := 4) (v := ?_) (by simp only [List.getElem?_toArray, List.getElem?_cons_succ, List.getElem?_cons_zero]; rfl) (by kernel_rfl) (by kernel_rfl) (by kernel_rfl) (by exact fun _ _ _ h => h) (Or.inl ⟨by rfl, ?_⟩) (by assumption) ?_
            rotate_left 1
            · (intro wS hSw; (try dsimp only at hSw); go_simp; try (with_reducible rfl))
            try simp only [Act.put, List.setIfInBounds_toArray, List.set_cons_zero, List.set_cons_succ]
            refine wpAnyH_take (i := 5) (v := ?_) (by simp only [List.getElem?_toArray, List.getElem?_cons_succ, List.getElem?_cons_zero]; rfl) (by kernel_rfl) (by kernel_rfl) (by kernel_rfl) (by exact fun _ _ _ h => h) (Or.inl ⟨by rfl, ?_⟩) (by assumption) ?_
            rotate_left 1
            · (intro wS hSw; (try dsimp only at hSw); go_simp; try (with_reducible rfl))
            try simp only [Act.put, List.setIfInBounds_toArray, List.set_cons_zero, List.set_cons_succ]
            refine wpAnyH_take (i := 6) (v := ?_) (by simp only [List.getElem?_toArray, List.getElem?_cons_succ, List.getElem?_cons_zero]; rfl) (by kernel_rfl) (by kernel_rfl) (by kernel_rfl) (by exact fun _ _ _ h => h) (Or.inl ⟨by rfl, ?_⟩) (by assumption) ?_
            rotate_left 1
            · (intro wS hSw; (try dsimp only at hSw); go_simp; try (with_reducible rfl))
            try simp only [Act.put, List.setIfInBounds_toArray, List.set_cons_zero, List.set_cons_succ]
            refine wpAnyH_take (i := 7) (v := ?_) (by simp only [List.getElem?_toArray, List.getElem?_cons_succ, List.getElem?_cons_zero]; rfl) (by kernel_rfl) (by kernel_rfl) (by kernel_rfl) (by exact fun _ _ _ h => h) (Or.inl ⟨by rfl, ?_⟩) (by assumption) ?_
            rotate_left 1
            · (intro wS hSw; (try dsimp only at hSw); go_simp; try (with_reducible rfl))
            try simp only [Act.put, List.setIfInBounds_toArray, List.set_cons_zero, List.set_cons_succ]
            refine wpAnyH_take (i := 8) (v := ?_) (by simp only [List.getElem?_toArray, List.getElem?_cons_succ, List.getElem?_cons_zero]; rfl) (by kernel_rfl) (by kernel_rfl) (by kernel_rfl) (by exact fun _ _ _ h => h) (Or.inl ⟨by rfl, ?_⟩) (by assumption) ?_
            rotate_left 1
            · (intro wS hSw; (try dsimp only at hSw); go_simp; try (with_reducible rfl))
            try simp only [Act.put, List.setIfInBounds_toArray, List.set_cons_zero, List.set_cons_succ]
            clear hHeld
            refine wpAnyH_ready (rs := [9]) (by kernel_rfl) (by simp) ?_
            refine AllReadyH.cons (i := 9) (by simp only [List.getElem?_toArray, List.getElem?_cons_succ, List.getElem?_cons_zero]; rfl) (fun K hK => ?_) AllReadyH.nil
            go_simp
            (go_at_call 14; (with_reducible refine (HSm.out _ _ _ _ (bel HV7.out.1 (bel_d _)) (HK7.out.below (bel_d _))).mono ?_); rintro e w8 ⟨rfl, hs8⟩; have HB8 : Hid (Below w1.heap.size w1 w8 ∧ Below V.heap.size V w8) := ⟨hs8.1, bel (bel_d _) hs8.2⟩; clear hs8 z5 x0 x1 x2 x3 x4 x5 x6 a0 a1 a2 a3 a4 a5 a6; obtain ⟨-, -, -, -, -, z5, -⟩ := HCL.out w8 HB8.out.1; obtain ⟨x0, x1, x2, x3, x4, x5, x6⟩ := HB.out w8 HB8.out.1; obtain ⟨a0, a1, a2, a3, a4, a5, a6⟩ := HA7.out w8 HB8.out.2)
            try (go_wp2_with fail)
            refine hK.out _ _ ?_ (fun hHeld => ?_)
            · ((try dsimp only); go_keep)
            clear hK K
            try simp only [Act.put, List.setIfInBounds_toArray, List.set_cons_zero, List.set_cons_succ]
            refine wpAnyH_take (i := 10) (v := ?_) (by simp only [List.getElem?_toArray, List.getElem?_cons_succ, List.getElem?_cons_zero]; rfl) (by kernel_rfl) (by kernel_rfl) (by kernel_rfl) (by exact fun _ _ _ h => h) (Or.inl ⟨by rfl, ?_⟩) (by assumption) ?_
            rotate_left 1
            · (intro wS hSw; (try dsimp only at hSw); go_simp; try (with_reducible rfl))
            try simp only [Act.put, List.setIfInBounds_toArray, List.set_cons_zero, List.set_cons_succ]
            refine wpAnyH_take (i := 11) (v := ?_) (by simp only [List.getElem?_toArray, List.getElem?_cons_succ, List.getElem?_cons_zero]; rfl) (by kernel_rfl) (by kernel_rfl) (by kernel_rfl) (by exact fun _ _ _ h => h) (Or.inl ⟨by rfl, ?_⟩) (by assumption) ?_
            rotate_left 1
            · (intro wS hSw; (try dsimp only at hSw); go_simp; try (with_reducible rfl))
            try simp only [Act.put, List.setIfInBounds_toArray, List.set_cons_zero, List.set_cons_succ]
            refine wpAnyH_done (by kernel_rfl) ?_ _
            go_wp2
            go_roundw
            case rel => exact ⟨HB8.out.1, j + 1, _, rfl, by omega, by go_num, by rw [HT1.out]; congr 1; push_cast; omega, by rw [HT2.out]; congr 1; push_cast; omega, by rw [HNX.out]; exact ⟨((by rw [HNS.out, List.append_nil]; exact HO3.out : OwnS w5 w1.heap.size ov (acc ++ ns))).below (bel HV7.out.2 HB8.out.2), fun e => hS.out.2 (List.append_eq_nil_iff.1 e).1⟩⟩
            case measure => simp [intOf]; omega
          · have hnp : 0 < ns.length := by cases ns with | nil => exact absurd rfl hns0 | cons a b => simp
            have HNS : Hid (¬ ns = []) := hns0
            clear hns0
            go_upto_region 13 with (first
              | (go_at_call 24; (with_reducible refine (HNm.out _ HB4.out.1).mono ?_); rintro e w5 ⟨v3, rfl, ho3, hz3, hs5⟩; obtain ⟨g3, c3, rfl, hg3, hg4⟩ := World.ownsRow.form ho3 hnp; have HO3 : Hid (OwnS w5 w1.heap.size ov acc) := hS.out.1.below (bel HB4.out.2 hs5.2); have HN3 : Hid (∀ j u, (strs ns)[j]? = some u → w5.cell? ((⟨g3, 0, none⟩ : Addr).add j) = some u) := ho3.cells (g := g3) rfl; have HB5 : Hid (Below w1.heap.size w1 w5 ∧ Below wr.heap.size wr w5) := ⟨hs5.1, bel HB4.out.2 hs5.2⟩; have hs3 := HB5.out.1.size; clear ho3 hz3 hs5)
              | (at_builtin; refine wpList_append_own_at _ rfl _ _ 35 rfl w1.heap.size 9 i0 _ 1 16 Try.underlying35 hi0 hz0 hz1 hz2 rfl (by decide) ov acc.length (strs acc) rfl HO3.out ⟨g3, 0, none⟩ ns.length c3 (strs ns) rfl (by simp [strs]) HN3.out (by intro u hu; obtain ⟨x, -, rfl⟩ := List.mem_map.1 hu; rfl) (by unfold maxLen; omega) (by omega) (by omega) ?_; intro v4 w6 hown4 hgrow hnil hat; have HO4 : Hid (OwnS w6 w1.heap.size v4 (acc ++ ns)) := (by unfold OwnS strs; rw [List.length_append, List.map_append]; exact hown4); have HG4 : Hid (w5.grownBy w6 ov.ownBlock) := hgrow; clear hown4 hgrow hnil hat))
            have HB6 : Hid (Below w1.heap.size w1 w6) := Below.grown HB5.out.1 HG4.out HB5.out.1.size (fun k hk => (HOB.out k hk).1)
            clear z0 z1 z2 z3 z4 z5 z6 x0 x1 x2 x3 x4 x5 x6
            obtain ⟨z0, z1, z2, z3, z4, z5, z6⟩ := HCL.out w6 HB6.out
            have HGx : Hid ((w6.alloc (.cells #[.int .i64 (j : Int)] 3)).cell? ⟨w6.heap.size, 0, none⟩ = some (.int .i64 (j : Int))) := cell_heap (box_heap w6 (.cells #[.int .i64 (j : Int)] 3)) 0
            have HGb : Hid (Below w1.heap.size w1 (w6.alloc (.cells #[.int .i64 (j : Int)] 3))) := bel HB6.out (bel_alloc _ _)
            go_upto_region 14 with (go_at_call 26; (with_reducible refine (HFd.out _ _ HGb.out HGx.out).mono ?_); rintro e w7 ⟨q5, m5, d5, rfl, hk7, hs7⟩)
            have hb7 := bel_alloc w7 (.cells #[.int .i64 t.args[j].kind, .string t.args[j].name, .int .u32 t.args[j].num, .int .i64 t.args[j].int_, .string t.args[j].key, .slice q5 m5 d5, .int .i64 t.args[j].at_] 26)
            have hx7 := box_heap w7 (.cells #[.int .i64 t.args[j].kind, .string t.args[j].name, .int .u32 t.args[j].num, .int .i64 t.args[j].int_, .string t.args[j].key, .slice q5 m5 d5, .int .i64 t.args[j].at_] 26)
            have HV7 : Hid (Below w1.heap.size w1 (w7.alloc (.cells #[.int .i64 t.args[j].kind, .string t.args[j].name, .int .u32 t.args[j].num, .int .i64 t.args[j].int_, .string t.args[j].key, .slice q5 m5 d5, .int .i64 t.args[j].at_] 26)) ∧ Below w6.heap.size w6 (w7.alloc (.cells #[.int .i64 t.args[j].kind, .string t.args[j].name, .int .u32 t.args[j].num, .int .i64 t.args[j].int_, .string t.args[j].key, .slice q5 m5 d5, .int .i64 t.args[j].at_] 26))) := ⟨bel hs7.1 hb7, bel (bel_alloc _ _) (bel hs7.2 hb7)⟩
            have HK7 : Hid (Kids (w7.alloc (.cells #[.int .i64 t.args[j].kind, .string t.args[j].name, .int .u32 t.args[j].num, .int .i64 t.args[j].int_, .string t.args[j].key, .slice q5 m5 d5, .int .i64 t.args[j].at_] 26)) anyH (.slice q5 m5 d5) t.args[j].args) := hk7.below hb7
            obtain ⟨V, hV⟩ : ∃ V, w7.alloc (.cells #[.int .i64 t.args[j].kind, .string t.args[j].name, .int .u32 t.args[j].num, .int .i64 t.args[j].int_, .string t.args[j].key, .slice q5 m5 d5, .int .i64 t.args[j].at_] 26) = V := ⟨_, rfl⟩
            obtain ⟨G, hG⟩ : ∃ G, w7.heap.size = G := ⟨_, rfl⟩
            rw [hV, hG] at hx7
            rw [hV] at HV7 HK7
            rw [hV, hG]
            have HA7 : Hid (∀ v, Below V.heap.size V v → v.cell? ⟨G, 0, none⟩ = some (.int .i64 t.args[j].kind) ∧ v.cell? ⟨G, 1, none⟩ = some (.string t.args[j].name) ∧ v.cell? ⟨G, 2, none⟩ = some (.int .u32 t.args[j].num) ∧ v.cell? ⟨G, 3, none⟩ = some (.int .i64 t.args[j].int_) ∧ v.cell? ⟨G, 4, none⟩ = some (.string t.args[j].key) ∧ v.cell? ⟨G, 5, none⟩ = some (.slice q5 m5 d5) ∧ v.cell? ⟨G, 6, none⟩ = some (.int .i64 t.args[j].at_)) := fun v hv => by
              have hx : v.heap[G]? = some (.cells #[.int .i64 t.args[j].kind, .string t.args[j].name, .int .u32 t.args[j].num, .int .i64 t.args[j].int_, .string t.args[j].key, .slice q5 m5 d5, .int .i64 t.args[j].at_] 26) := by rw [hv.block _ (hlt hx7)]; exact hx7
              exact ⟨cell_heap hx 0, cell_heap hx 1, cell_heap hx 2, cell_heap hx 3, cell_heap hx 4, cell_heap hx 5, cell_heap hx 6⟩
            clear hV hG hk7 hs7 hb7 hx7 HGx HGb z0 z1 z2 z3 z4 z5 z6
            obtain ⟨-, -, -, -, -, z5, -⟩ := HCL.out V HV7.out.1
            obtain ⟨x0, x1, x2, x3, x4, x5, x6⟩ := HB.out V HV7.out.1
            obtain ⟨a0, a1, a2, a3, a4, a5, a6⟩ := HA7.out V (bel0 V)
            refine wp_region_held_drew (S := (fun w' => w'.cell? ⟨w.heap.size, 5, none⟩ = some (.slice (some ⟨b1, o1, none⟩) n c) ∧ w'.cell? ⟨b1, o1 + j * 7, none⟩ = some (.int .i64 t.args[j].kind) ∧ w'.cell? ⟨b1, o1 + j * 7 + 1, none⟩ = some (.string t.args[j].name) ∧ w'.cell? ⟨b1, o1 + j * 7 + 2, none⟩ = some (.int .u32 t.args[j].num) ∧ w'.cell? ⟨b1, o1 + j * 7 + 3, none⟩ = some (.int .i64 t.args[j].int_) ∧ w'.cell? ⟨b1, o1 + j * 7 + 4, none⟩ = some (.string t.args[j].key) ∧ w'.cell? ⟨b1, o1 + j * 7 + 5, none⟩ = some (.slice q1 t.args[j].args.length d1) ∧ w'.cell? ⟨b1, o1 + j * 7 + 6, none⟩ = some (.int .i64 t.args[j].at_) ∧ w'.cell? ⟨G, 0, none⟩ = some (.int .i64 t.args[j].kind) ∧ w'.cell? ⟨G, 1, none⟩ = some (.string t.args[j].name) ∧ w'.cell? ⟨G, 2, none⟩ = some (.int .u32 t.args[j].num) ∧ w'.cell? ⟨G, 3, none⟩ = some (.int .i64 t.args[j].int_) ∧ w'.cell? ⟨G, 4, none⟩ = some (.string t.args[j].key) ∧ w'.cell? ⟨G, 5, none⟩ = some (.slice q5 m5 d5) ∧ w'.cell? ⟨G, 6, none⟩ = some (.int .i64 t.args[j].at_))) (by kernel_rfl) ?_ (fun hHeld => ?_)
            · ((try dsimp only); go_keep)
            refine wpAnyH_take (i := 0) (v := ?_) (by simp only [List.getElem?_toArray, List.getElem?_cons_succ, List.getElem?_cons_zero]; rfl) (by kernel_rfl) (by kernel_rfl) (by kernel_rfl) (by exact fun _ _ _ h => h) (Or.inl ⟨by rfl, ?_⟩) (by assumption) ?_
            rotate_left 1
            · (intro wS hSw; (try dsimp only at hSw); go_simp; try (with_reducible rfl))
            try simp only [Act.put, List.setIfInBounds_toArray, List.set_cons_zero, List.set_cons_succ]
            refine wpAnyH_take (i := 1) (v := ?_) (by simp only [List.getElem?_toArray, List.getElem?_cons_succ, List.getElem?_cons_zero]; rfl) (by kernel_rfl) (by kernel_rfl) (by kernel_rfl) (by exact fun _ _ _ h => h) (Or.inl ⟨by rfl, ?_⟩) (by assumption) ?_
            rotate_left 1
            · (intro wS hSw; (try dsimp only at hSw); go_simp; try (with_reducible rfl))
            try simp only [Act.put, List.setIfInBounds_toArray, List.set_cons_zero, List.set_cons_succ]
            refine wpAnyH_take (i := 2) (v := ?_) (by simp only [List.getElem?_toArray, List.getElem?_cons_succ, List.getElem?_cons_zero]; rfl) (by kernel_rfl) (by kernel_rfl) (by kernel_rfl) (by exact fun _ _ _ h => h) (Or.inl ⟨by rfl, ?_⟩) (by assumption) ?_
            rotate_left 1
            · (intro wS hSw; (try dsimp only at hSw); go_simp; try (with_reducible rfl))
            try simp only [Act.put, List.setIfInBounds_toArray, List.set_cons_zero, List.set_cons_succ]
            refine wpAnyH_take (i := 3) (v := ?_) (by simp only [List.getElem?_toArray, List.getElem?_cons_succ, List.getElem?_cons_zero]; rfl) (by kernel_rfl) (by kernel_rfl) (by kernel_rfl) (by exact fun _ _ _ h => h) (Or.inl ⟨by rfl, ?_⟩) (by assumption) ?_
            rotate_left 1
            · (intro wS hSw; (try dsimp only at hSw); go_simp; try (with_reducible rfl))
            try simp only [Act.put, List.setIfInBounds_toArray, List.set_cons_zero, List.set_cons_succ]
            refine wpAnyH_take (i := 4) (v := ?_) (by simp only [List.getElem?_toArray, List.getElem?_cons_succ, List.getElem?_cons_zero]; rfl) (by kernel_rfl) (by kernel_rfl) (by kernel_rfl) (by exact fun _ _ _ h => h) (Or.inl ⟨by rfl, ?_⟩) (by assumption) ?_
            rotate_left 1
            · (intro wS hSw; (try dsimp only at hSw); go_simp; try (with_reducible rfl))
            try simp only [Act.put, List.setIfInBounds_toArray, List.set_cons_zero, List.set_cons_succ]
            refine wpAnyH_take (i := 5) (v := ?_) (by simp only [List.getElem?_toArray, List.getElem?_cons_succ, List.getElem?_cons_zero]; rfl) (by kernel_rfl) (by kernel_rfl) (by kernel_rfl) (by exact fun _ _ _ h => h) (Or.inl ⟨by rfl, ?_⟩) (by assumption) ?_
            rotate_left 1
            · (intro wS hSw; (try dsimp only at hSw); go_simp; try (with_reducible rfl))
            try simp only [Act.put, List.setIfInBounds_toArray, List.set_cons_zero, List.set_cons_succ]
            refine wpAnyH_take (i := 6) (v := ?_) (by simp only [List.getElem?_toArray, List.getElem?_cons_succ, List.getElem?_cons_zero]; rfl) (by kernel_rfl) (by kernel_rfl) (by kernel_rfl) (by exact fun _ _ _ h => h) (Or.inl ⟨by rfl, ?_⟩) (by assumption) ?_
            rotate_left 1
            · (intro wS hSw; (try dsimp only at hSw); go_simp; try (with_reducible rfl))
            try simp only [Act.put, List.setIfInBounds_toArray, List.set_cons_zero, List.set_cons_succ]
            refine wpAnyH_take (i := 7) (v := ?_) (by simp only [List.getElem?_toArray, List.getElem?_cons_succ, List.getElem?_cons_zero]; rfl) (by kernel_rfl) (by kernel_rfl) (by kernel_rfl) (by exact fun _ _ _ h => h) (Or.inl ⟨by rfl, ?_⟩) (by assumption) ?_
            rotate_left 1
            · (intro wS hSw; (try dsimp only at hSw); go_simp; try (with_reducible rfl))
            try simp only [Act.put, List.setIfInBounds_toArray, List.set_cons_zero, List.set_cons_succ]
            refine wpAnyH_take (i := 8) (v := ?_) (by simp only [List.getElem?_toArray, List.getElem?_cons_succ, List.getElem?_cons_zero]; rfl) (by kernel_rfl) (by kernel_rfl) (by kernel_rfl) (by exact fun _ _ _ h => h) (Or.inl ⟨by rfl, ?_⟩) (by assumption) ?_
            rotate_left 1
            · (intro wS hSw; (try dsimp only at hSw); go_simp; try (with_reducible rfl))
            try simp only [Act.put, List.setIfInBounds_toArray, List.set_cons_zero, List.set_cons_succ]
            clear hHeld
            refine wpAnyH_ready (rs := [9]) (by kernel_rfl) (by simp) ?_
            refine AllReadyH.cons (i := 9) (by simp only [List.getElem?_toArray, List.getElem?_cons_succ, List.getElem?_cons_zero]; rfl) (fun K hK => ?_) AllReadyH.nil
            go_simp
            (go_at_call 14; (with_reducible refine (HSm.out _ _ _ _ (bel HV7.out.1 (bel_d _)) (HK7.out.below (bel_d _))).mono ?_); rintro e w8 ⟨rfl, hs8⟩; have HB8 : Hid (Below w1.heap.size w1 w8 ∧ Below V.heap.size V w8) := ⟨hs8.1, bel (bel_d _) hs8.2⟩; clear hs8 z5 x0 x1 x2 x3 x4 x5 x6 a0 a1 a2 a3 a4 a5 a6; obtain ⟨-, -, -, -, -, z5, -⟩ := HCL.out w8 HB8.out.1; obtain ⟨x0, x1, x2, x3, x4, x5, x6⟩ := HB.out w8 HB8.out.1; obtain ⟨a0, a1, a2, a3, a4, a5, a6⟩ := HA7.out w8 HB8.out.2)
            try (go_wp2_with fail)
            refine hK.out _ _ ?_ (fun hHeld => ?_)
            · ((try dsimp only); go_keep)
            clear hK K
            try simp only [Act.put, List.setIfInBounds_toArray, List.set_cons_zero, List.set_cons_succ]
            refine wpAnyH_take (i := 10) (v := ?_) (by simp only [List.getElem?_toArray, List.getElem?_cons_succ, List.getElem?_cons_zero]; rfl) (by kernel_rfl) (by kernel_rfl) (by kernel_rfl) (by exact fun _ _ _ h => h) (Or.inl ⟨by rfl, ?_⟩) (by assumption) ?_
            rotate_left 1
            · (intro wS hSw; (try dsimp only at hSw); go_simp; try (with_reducible rfl))
            try simp only [Act.put, List.setIfInBounds_toArray, List.set_cons_zero, List.set_cons_succ]
            refine wpAnyH_take (i := 11) (v := ?_) (by simp only [List.getElem?_toArray, List.getElem?_cons_succ, List.getElem?_cons_zero]; rfl) (by kernel_rfl) (by kernel_rfl) (by kernel_rfl) (by exact fun _ _ _ h => h) (Or.inl ⟨by rfl, ?_⟩) (by assumption) ?_
            rotate_left 1
            · (intro wS hSw; (try dsimp only at hSw); go_simp; try (with_reducible rfl))
            try simp only [Act.put, List.setIfInBounds_toArray, List.set_cons_zero, List.set_cons_succ]
            refine wpAnyH_done (by kernel_rfl) ?_ _
            go_wp2
            go_roundw
            case rel => exact ⟨HB8.out.1, j + 1, _, rfl, by omega, by go_num, by rw [HT1.out]; congr 1; push_cast; omega, by rw [HT2.out]; congr 1; push_cast; omega, by rw [HNX.out]; exact ⟨(HO4.out).below (bel HV7.out.2 HB8.out.2), fun e => absurd (List.append_eq_nil_iff.1 e).2 HNS.out⟩⟩
            case measure => simp [intOf]; omega
        · have y1 : ¬ ((sd : Int) < (md : Int)) := by omega
          have y3 : (md : Int) ≤ (sd : Int) := by omega
          go_upto_region 12 with (first
            | (go_at_call 18; (with_reducible refine (HCnt.out _ HBR.out).mono ?_); rintro e w3 ⟨rfl, hs3⟩; have HB3 : Hid (Below w1.heap.size w1 w3 ∧ Below wr.heap.size wr w3) := hs3; clear hs3; clear z0 z1 z2 z3 z4 z5 z6 x0 x1 x2 x3 x4 x5 x6; obtain ⟨z0, z1, z2, z3, z4, z5, z6⟩ := HCL.out w3 HB3.out.1; obtain ⟨x0, x1, x2, x3, x4, x5, x6⟩ := HB.out w3 HB3.out.1)
            | (go_at_call 20; (with_reducible refine (HDep.out _ HB3.out.1).mono ?_); rintro e w4 ⟨rfl, hs4⟩; have HB4 : Hid (Below w1.heap.size w1 w4 ∧ Below wr.heap.size wr w4) := ⟨hs4.1, bel HB3.out.2 hs4.2⟩; clear hs4; clear z0 z1 z2 z3 z4 z5 z6 x0 x1 x2 x3 x4 x5 x6; obtain ⟨z0, z1, z2, z3, z4, z5, z6⟩ := HCL.out w4 HB4.out.1; obtain ⟨x0, x1, x2, x3, x4, x5, x6⟩ := HB.out w4 HB4.out.1))
          by_cases hns0 : ns = []
          · have HNS : Hid (ns = []) := hns0
            clear hns0
            go_upto_region 13 with (first
              | (go_at_call 24; (with_reducible refine (HNm.out _ HB4.out.1).mono ?_); rintro e w5 ⟨v3, rfl, ho3, hz3, hs5⟩; obtain rfl := hz3 HNS.out; have HO3 : Hid (OwnS w5 w1.heap.size ov acc) := hS.out.1.below (bel HB4.out.2 hs5.2); have HB5 : Hid (Below w1.heap.size w1 w5) := hs5.1; clear ho3 hz3 hs5)
              | (at_builtin; refine wpList_append_own_none rfl _ _ 35 rfl w1.heap.size 9 i0 1 Try.underlying35 hi0 ov acc.length (strs acc) rfl HO3.out rfl ?_))
            clear z0 z1 z2 z3 z4 z5 z6 x0 x1 x2 x3 x4 x5 x6
            obtain ⟨z0, z1, z2, z3, z4, z5, z6⟩ := HCL.out w5 HB5.out
            have HGx : Hid ((w5.alloc (.cells #[.int .i64 (j : Int)] 3)).cell? ⟨w5.heap.size, 0, none⟩ = some (.int .i64 (j : Int))) := cell_heap (box_heap w5 (.cells #[.int .i64 (j : Int)] 3)) 0
            have HGb : Hid (Below w1.heap.size w1 (w5.alloc (.cells #[.int .i64 (j : Int)] 3))) := bel HB5.out (bel_alloc _ _)
            go_upto_region 14 with (go_at_call 26; (with_reducible refine (HFd.out _ _ HGb.out HGx.out).mono ?_); rintro e w7 ⟨q5, m5, d5, rfl, hk7, hs7⟩)
            have hb7 := bel_alloc w7 (.cells #[.int .i64 t.args[j].kind, .string t.args[j].name, .int .u32 t.args[j].num, .int .i64 t.args[j].int_, .string t.args[j].key, .slice q5 m5 d5, .int .i64 t.args[j].at_] 26)
            have hx7 := box_heap w7 (.cells #[.int .i64 t.args[j].kind, .string t.args[j].name, .int .u32 t.args[j].num, .int .i64 t.args[j].int_, .string t.args[j].key, .slice q5 m5 d5, .int .i64 t.args[j].at_] 26)
            have HV7 : Hid (Below w1.heap.size w1 (w7.alloc (.cells #[.int .i64 t.args[j].kind, .string t.args[j].name, .int .u32 t.args[j].num, .int .i64 t.args[j].int_, .string t.args[j].key, .slice q5 m5 d5, .int .i64 t.args[j].at_] 26)) ∧ Below w5.heap.size w5 (w7.alloc (.cells #[.int .i64 t.args[j].kind, .string t.args[j].name, .int .u32 t.args[j].num, .int .i64 t.args[j].int_, .string t.args[j].key, .slice q5 m5 d5, .int .i64 t.args[j].at_] 26))) := ⟨bel hs7.1 hb7, bel (bel_alloc _ _) (bel hs7.2 hb7)⟩
            have HK7 : Hid (Kids (w7.alloc (.cells #[.int .i64 t.args[j].kind, .string t.args[j].name, .int .u32 t.args[j].num, .int .i64 t.args[j].int_, .string t.args[j].key, .slice q5 m5 d5, .int .i64 t.args[j].at_] 26)) anyH (.slice q5 m5 d5) t.args[j].args) := hk7.below hb7
            obtain ⟨V, hV⟩ : ∃ V, w7.alloc (.cells #[.int .i64 t.args[j].kind, .string t.args[j].name, .int .u32 t.args[j].num, .int .i64 t.args[j].int_, .string t.args[j].key, .slice q5 m5 d5, .int .i64 t.args[j].at_] 26) = V := ⟨_, rfl⟩
            obtain ⟨G, hG⟩ : ∃ G, w7.heap.size = G := ⟨_, rfl⟩
            rw [hV, hG] at hx7
            rw [hV] at HV7 HK7
            rw [hV, hG]
            have HA7 : Hid (∀ v, Below V.heap.size V v → v.cell? ⟨G, 0, none⟩ = some (.int .i64 t.args[j].kind) ∧ v.cell? ⟨G, 1, none⟩ = some (.string t.args[j].name) ∧ v.cell? ⟨G, 2, none⟩ = some (.int .u32 t.args[j].num) ∧ v.cell? ⟨G, 3, none⟩ = some (.int .i64 t.args[j].int_) ∧ v.cell? ⟨G, 4, none⟩ = some (.string t.args[j].key) ∧ v.cell? ⟨G, 5, none⟩ = some (.slice q5 m5 d5) ∧ v.cell? ⟨G, 6, none⟩ = some (.int .i64 t.args[j].at_)) := fun v hv => by
              have hx : v.heap[G]? = some (.cells #[.int .i64 t.args[j].kind, .string t.args[j].name, .int .u32 t.args[j].num, .int .i64 t.args[j].int_, .string t.args[j].key, .slice q5 m5 d5, .int .i64 t.args[j].at_] 26) := by rw [hv.block _ (hlt hx7)]; exact hx7
              exact ⟨cell_heap hx 0, cell_heap hx 1, cell_heap hx 2, cell_heap hx 3, cell_heap hx 4, cell_heap hx 5, cell_heap hx 6⟩
            clear hV hG hk7 hs7 hb7 hx7 HGx HGb z0 z1 z2 z3 z4 z5 z6
            obtain ⟨-, -, -, -, -, z5, -⟩ := HCL.out V HV7.out.1
            obtain ⟨x0, x1, x2, x3, x4, x5, x6⟩ := HB.out V HV7.out.1
            obtain ⟨a0, a1, a2, a3, a4, a5, a6⟩ := HA7.out V (bel0 V)
            refine wp_region_held_drew (S := (fun w' => w'.cell? ⟨w.heap.size, 5, none⟩ = some (.slice (some ⟨b1, o1, none⟩) n c) ∧ w'.cell? ⟨b1, o1 + j * 7, none⟩ = some (.int .i64 t.args[j].kind) ∧ w'.cell? ⟨b1, o1 + j * 7 + 1, none⟩ = some (.string t.args[j].name) ∧ w'.cell? ⟨b1, o1 + j * 7 + 2, none⟩ = some (.int .u32 t.args[j].num) ∧ w'.cell? ⟨b1, o1 + j * 7 + 3, none⟩ = some (.int .i64 t.args[j].int_) ∧ w'.cell? ⟨b1, o1 + j * 7 + 4, none⟩ = some (.string t.args[j].key) ∧ w'.cell? ⟨b1, o1 + j * 7 + 5, none⟩ = some (.slice q1 t.args[j].args.length d1) ∧ w'.cell? ⟨b1, o1 + j * 7 + 6, none⟩ = some (.int .i64 t.args[j].at_) ∧ w'.cell? ⟨G, 0, none⟩ = some (.int .i64 t.args[j].kind) ∧ w'.cell? ⟨G, 1, none⟩ = some (.string t.args[j].name) ∧ w'.cell? ⟨G, 2, none⟩ = some (.int .u32 t.args[j].num) ∧ w'.cell? ⟨G, 3, none⟩ = some (.int .i64 t.args[j].int_) ∧ w'.cell? ⟨G, 4, none⟩ = some (.string t.args[j].key) ∧ w'.cell? ⟨G, 5, none⟩ = some (.slice q5 m5 d5) ∧ w'.cell? ⟨G, 6, none⟩ = some (.int .i64 t.args[j].at_))) (by kernel_rfl) ?_ (fun hHeld => ?_)
            · ((try dsimp only); go_keep)
            refine wpAnyH_take (i := 0) (v := ?_) (by simp only [List.getElem?_toArray, List.getElem?_cons_succ, List.getElem?_cons_zero]; rfl) (by kernel_rfl) (by kernel_rfl) (by kernel_rfl) (by exact fun _ _ _ h => h) (Or.inl ⟨by rfl, ?_⟩) (by assumption) ?_
            rotate_left 1
            · (intro wS hSw; (try dsimp only at hSw); go_simp; try (with_reducible rfl))
            try simp only [Act.put, List.setIfInBounds_toArray, List.set_cons_zero, List.set_cons_succ]
            refine wpAnyH_take (i := 1) (v := ?_) (by simp only [List.getElem?_toArray, List.getElem?_cons_succ, List.getElem?_cons_zero]; rfl) (by kernel_rfl) (by kernel_rfl) (by kernel_rfl) (by exact fun _ _ _ h => h) (Or.inl ⟨by rfl, ?_⟩) (by assumption) ?_
            rotate_left 1
            · (intro wS hSw; (try dsimp only at hSw); go_simp; try (with_reducible rfl))
            try simp only [Act.put, List.setIfInBounds_toArray, List.set_cons_zero, List.set_cons_succ]
            refine wpAnyH_take (i := 2) (v := ?_) (by simp only [List.getElem?_toArray, List.getElem?_cons_succ, List.getElem?_cons_zero]; rfl) (by kernel_rfl) (by kernel_rfl) (by kernel_rfl) (by exact fun _ _ _ h => h) (Or.inl ⟨by rfl, ?_⟩) (by assumption) ?_
            rotate_left 1
            · (intro wS hSw; (try dsimp only at hSw); go_simp; try (with_reducible rfl))
            try simp only [Act.put, List.setIfInBounds_toArray, List.set_cons_zero, List.set_cons_succ]
            refine wpAnyH_take (i := 3) (v := ?_) (by simp only [List.getElem?_toArray, List.getElem?_cons_succ, List.getElem?_cons_zero]; rfl) (by kernel_rfl) (by kernel_rfl) (by kernel_rfl) (by exact fun _ _ _ h => h) (Or.inl ⟨by rfl, ?_⟩) (by assumption) ?_
            rotate_left 1
            · (intro wS hSw; (try dsimp only at hSw); go_simp; try (with_reducible rfl))
            try simp only [Act.put, List.setIfInBounds_toArray, List.set_cons_zero, List.set_cons_succ]
            refine wpAnyH_take (i := 4) (v := ?_) (by simp only [List.getElem?_toArray, List.getElem?_cons_succ, List.getElem?_cons_zero]; rfl) (by kernel_rfl) (by kernel_rfl) (by kernel_rfl) (by exact fun _ _ _ h => h) (Or.inl ⟨by rfl, ?_⟩) (by assumption) ?_
            rotate_left 1
            · (intro wS hSw; (try dsimp only at hSw); go_simp; try (with_reducible rfl))
            try simp only [Act.put, List.setIfInBounds_toArray, List.set_cons_zero, List.set_cons_succ]
            refine wpAnyH_take (i := 5) (v := ?_) (by simp only [List.getElem?_toArray, List.getElem?_cons_succ, List.getElem?_cons_zero]; rfl) (by kernel_rfl) (by kernel_rfl) (by kernel_rfl) (by exact fun _ _ _ h => h) (Or.inl ⟨by rfl, ?_⟩) (by assumption) ?_
            rotate_left 1
            · (intro wS hSw; (try dsimp only at hSw); go_simp; try (with_reducible rfl))
            try simp only [Act.put, List.setIfInBounds_toArray, List.set_cons_zero, List.set_cons_succ]
            refine wpAnyH_take (i := 6) (v := ?_) (by simp only [List.getElem?_toArray, List.getElem?_cons_succ, List.getElem?_cons_zero]; rfl) (by kernel_rfl) (by kernel_rfl) (by kernel_rfl) (by exact fun _ _ _ h => h) (Or.inl ⟨by rfl, ?_⟩) (by assumption) ?_
            rotate_left 1
            · (intro wS hSw; (try dsimp only at hSw); go_simp; try (with_reducible rfl))
            try simp only [Act.put, List.setIfInBounds_toArray, List.set_cons_zero, List.set_cons_succ]
            refine wpAnyH_take (i := 7) (v := ?_) (by simp only [List.getElem?_toArray, List.getElem?_cons_succ, List.getElem?_cons_zero]; rfl) (by kernel_rfl) (by kernel_rfl) (by kernel_rfl) (by exact fun _ _ _ h => h) (Or.inl ⟨by rfl, ?_⟩) (by assumption) ?_
            rotate_left 1
            · (intro wS hSw; (try dsimp only at hSw); go_simp; try (with_reducible rfl))
            try simp only [Act.put, List.setIfInBounds_toArray, List.set_cons_zero, List.set_cons_succ]
            refine wpAnyH_take (i := 8) (v := ?_) (by simp only [List.getElem?_toArray, List.getElem?_cons_succ, List.getElem?_cons_zero]; rfl) (by kernel_rfl) (by kernel_rfl) (by kernel_rfl) (by exact fun _ _ _ h => h) (Or.inl ⟨by rfl, ?_⟩) (by assumption) ?_
            rotate_left 1
            · (intro wS hSw; (try dsimp only at hSw); go_simp; try (with_reducible rfl))
            try simp only [Act.put, List.setIfInBounds_toArray, List.set_cons_zero, List.set_cons_succ]
            clear hHeld
            refine wpAnyH_ready (rs := [9]) (by kernel_rfl) (by simp) ?_
            refine AllReadyH.cons (i := 9) (by simp only [List.getElem?_toArray, List.getElem?_cons_succ, List.getElem?_cons_zero]; rfl) (fun K hK => ?_) AllReadyH.nil
            go_simp
            (go_at_call 14; (with_reducible refine (HSm.out _ _ _ _ (bel HV7.out.1 (bel_d _)) (HK7.out.below (bel_d _))).mono ?_); rintro e w8 ⟨rfl, hs8⟩; have HB8 : Hid (Below w1.heap.size w1 w8 ∧ Below V.heap.size V w8) := ⟨hs8.1, bel (bel_d _) hs8.2⟩; clear hs8 z5 x0 x1 x2 x3 x4 x5 x6 a0 a1 a2 a3 a4 a5 a6; obtain ⟨-, -, -, -, -, z5, -⟩ := HCL.out w8 HB8.out.1; obtain ⟨x0, x1, x2, x3, x4, x5, x6⟩ := HB.out w8 HB8.out.1; obtain ⟨a0, a1, a2, a3, a4, a5, a6⟩ := HA7.out w8 HB8.out.2)
            try (go_wp2_with fail)
            refine hK.out _ _ ?_ (fun hHeld => ?_)
            · ((try dsimp only); go_keep)
            clear hK K
            try simp only [Act.put, List.setIfInBounds_toArray, List.set_cons_zero, List.set_cons_succ]
            refine wpAnyH_take (i := 10) (v := ?_) (by simp only [List.getElem?_toArray, List.getElem?_cons_succ, List.getElem?_cons_zero]; rfl) (by kernel_rfl) (by kernel_rfl) (by kernel_rfl) (by exact fun _ _ _ h => h) (Or.inl ⟨by rfl, ?_⟩) (by assumption) ?_
            rotate_left 1
            · (intro wS hSw; (try dsimp only at hSw); go_simp; try (with_reducible rfl))
            try simp only [Act.put, List.setIfInBounds_toArray, List.set_cons_zero, List.set_cons_succ]
            refine wpAnyH_take (i := 11) (v := ?_) (by simp only [List.getElem?_toArray, List.getElem?_cons_succ, List.getElem?_cons_zero]; rfl) (by kernel_rfl) (by kernel_rfl) (by kernel_rfl) (by exact fun _ _ _ h => h) (Or.inl ⟨by rfl, ?_⟩) (by assumption) ?_
            rotate_left 1
            · (intro wS hSw; (try dsimp only at hSw); go_simp; try (with_reducible rfl))
            try simp only [Act.put, List.setIfInBounds_toArray, List.set_cons_zero, List.set_cons_succ]
            refine wpAnyH_done (by kernel_rfl) ?_ _
            go_wp2
            go_roundw
            case rel => exact ⟨HB8.out.1, j + 1, _, rfl, by omega, by go_num, by rw [HT1.out]; congr 1; push_cast; omega, by rw [HT2.out]; congr 1; push_cast; omega, by rw [HNX.out]; exact ⟨((by rw [HNS.out, List.append_nil]; exact HO3.out : OwnS w5 w1.heap.size ov (acc ++ ns))).below (bel HV7.out.2 HB8.out.2), fun e => hS.out.2 (List.append_eq_nil_iff.1 e).1⟩⟩
            case measure => simp [intOf]; omega
          · have hnp : 0 < ns.length := by cases ns with | nil => exact absurd rfl hns0 | cons a b => simp
            have HNS : Hid (¬ ns = []) := hns0
            clear hns0
            go_upto_region 13 with (first
              | (go_at_call 24; (with_reducible refine (HNm.out _ HB4.out.1).mono ?_); rintro e w5 ⟨v3, rfl, ho3, hz3, hs5⟩; obtain ⟨g3, c3, rfl, hg3, hg4⟩ := World.ownsRow.form ho3 hnp; have HO3 : Hid (OwnS w5 w1.heap.size ov acc) := hS.out.1.below (bel HB4.out.2 hs5.2); have HN3 : Hid (∀ j u, (strs ns)[j]? = some u → w5.cell? ((⟨g3, 0, none⟩ : Addr).add j) = some u) := ho3.cells (g := g3) rfl; have HB5 : Hid (Below w1.heap.size w1 w5 ∧ Below wr.heap.size wr w5) := ⟨hs5.1, bel HB4.out.2 hs5.2⟩; have hs3 := HB5.out.1.size; clear ho3 hz3 hs5)
              | (at_builtin; refine wpList_append_own_at _ rfl _ _ 35 rfl w1.heap.size 9 i0 _ 1 16 Try.underlying35 hi0 hz0 hz1 hz2 rfl (by decide) ov acc.length (strs acc) rfl HO3.out ⟨g3, 0, none⟩ ns.length c3 (strs ns) rfl (by simp [strs]) HN3.out (by intro u hu; obtain ⟨x, -, rfl⟩ := List.mem_map.1 hu; rfl) (by unfold maxLen; omega) (by omega) (by omega) ?_; intro v4 w6 hown4 hgrow hnil hat; have HO4 : Hid (OwnS w6 w1.heap.size v4 (acc ++ ns)) := (by unfold OwnS strs; rw [List.length_append, List.map_append]; exact hown4); have HG4 : Hid (w5.grownBy w6 ov.ownBlock) := hgrow; clear hown4 hgrow hnil hat))
            have HB6 : Hid (Below w1.heap.size w1 w6) := Below.grown HB5.out.1 HG4.out HB5.out.1.size (fun k hk => (HOB.out k hk).1)
            clear z0 z1 z2 z3 z4 z5 z6 x0 x1 x2 x3 x4 x5 x6
            obtain ⟨z0, z1, z2, z3, z4, z5, z6⟩ := HCL.out w6 HB6.out
            have HGx : Hid ((w6.alloc (.cells #[.int .i64 (j : Int)] 3)).cell? ⟨w6.heap.size, 0, none⟩ = some (.int .i64 (j : Int))) := cell_heap (box_heap w6 (.cells #[.int .i64 (j : Int)] 3)) 0
            have HGb : Hid (Below w1.heap.size w1 (w6.alloc (.cells #[.int .i64 (j : Int)] 3))) := bel HB6.out (bel_alloc _ _)
            go_upto_region 14 with (go_at_call 26; (with_reducible refine (HFd.out _ _ HGb.out HGx.out).mono ?_); rintro e w7 ⟨q5, m5, d5, rfl, hk7, hs7⟩)
            have hb7 := bel_alloc w7 (.cells #[.int .i64 t.args[j].kind, .string t.args[j].name, .int .u32 t.args[j].num, .int .i64 t.args[j].int_, .string t.args[j].key, .slice q5 m5 d5, .int .i64 t.args[j].at_] 26)
            have hx7 := box_heap w7 (.cells #[.int .i64 t.args[j].kind, .string t.args[j].name, .int .u32 t.args[j].num, .int .i64 t.args[j].int_, .string t.args[j].key, .slice q5 m5 d5, .int .i64 t.args[j].at_] 26)
            have HV7 : Hid (Below w1.heap.size w1 (w7.alloc (.cells #[.int .i64 t.args[j].kind, .string t.args[j].name, .int .u32 t.args[j].num, .int .i64 t.args[j].int_, .string t.args[j].key, .slice q5 m5 d5, .int .i64 t.args[j].at_] 26)) ∧ Below w6.heap.size w6 (w7.alloc (.cells #[.int .i64 t.args[j].kind, .string t.args[j].name, .int .u32 t.args[j].num, .int .i64 t.args[j].int_, .string t.args[j].key, .slice q5 m5 d5, .int .i64 t.args[j].at_] 26))) := ⟨bel hs7.1 hb7, bel (bel_alloc _ _) (bel hs7.2 hb7)⟩
            have HK7 : Hid (Kids (w7.alloc (.cells #[.int .i64 t.args[j].kind, .string t.args[j].name, .int .u32 t.args[j].num, .int .i64 t.args[j].int_, .string t.args[j].key, .slice q5 m5 d5, .int .i64 t.args[j].at_] 26)) anyH (.slice q5 m5 d5) t.args[j].args) := hk7.below hb7
            obtain ⟨V, hV⟩ : ∃ V, w7.alloc (.cells #[.int .i64 t.args[j].kind, .string t.args[j].name, .int .u32 t.args[j].num, .int .i64 t.args[j].int_, .string t.args[j].key, .slice q5 m5 d5, .int .i64 t.args[j].at_] 26) = V := ⟨_, rfl⟩
            obtain ⟨G, hG⟩ : ∃ G, w7.heap.size = G := ⟨_, rfl⟩
            rw [hV, hG] at hx7
            rw [hV] at HV7 HK7
            rw [hV, hG]
            have HA7 : Hid (∀ v, Below V.heap.size V v → v.cell? ⟨G, 0, none⟩ = some (.int .i64 t.args[j].kind) ∧ v.cell? ⟨G, 1, none⟩ = some (.string t.args[j].name) ∧ v.cell? ⟨G, 2, none⟩ = some (.int .u32 t.args[j].num) ∧ v.cell? ⟨G, 3, none⟩ = some (.int .i64 t.args[j].int_) ∧ v.cell? ⟨G, 4, none⟩ = some (.string t.args[j].key) ∧ v.cell? ⟨G, 5, none⟩ = some (.slice q5 m5 d5) ∧ v.cell? ⟨G, 6, none⟩ = some (.int .i64 t.args[j].at_)) := fun v hv => by
              have hx : v.heap[G]? = some (.cells #[.int .i64 t.args[j].kind, .string t.args[j].name, .int .u32 t.args[j].num, .int .i64 t.args[j].int_, .string t.args[j].key, .slice q5 m5 d5, .int .i64 t.args[j].at_] 26) := by rw [hv.block _ (hlt hx7)]; exact hx7
              exact ⟨cell_heap hx 0, cell_heap hx 1, cell_heap hx 2, cell_heap hx 3, cell_heap hx 4, cell_heap hx 5, cell_heap hx 6⟩
            clear hV hG hk7 hs7 hb7 hx7 HGx HGb z0 z1 z2 z3 z4 z5 z6
            obtain ⟨-, -, -, -, -, z5, -⟩ := HCL.out V HV7.out.1
            obtain ⟨x0, x1, x2, x3, x4, x5, x6⟩ := HB.out V HV7.out.1
            obtain ⟨a0, a1, a2, a3, a4, a5, a6⟩ := HA7.out V (bel0 V)
            refine wp_region_held_drew (S := (fun w' => w'.cell? ⟨w.heap.size, 5, none⟩ = some (.slice (some ⟨b1, o1, none⟩) n c) ∧ w'.cell? ⟨b1, o1 + j * 7, none⟩ = some (.int .i64 t.args[j].kind) ∧ w'.cell? ⟨b1, o1 + j * 7 + 1, none⟩ = some (.string t.args[j].name) ∧ w'.cell? ⟨b1, o1 + j * 7 + 2, none⟩ = some (.int .u32 t.args[j].num) ∧ w'.cell? ⟨b1, o1 + j * 7 + 3, none⟩ = some (.int .i64 t.args[j].int_) ∧ w'.cell? ⟨b1, o1 + j * 7 + 4, none⟩ = some (.string t.args[j].key) ∧ w'.cell? ⟨b1, o1 + j * 7 + 5, none⟩ = some (.slice q1 t.args[j].args.length d1) ∧ w'.cell? ⟨b1, o1 + j * 7 + 6, none⟩ = some (.int .i64 t.args[j].at_) ∧ w'.cell? ⟨G, 0, none⟩ = some (.int .i64 t.args[j].kind) ∧ w'.cell? ⟨G, 1, none⟩ = some (.string t.args[j].name) ∧ w'.cell? ⟨G, 2, none⟩ = some (.int .u32 t.args[j].num) ∧ w'.cell? ⟨G, 3, none⟩ = some (.int .i64 t.args[j].int_) ∧ w'.cell? ⟨G, 4, none⟩ = some (.string t.args[j].key) ∧ w'.cell? ⟨G, 5, none⟩ = some (.slice q5 m5 d5) ∧ w'.cell? ⟨G, 6, none⟩ = some (.int .i64 t.args[j].at_))) (by kernel_rfl) ?_ (fun hHeld => ?_)
            · ((try dsimp only); go_keep)
            refine wpAnyH_take (i := 0) (v := ?_) (by simp only [List.getElem?_toArray, List.getElem?_cons_succ, List.getElem?_cons_zero]; rfl) (by kernel_rfl) (by kernel_rfl) (by kernel_rfl) (by exact fun _ _ _ h => h) (Or.inl ⟨by rfl, ?_⟩) (by assumption) ?_
            rotate_left 1
            · (intro wS hSw; (try dsimp only at hSw); go_simp; try (with_reducible rfl))
            try simp only [Act.put, List.setIfInBounds_toArray, List.set_cons_zero, List.set_cons_succ]
            refine wpAnyH_take (i := 1) (v := ?_) (by simp only [List.getElem?_toArray, List.getElem?_cons_succ, List.getElem?_cons_zero]; rfl) (by kernel_rfl) (by kernel_rfl) (by kernel_rfl) (by exact fun _ _ _ h => h) (Or.inl ⟨by rfl, ?_⟩) (by assumption) ?_
            rotate_left 1
            · (intro wS hSw; (try dsimp only at hSw); go_simp; try (with_reducible rfl))
            try simp only [Act.put, List.setIfInBounds_toArray, List.set_cons_zero, List.set_cons_succ]
            refine wpAnyH_take (i := 2) (v := ?_) (by simp only [List.getElem?_toArray, List.getElem?_cons_succ, List.getElem?_cons_zero]; rfl) (by kernel_rfl) (by kernel_rfl) (by kernel_rfl) (by exact fun _ _ _ h => h) (Or.inl ⟨by rfl, ?_⟩) (by assumption) ?_
            rotate_left 1
            · (intro wS hSw; (try dsimp only at hSw); go_simp; try (with_reducible rfl))
            try simp only [Act.put, List.setIfInBounds_toArray, List.set_cons_zero, List.set_cons_succ]
            refine wpAnyH_take (i := 3) (v := ?_) (by simp only [List.getElem?_toArray, List.getElem?_cons_succ, List.getElem?_cons_zero]; rfl) (by kernel_rfl) (by kernel_rfl) (by kernel_rfl) (by exact fun _ _ _ h => h) (Or.inl ⟨by rfl, ?_⟩) (by assumption) ?_
            rotate_left 1
            · (intro wS hSw; (try dsimp only at hSw); go_simp; try (with_reducible rfl))
            try simp only [Act.put, List.setIfInBounds_toArray, List.set_cons_zero, List.set_cons_succ]
            refine wpAnyH_take (i := 4) (v := ?_) (by simp only [List.getElem?_toArray, List.getElem?_cons_succ, List.getElem?_cons_zero]; rfl) (by kernel_rfl) (by kernel_rfl) (by kernel_rfl) (by exact fun _ _ _ h => h) (Or.inl ⟨by rfl, ?_⟩) (by assumption) ?_
            rotate_left 1
            · (intro wS hSw; (try dsimp only at hSw); go_simp; try (with_reducible rfl))
            try simp only [Act.put, List.setIfInBounds_toArray, List.set_cons_zero, List.set_cons_succ]
            refine wpAnyH_take (i := 5) (v := ?_) (by simp only [List.getElem?_toArray, List.getElem?_cons_succ, List.getElem?_cons_zero]; rfl) (by kernel_rfl) (by kernel_rfl) (by kernel_rfl) (by exact fun _ _ _ h => h) (Or.inl ⟨by rfl, ?_⟩) (by assumption) ?_
            rotate_left 1
            · (intro wS hSw; (try dsimp only at hSw); go_simp; try (with_reducible rfl))
            try simp only [Act.put, List.setIfInBounds_toArray, List.set_cons_zero, List.set_cons_succ]
            refine wpAnyH_take (i := 6) (v := ?_) (by simp only [List.getElem?_toArray, List.getElem?_cons_succ, List.getElem?_cons_zero]; rfl) (by kernel_rfl) (by kernel_rfl) (by kernel_rfl) (by exact fun _ _ _ h => h) (Or.inl ⟨by rfl, ?_⟩) (by assumption) ?_
            rotate_left 1
            · (intro wS hSw; (try dsimp only at hSw); go_simp; try (with_reducible rfl))
            try simp only [Act.put, List.setIfInBounds_toArray, List.set_cons_zero, List.set_cons_succ]
            refine wpAnyH_take (i := 7) (v := ?_) (by simp only [List.getElem?_toArray, List.getElem?_cons_succ, List.getElem?_cons_zero]; rfl) (by kernel_rfl) (by kernel_rfl) (by kernel_rfl) (by exact fun _ _ _ h => h) (Or.inl ⟨by rfl, ?_⟩) (by assumption) ?_
            rotate_left 1
            · (intro wS hSw; (try dsimp only at hSw); go_simp; try (with_reducible rfl))
            try simp only [Act.put, List.setIfInBounds_toArray, List.set_cons_zero, List.set_cons_succ]
            refine wpAnyH_take (i := 8) (v := ?_) (by simp only [List.getElem?_toArray, List.getElem?_cons_succ, List.getElem?_cons_zero]; rfl) (by kernel_rfl) (by kernel_rfl) (by kernel_rfl) (by exact fun _ _ _ h => h) (Or.inl ⟨by rfl, ?_⟩) (by assumption) ?_
            rotate_left 1
            · (intro wS hSw; (try dsimp only at hSw); go_simp; try (with_reducible rfl))
            try simp only [Act.put, List.setIfInBounds_toArray, List.set_cons_zero, List.set_cons_succ]
            clear hHeld
            refine wpAnyH_ready (rs := [9]) (by kernel_rfl) (by simp) ?_
            refine AllReadyH.cons (i := 9) (by simp only [List.getElem?_toArray, List.getElem?_cons_succ, List.getElem?_cons_zero]; rfl) (fun K hK => ?_) AllReadyH.nil
            go_simp
            (go_at_call 14; (with_reducible refine (HSm.out _ _ _ _ (bel HV7.out.1 (bel_d _)) (HK7.out.below (bel_d _))).mono ?_); rintro e w8 ⟨rfl, hs8⟩; have HB8 : Hid (Below w1.heap.size w1 w8 ∧ Below V.heap.size V w8) := ⟨hs8.1, bel (bel_d _) hs8.2⟩; clear hs8 z5 x0 x1 x2 x3 x4 x5 x6 a0 a1 a2 a3 a4 a5 a6; obtain ⟨-, -, -, -, -, z5, -⟩ := HCL.out w8 HB8.out.1; obtain ⟨x0, x1, x2, x3, x4, x5, x6⟩ := HB.out w8 HB8.out.1; obtain ⟨a0, a1, a2, a3, a4, a5, a6⟩ := HA7.out w8 HB8.out.2)
            try (go_wp2_with fail)
            refine hK.out _ _ ?_ (fun hHeld => ?_)
            · ((try dsimp only); go_keep)
            clear hK K
            try simp only [Act.put, List.setIfInBounds_toArray, List.set_cons_zero, List.set_cons_succ]
            refine wpAnyH_take (i := 10) (v := ?_) (by simp only [List.getElem?_toArray, List.getElem?_cons_succ, List.getElem?_cons_zero]; rfl) (by kernel_rfl) (by kernel_rfl) (by kernel_rfl) (by exact fun _ _ _ h => h) (Or.inl ⟨by rfl, ?_⟩) (by assumption) ?_
            rotate_left 1
            · (intro wS hSw; (try dsimp only at hSw); go_simp; try (with_reducible rfl))
            try simp only [Act.put, List.setIfInBounds_toArray, List.set_cons_zero, List.set_cons_succ]
            refine wpAnyH_take (i := 11) (v := ?_) (by simp only [List.getElem?_toArray, List.getElem?_cons_succ, List.getElem?_cons_zero]; rfl) (by kernel_rfl) (by kernel_rfl) (by kernel_rfl) (by exact fun _ _ _ h => h) (Or.inl ⟨by rfl, ?_⟩) (by assumption) ?_
            rotate_left 1
            · (intro wS hSw; (try dsimp only at hSw); go_simp; try (with_reducible rfl))
            try simp only [Act.put, List.setIfInBounds_toArray, List.set_cons_zero, List.set_cons_succ]
            refine wpAnyH_done (by kernel_rfl) ?_ _
            go_wp2
            go_roundw
            case rel => exact ⟨HB8.out.1, j + 1, _, rfl, by omega, by go_num, by rw [HT1.out]; congr 1; push_cast; omega, by rw [HT2.out]; congr 1; push_cast; omega, by rw [HNX.out]; exact ⟨(HO4.out).below (bel HV7.out.2 HB8.out.2), fun e => absurd (List.append_eq_nil_iff.1 e).2 HNS.out⟩⟩
            case measure => simp [intOf]; omega
      · have : j = n := by omega
        subst this
        have e : t.args.take j = t.args := List.take_of_length_le (by rw [HN.out]; exact Nat.le_refl _)
        rw [e, ← HNM.out] at hS
        rw [e]
        have HOW := hS.out.1
        obtain ⟨pl, cl, rfl, hrow⟩ := rowS_cell hS.out.1
        have HTX : Hid (Txt wr (.slice pl (names t).length cl) (names t)) := ⟨pl, cl, rfl, hrow⟩
        have HBR : Hid (Below w1.heap.size w1 wr) := hb
        have hnl := names_le t
        have hce : cnt t = 1 + cntL t.args := rfl
        have hdl : depL t.args ≤ 9000 := by have := depL_cnt t.args; omega
        have hk1 := HK1.out.below hb
        have hk2 : Kids wr anyH (.slice p j c) t.args := by rw [HN.out] at hk1; exact hk1
        have HCnt : Hid (∀ (v : World), Below wr.heap.size wr v → Calls Try.prog 18 #[.agg #[.int .i64 t.kind, .string t.name, .int .u32 t.num, .int .i64 t.int_, .string t.key, .slice p j c, .int .i64 t.at_]] v fun e v' => e = .returned (.int .i64 (1 + (cntL t.args : Int))) ∧ (Below wr.heap.size wr v' ∧ Below v.heap.size v v')) := fun v hv => (count_any t _ v hc hok (hk2.below hv)).mono fun e v' ⟨he, hb⟩ => ⟨by rw [he, hce]; push_cast; try rfl, bel hv hb, hb⟩
        have HDep : Hid (∀ (v : World), Below wr.heap.size wr v → Calls Try.prog 20 #[.agg #[.int .i64 t.kind, .string t.name, .int .u32 t.num, .int .i64 t.int_, .string t.key, .slice p j c, .int .i64 t.at_]] v fun e v' => e = .returned (.int .i64 ((depL t.args : Int) + 1)) ∧ (Below wr.heap.size wr v' ∧ Below v.heap.size v v')) := fun v hv => (depth_any t _ v hc hok (hk2.below hv)).mono fun e v' ⟨he, hb⟩ => ⟨by rw [he]; rfl, bel hv hb, hb⟩
        have HNm : Hid (∀ (v : World), Below wr.heap.size wr v → Calls Try.prog 24 #[.agg #[.int .i64 t.kind, .string t.name, .int .u32 t.num, .int .i64 t.int_, .string t.key, .slice p j c, .int .i64 t.at_]] v fun e v' => ∃ x, e = .returned (x) ∧ Txt v' x (names t) ∧ (Below wr.heap.size wr v' ∧ Below v.heap.size v v')) := fun v hv => (names_any t _ v hc hok (hk2.below hv)).mono fun e v' ⟨x, he, ho, _, hb⟩ => ⟨x, he, rowS_cell ho, bel hv hb, hb⟩
        have HTx : Hid (∀ (v : World) (x : Value), Below wr.heap.size wr v → Txt v x (names t) → Txt v (.slice pl (names t).length cl) (names t) → Calls Try.prog 23 #[x, .slice pl (names t).length cl] v fun e v' => e = .returned (.bool true) ∧ (Below wr.heap.size wr v' ∧ Below v.heap.size v v')) := fun v x hv ha hb => (sameTexts_any x _ (names t) (by omega) v ha hb).mono fun e v' ⟨he, hb'⟩ => ⟨he, bel hv hb', hb'⟩
        have HSu : Hid (∀ (v : World), Below wr.heap.size wr v → Calls Try.prog 10 #[] v fun e v' => e = .returned (.bool true) ∧ (Below wr.heap.size wr v' ∧ Below v.heap.size v v')) := fun v hv => (sure_any v).mono fun e v' ⟨he, hb⟩ => ⟨he, bel hv hb, hb⟩
        have HCE : Hid (∀ v, Below wr.heap.size wr v → v.cell? ⟨w.heap.size, 0, none⟩ = some (.int .i64 t.kind) ∧ v.cell? ⟨w.heap.size, 1, none⟩ = some (.string t.name) ∧ v.cell? ⟨w.heap.size, 2, none⟩ = some (.int .u32 t.num) ∧ v.cell? ⟨w.heap.size, 3, none⟩ = some (.int .i64 t.int_) ∧ v.cell? ⟨w.heap.size, 4, none⟩ = some (.string t.key) ∧ v.cell? ⟨w.heap.size, 5, none⟩ = some (.slice p j c) ∧ v.cell? ⟨w.heap.size, 6, none⟩ = some (.int .i64 t.at_)) := fun v hv => HCL.out v (bel HBR.out hv)
        have hle2 : ((names t).length : Int) ≤ 1 + (cntL t.args : Int) := by omega
        obtain ⟨nn, hnn⟩ : ∃ nn, (names t).length = nn := ⟨_, rfl⟩
        rw [hnn] at HTX HTx hle2 ⊢
        clear hrow hnl hce hk1 hk2 hok hc hS HOW hb e hnn HK1 HN
        obtain ⟨z0, z1, z2, z3, z4, z5, z6⟩ := HCE.out wr (bel0 wr)
        go_wp2_with (first
          | (go_at_call 18; (with_reducible refine (HCnt.out _ (bel0 _)).mono ?_); rintro e w2 ⟨rfl, hs2⟩; clear z0 z1 z2 z3 z4 z5 z6; obtain ⟨z0, z1, z2, z3, z4, z5, z6⟩ := HCE.out w2 hs2.1)
          | (go_at_call 20; (with_reducible refine (HDep.out _ hs2.1).mono ?_); rintro e w3 ⟨rfl, hs3⟩; clear z0 z1 z2 z3 z4 z5 z6; obtain ⟨z0, z1, z2, z3, z4, z5, z6⟩ := HCE.out w3 hs3.1)
          | (go_at_call 24; (with_reducible refine (HNm.out _ hs3.1).mono ?_); rintro e w4 ⟨x4, rfl, ht4, hs4⟩; have HT4 : Hid (Txt w4 x4 (names t)) := ht4; clear ht4)
          | (go_at_call 23; (with_reducible refine (HTx.out _ _ hs4.1 HT4.out (HTX.out.below hs4.1)).mono ?_); rintro e w5 ⟨rfl, hs5⟩)
          | (go_at_call 10; (with_reducible refine (HSu.out _ hs5.1).mono ?_); rintro e w6 ⟨rfl, hs6⟩))
        go_ret
        exact ⟨rfl, bel HBW.out (bel HBR.out hs6.1)⟩

end Go.Proofs.Ytpidjmgifglmiaa
