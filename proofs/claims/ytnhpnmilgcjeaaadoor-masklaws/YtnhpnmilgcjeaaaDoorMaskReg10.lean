import Derived.Test.YtnhpnmilgcjeaaaDoorMaskLawsA
/- Region 10 of MaskLaws, which draws its order. -/
namespace Go.Proofs.YtnhpnmilgcjeaaaDoor
open Go.RowKit
set_option linter.unusedVariables false
set_option linter.unusedSimpArgs false

set_option maxRecDepth 100000 in
set_option maxHeartbeats 8000000 in
theorem reg10 (a : Nd) (pa : Option Addr) (ca : Nat) (b : Nd) (pb : Option Addr) (cb : Nat) (pp : Option Addr) (cc : Nat) (ps : List Par) (w w9 : World) (Q : List Nat) (R : Exit → Act → World → Prop)
    (HKa : Hid (∀ v, Below w.heap.size w v → Kids v anyH (.slice pa a.args.length ca) a.args)) (HKb : Hid (∀ v, Below w.heap.size w v → Kids v anyH (.slice pb b.args.length cb) b.args)) (HBc : Hid (Below w.heap.size w w9)) (HBO : Hid (Boxes w9 w.heap.size #[.int .i64 a.kind, .string a.name, .int .u32 a.num, .int .i64 a.int_, .string a.key, .slice pa a.args.length ca, .int .i64 a.at_] #[.int .i64 b.kind, .string b.name, .int .u32 b.num, .int .i64 b.int_, .string b.key, .slice pb b.args.length cb, .int .i64 b.at_] 29 29))
    (C1 : Hid (CallN bNot [a] 1)) (C7 : Hid (CallN bNot [b] 1)) (C4 : Hid (CallN bOr [callN bNot [a], callN bNot [b]] 2)) (SN4 : Hid (SetN w ps pp cc bOr [callN bNot [a], callN bNot [b]] 2 Q)) (t0 t1 t5 t6 t7 t8 t9 t10 t11 t12 t13 t14 t15 t16 t17 t18 t19 t20 t21 t22 t23 t24 t25 t26 t27 t28 t29 t30 t31 t32 t33 t34 t35 t36 t37 t38 t39 t40 t41 t42 t43 t44 t45 t46 t47 t48 t49 t50 t51 t52 t53 t54 t55 t56 t57 t58 t59 t60 t61 t62 t63 t64 t65 t66 t67 t68 t69 t70 t71 t72 t73 t74 t75 t76 t77 t78 t79 t80 t81 t82 t83 t84 t85 t86 t87 t88 t89 t90 t91 t92 t93 t94 t95 t96 t97 t98 t99 t100 t101 t102 t103 t104 t105 t106 t107 t108 t109 t110 t111 t112 t113 t114 t115 t116 t117 t118 t119 t120 t121 t122 t123 t124 t125 t126 t127 t128 t129 t130 t131 t132 t133 t134 t135 t136 t137 t138 t139 t140 t141 t142 t143 t144 t145 t146 t147 t148 t149 t150 t151 t152 t153 t154 t155 t156 t157 t158 t159 t160 t161 t162 t163 t164 t165 t166 t167 t168 t169 t170 t171 t172 t173 t174 t175 t176 t177 t178 t179 t180 t181 t182 t183 t184 t185 t186 t187 t188 t189 t190 t191 t192 t193 t194 t195 t196 t197 t198 t199 t200 t201 t202 t203 t204 t205 t206 t207 t208 : Value)
    (hPan : ∀ x (A : Act) (W : World) (d : Option Tmp) (v : Value), R (.panic x) (A.put d v) W → R (.panic x) A W) (HQ : ∀ (x22 x23 x24 x105 x106 x107 x108 x109 x110 x111 x112 x113 x114 x115 x116 x117 x118 : Value) (v : World), RdN v x22 Q ∧ Below w9.heap.size w9 v → R .normal { tmps := #[t0, t1, .slice pp ps.length cc, .pointer (some ⟨w.heap.size, 0, none⟩), .pointer (some ⟨w.heap.size + 1, 0, none⟩), t5, t6, t7, t8, t9, t10, t11, t12, t13, t14, t15, t16, t17, t18, t19, t20, t21, x22, x23, x24, t25, t26, t27, t28, t29, t30, t31, t32, t33, t34, t35, t36, t37, t38, t39, t40, t41, t42, t43, t44, t45, t46, t47, t48, t49, t50, t51, t52, t53, t54, t55, t56, t57, t58, t59, t60, t61, t62, t63, t64, t65, t66, t67, t68, t69, t70, t71, t72, t73, t74, t75, t76, t77, t78, t79, t80, t81, t82, t83, t84, t85, t86, t87, t88, t89, t90, t91, t92, t93, t94, t95, t96, t97, t98, t99, t100, t101, t102, t103, t104, x105, x106, x107, x108, x109, x110, x111, x112, x113, x114, x115, x116, x117, x118, t119, t120, t121, t122, t123, t124, t125, t126, t127, t128, t129, t130, t131, t132, t133, t134, t135, t136, t137, t138, t139, t140, t141, t142, t143, t144, t145, t146, t147, t148, t149, t150, t151, t152, t153, t154, t155, t156, t157, t158, t159, t160, t161, t162, t163, t164, t165, t166, t167, t168, t169, t170, t171, t172, t173, t174, t175, t176, t177, t178, t179, t180, t181, t182, t183, t184, t185, t186, t187, t188, t189, t190, t191, t192, t193, t194, t195, t196, t197, t198, t199, t200, t201, t202, t203, t204, t205, t206, t207, t208], defers := [] } v) :
    Code.wp Tryd.prog r10 R { tmps := #[t0, t1, .slice pp ps.length cc, .pointer (some ⟨w.heap.size, 0, none⟩), .pointer (some ⟨w.heap.size + 1, 0, none⟩), t5, t6, t7, t8, t9, t10, t11, t12, t13, t14, t15, t16, t17, t18, t19, t20, t21, t22, t23, t24, t25, t26, t27, t28, t29, t30, t31, t32, t33, t34, t35, t36, t37, t38, t39, t40, t41, t42, t43, t44, t45, t46, t47, t48, t49, t50, t51, t52, t53, t54, t55, t56, t57, t58, t59, t60, t61, t62, t63, t64, t65, t66, t67, t68, t69, t70, t71, t72, t73, t74, t75, t76, t77, t78, t79, t80, t81, t82, t83, t84, t85, t86, t87, t88, t89, t90, t91, t92, t93, t94, t95, t96, t97, t98, t99, t100, t101, t102, t103, t104, t105, t106, t107, t108, t109, t110, t111, t112, t113, t114, t115, t116, t117, t118, t119, t120, t121, t122, t123, t124, t125, t126, t127, t128, t129, t130, t131, t132, t133, t134, t135, t136, t137, t138, t139, t140, t141, t142, t143, t144, t145, t146, t147, t148, t149, t150, t151, t152, t153, t154, t155, t156, t157, t158, t159, t160, t161, t162, t163, t164, t165, t166, t167, t168, t169, t170, t171, t172, t173, t174, t175, t176, t177, t178, t179, t180, t181, t182, t183, t184, t185, t186, t187, t188, t189, t190, t191, t192, t193, t194, t195, t196, t197, t198, t199, t200, t201, t202, t203, t204, t205, t206, t207, t208], defers := [] } w9 := by
  have HQ' : Hid (∀ (x22 x23 x24 x105 x106 x107 x108 x109 x110 x111 x112 x113 x114 x115 x116 x117 x118 : Value) (v : World), RdN v x22 Q ∧ Below w9.heap.size w9 v → R .normal { tmps := #[t0, t1, .slice pp ps.length cc, .pointer (some ⟨w.heap.size, 0, none⟩), .pointer (some ⟨w.heap.size + 1, 0, none⟩), t5, t6, t7, t8, t9, t10, t11, t12, t13, t14, t15, t16, t17, t18, t19, t20, t21, x22, x23, x24, t25, t26, t27, t28, t29, t30, t31, t32, t33, t34, t35, t36, t37, t38, t39, t40, t41, t42, t43, t44, t45, t46, t47, t48, t49, t50, t51, t52, t53, t54, t55, t56, t57, t58, t59, t60, t61, t62, t63, t64, t65, t66, t67, t68, t69, t70, t71, t72, t73, t74, t75, t76, t77, t78, t79, t80, t81, t82, t83, t84, t85, t86, t87, t88, t89, t90, t91, t92, t93, t94, t95, t96, t97, t98, t99, t100, t101, t102, t103, t104, x105, x106, x107, x108, x109, x110, x111, x112, x113, x114, x115, x116, x117, x118, t119, t120, t121, t122, t123, t124, t125, t126, t127, t128, t129, t130, t131, t132, t133, t134, t135, t136, t137, t138, t139, t140, t141, t142, t143, t144, t145, t146, t147, t148, t149, t150, t151, t152, t153, t154, t155, t156, t157, t158, t159, t160, t161, t162, t163, t164, t165, t166, t167, t168, t169, t170, t171, t172, t173, t174, t175, t176, t177, t178, t179, t180, t181, t182, t183, t184, t185, t186, t187, t188, t189, t190, t191, t192, t193, t194, t195, t196, t197, t198, t199, t200, t201, t202, t203, t204, t205, t206, t207, t208], defers := [] } v) := HQ
  clear HQ
  unfold CallN at C1 C7 C4
  unfold SetN at SN4
  unfold bNot at C1 C7
  unfold bNot bOr at C4 SN4
  change Code.wp Tryd.prog (Code.region 10 _ _) _ _ _
  refine wp_region_held_drew (S := (fun w' => Boxes w' w.heap.size #[.int .i64 a.kind, .string a.name, .int .u32 a.num, .int .i64 a.int_, .string a.key, .slice pa a.args.length ca, .int .i64 a.at_] #[.int .i64 b.kind, .string b.name, .int .u32 b.num, .int .i64 b.int_, .string b.key, .slice pb b.args.length cb, .int .i64 b.at_] 29 29)) (by kernel_rfl) ?_ (fun hHeld => ?_)
  · exact HBO.out
  refine wpAnyH_take (i := 0) (v := ?_) (by simp only [List.getElem?_toArray, List.getElem?_cons_succ, List.getElem?_cons_zero]; rfl) (by kernel_rfl) (by kernel_rfl) (by kernel_rfl) (by exact fun _ _ _ h => hPan _ _ _ _ _ h) (Or.inl ⟨by rfl, ?_⟩) (by assumption) ?_
  rotate_left 1
  · (intro wS hSw; obtain ⟨⟨g0, g1, g2, g3, g4, g5, g6⟩, k0, k1, k2, k3, k4, k5, k6⟩ := boxes14 hSw; clear hSw; go_simp; try (with_reducible rfl))
  try simp only [Act.put, List.setIfInBounds_toArray, List.set_cons_zero, List.set_cons_succ]
  refine wpAnyH_take (i := 3) (v := ?_) (by simp only [List.getElem?_toArray, List.getElem?_cons_succ, List.getElem?_cons_zero]; rfl) (by kernel_rfl) (by kernel_rfl) (by kernel_rfl) (by exact fun _ _ _ h => hPan _ _ _ _ _ h) (Or.inl ⟨by rfl, ?_⟩) (by assumption) ?_
  rotate_left 1
  · (intro wS hSw; obtain ⟨⟨g0, g1, g2, g3, g4, g5, g6⟩, k0, k1, k2, k3, k4, k5, k6⟩ := boxes14 hSw; clear hSw; go_simp; try (with_reducible rfl))
  try simp only [Act.put, List.setIfInBounds_toArray, List.set_cons_zero, List.set_cons_succ]
  refine wpAnyH_take (i := 8) (v := ?_) (by simp only [List.getElem?_toArray, List.getElem?_cons_succ, List.getElem?_cons_zero]; rfl) (by kernel_rfl) (by kernel_rfl) (by kernel_rfl) (by exact fun _ _ _ h => hPan _ _ _ _ _ h) (Or.inl ⟨by rfl, ?_⟩) (by assumption) ?_
  rotate_left 1
  · (intro wS hSw; obtain ⟨⟨g0, g1, g2, g3, g4, g5, g6⟩, k0, k1, k2, k3, k4, k5, k6⟩ := boxes14 hSw; clear hSw; go_simp; try (with_reducible rfl))
  try simp only [Act.put, List.setIfInBounds_toArray, List.set_cons_zero, List.set_cons_succ]
  clear hHeld
  refine wpAnyH_ready (rs := [1, 4]) (by kernel_rfl) (by simp) ?_
  refine AllReadyH.cons (i := 1) (by simp only [List.getElem?_toArray, List.getElem?_cons_succ, List.getElem?_cons_zero]; rfl) (fun K hK => ?_) ?_
  · go_simp
    obtain ⟨V1, hV⟩ : ∃ V, (w9.alloc (.cells #[.int .i64 a.kind, .string a.name, .int .u32 a.num, .int .i64 a.int_, .string a.key, .slice pa a.args.length ca, .int .i64 a.at_] 29)).drew = V := ⟨_, rfl⟩
    have kk1 : Hid (Kids V1 anyH (.slice (some ⟨w9.heap.size, 0, none⟩) 1 1) [a]) := by rw [← hV]; exact (kids_one (HKa.out _ (bel HBc.out (bel0 _)))).below (bel_d _)
    have hVb : Below w9.heap.size w9 V1 := by rw [← hV]; exact bel (bel_alloc _ _) (bel_d _)
    have HBz : Hid (Below w9.heap.size w9 V1) := bel (bel0 _) hVb
    have HBO : Hid (Boxes V1 w.heap.size #[.int .i64 a.kind, .string a.name, .int .u32 a.num, .int .i64 a.int_, .string a.key, .slice pa a.args.length ca, .int .i64 a.at_] #[.int .i64 b.kind, .string b.name, .int .u32 b.num, .int .i64 b.int_, .string b.key, .slice pb b.args.length cb, .int .i64 b.at_] 29 29) := HBO.out.below hVb
    rw [hV]
    clear hV hVb
    refine hK.out _ _ ?_ (fun hHeld => ?_)
    · ((try dsimp only); exact HBO.out)
    clear hK K
    try simp only [Act.put, List.setIfInBounds_toArray, List.set_cons_zero, List.set_cons_succ]
    clear hHeld
    refine wpAnyH_ready (rs := [2, 4]) (by kernel_rfl) (by simp) ?_
    refine AllReadyH.cons (i := 2) (by simp only [List.getElem?_toArray, List.getElem?_cons_succ, List.getElem?_cons_zero]; rfl) (fun K hK => ?_) ?_
    · go_simp
      (go_at_call 16; (with_reducible refine (C1.out _ _ _ kk1.out).mono ?_); rintro e v2 ⟨q2, d2, rfl, hk0, hv⟩; have hk2 := Hid.mk' hk0; have HBz : Hid (Below w9.heap.size w9 v2) := bel HBz.out hv; have HBO : Hid (Boxes v2 w.heap.size #[.int .i64 a.kind, .string a.name, .int .u32 a.num, .int .i64 a.int_, .string a.key, .slice pa a.args.length ca, .int .i64 a.at_] #[.int .i64 b.kind, .string b.name, .int .u32 b.num, .int .i64 b.int_, .string b.key, .slice pb b.args.length cb, .int .i64 b.at_] 29 29) := HBO.out.below hv; clear hk0 hv)
      try (go_wp2_with fail)
      refine hK.out _ _ ?_ (fun hHeld => ?_)
      · ((try dsimp only); exact HBO.out)
      clear hK K
      try simp only [Act.put, List.setIfInBounds_toArray, List.set_cons_zero, List.set_cons_succ]
      clear hHeld
      refine wpAnyH_ready (rs := [4]) (by kernel_rfl) (by simp) ?_
      refine AllReadyH.cons (i := 4) (by simp only [List.getElem?_toArray, List.getElem?_cons_succ, List.getElem?_cons_zero]; rfl) (fun K hK => ?_) AllReadyH.nil
      go_simp
      obtain ⟨V4, hV⟩ : ∃ V, v2.alloc (.cells #[.int .i64 b.kind, .string b.name, .int .u32 b.num, .int .i64 b.int_, .string b.key, .slice pb b.args.length cb, .int .i64 b.at_] 29) = V := ⟨_, rfl⟩
      have kk4 : Hid (Kids V4 anyH (.slice (some ⟨v2.heap.size, 0, none⟩) 1 1) [b]) := by rw [← hV]; exact kids_one (HKb.out _ (bel HBc.out HBz.out))
      have hVb : Below v2.heap.size v2 V4 := by rw [← hV]; exact bel_alloc _ _
      have HBz : Hid (Below w9.heap.size w9 V4) := bel (HBz.out) hVb
      have hk2 := Hid.mk' (hk2.out.below hVb)
      have HBO : Hid (Boxes V4 w.heap.size #[.int .i64 a.kind, .string a.name, .int .u32 a.num, .int .i64 a.int_, .string a.key, .slice pa a.args.length ca, .int .i64 a.at_] #[.int .i64 b.kind, .string b.name, .int .u32 b.num, .int .i64 b.int_, .string b.key, .slice pb b.args.length cb, .int .i64 b.at_] 29 29) := HBO.out.below hVb
      rw [hV]
      clear hV hVb
      refine hK.out _ _ ?_ (fun hHeld => ?_)
      · ((try dsimp only); exact HBO.out)
      clear hK K
      try simp only [Act.put, List.setIfInBounds_toArray, List.set_cons_zero, List.set_cons_succ]
      clear hHeld
      refine wpAnyH_ready (rs := [5]) (by kernel_rfl) (by simp) ?_
      refine AllReadyH.cons (i := 5) (by simp only [List.getElem?_toArray, List.getElem?_cons_succ, List.getElem?_cons_zero]; rfl) (fun K hK => ?_) AllReadyH.nil
      go_simp
      (go_at_call 16; (with_reducible refine (C7.out _ _ _ kk4.out).mono ?_); rintro e v5 ⟨q5, d5, rfl, hk0, hv⟩; have hk5 := Hid.mk' hk0; have HBz : Hid (Below w9.heap.size w9 v5) := bel HBz.out hv; have hk2 := Hid.mk' (hk2.out.below hv); have HBO : Hid (Boxes v5 w.heap.size #[.int .i64 a.kind, .string a.name, .int .u32 a.num, .int .i64 a.int_, .string a.key, .slice pa a.args.length ca, .int .i64 a.at_] #[.int .i64 b.kind, .string b.name, .int .u32 b.num, .int .i64 b.int_, .string b.key, .slice pb b.args.length cb, .int .i64 b.at_] 29 29) := HBO.out.below hv; clear hk0 hv)
      try (go_wp2_with fail)
      refine hK.out _ _ ?_ (fun hHeld => ?_)
      · ((try dsimp only); exact HBO.out)
      clear hK K
      try simp only [Act.put, List.setIfInBounds_toArray, List.set_cons_zero, List.set_cons_succ]
      clear hHeld
      refine wpAnyH_ready (rs := [6]) (by kernel_rfl) (by simp) ?_
      refine AllReadyH.cons (i := 6) (by simp only [List.getElem?_toArray, List.getElem?_cons_succ, List.getElem?_cons_zero]; rfl) (fun K hK => ?_) AllReadyH.nil
      go_simp
      obtain ⟨V6, hV⟩ : ∃ V, v5.alloc (.cells #[.int .i64 1, .string ⟨#[110, 111, 116]⟩, .int .u32 0, .int .i64 0, .string ⟨#[]⟩, .slice q2 1 d2, .int .i64 0, .int .i64 1, .string ⟨#[110, 111, 116]⟩, .int .u32 0, .int .i64 0, .string ⟨#[]⟩, .slice q5 1 d5, .int .i64 0] 29) = V := ⟨_, rfl⟩
      have kk6 : Hid (Kids V6 anyH (.slice (some ⟨v5.heap.size, 0, none⟩) 2 2) [callN ⟨#[110, 111, 116]⟩ [a], callN ⟨#[110, 111, 116]⟩ [b]]) := by rw [← hV]; exact kids_callN2 rfl rfl hk2.out hk5.out
      have hVb : Below v5.heap.size v5 V6 := by rw [← hV]; exact bel_alloc _ _
      have HBz : Hid (Below w9.heap.size w9 V6) := bel (HBz.out) hVb
      have HBO : Hid (Boxes V6 w.heap.size #[.int .i64 a.kind, .string a.name, .int .u32 a.num, .int .i64 a.int_, .string a.key, .slice pa a.args.length ca, .int .i64 a.at_] #[.int .i64 b.kind, .string b.name, .int .u32 b.num, .int .i64 b.int_, .string b.key, .slice pb b.args.length cb, .int .i64 b.at_] 29 29) := HBO.out.below hVb
      rw [hV]
      clear hV hVb
      refine hK.out _ _ ?_ (fun hHeld => ?_)
      · ((try dsimp only); exact HBO.out)
      clear hK K
      try simp only [Act.put, List.setIfInBounds_toArray, List.set_cons_zero, List.set_cons_succ]
      clear hHeld
      refine wpAnyH_ready (rs := [7]) (by kernel_rfl) (by simp) ?_
      refine AllReadyH.cons (i := 7) (by simp only [List.getElem?_toArray, List.getElem?_cons_succ, List.getElem?_cons_zero]; rfl) (fun K hK => ?_) AllReadyH.nil
      go_simp
      (go_at_call 16; (with_reducible refine (C4.out _ _ _ kk6.out).mono ?_); rintro e v7 ⟨q7, d7, rfl, hk0, hv⟩; have hk7 := Hid.mk' hk0; have HBz : Hid (Below w9.heap.size w9 v7) := bel HBz.out hv; have HBO : Hid (Boxes v7 w.heap.size #[.int .i64 a.kind, .string a.name, .int .u32 a.num, .int .i64 a.int_, .string a.key, .slice pa a.args.length ca, .int .i64 a.at_] #[.int .i64 b.kind, .string b.name, .int .u32 b.num, .int .i64 b.int_, .string b.key, .slice pb b.args.length cb, .int .i64 b.at_] 29 29) := HBO.out.below hv; clear hk0 hv)
      try (go_wp2_with fail)
      refine hK.out _ _ ?_ (fun hHeld => ?_)
      · ((try dsimp only); exact HBO.out)
      clear hK K
      try simp only [Act.put, List.setIfInBounds_toArray, List.set_cons_zero, List.set_cons_succ]
      clear hHeld
      refine wpAnyH_ready (rs := [9]) (by kernel_rfl) (by simp) ?_
      refine AllReadyH.cons (i := 9) (by simp only [List.getElem?_toArray, List.getElem?_cons_succ, List.getElem?_cons_zero]; rfl) (fun K hK => ?_) AllReadyH.nil
      go_simp
      (go_at_call 12; (with_reducible refine (SN4.out _ _ _ (bel HBc.out HBz.out) hk7.out).mono ?_); rintro e v9 ⟨u9, rfl, ho9, hb9⟩; have RR : Hid (RdN v9 u9 Q ∧ Below w9.heap.size w9 v9) := ⟨ho9.rd, bel HBz.out hb9⟩; have HBO : Hid (Boxes v9 w.heap.size #[.int .i64 a.kind, .string a.name, .int .u32 a.num, .int .i64 a.int_, .string a.key, .slice pa a.args.length ca, .int .i64 a.at_] #[.int .i64 b.kind, .string b.name, .int .u32 b.num, .int .i64 b.int_, .string b.key, .slice pb b.args.length cb, .int .i64 b.at_] 29 29) := HBO.out.below hb9; clear ho9 hb9)
      try (go_wp2_with fail)
      refine hK.out _ _ ?_ (fun hHeld => ?_)
      · ((try dsimp only); exact HBO.out)
      clear hK K
      try simp only [Act.put, List.setIfInBounds_toArray, List.set_cons_zero, List.set_cons_succ]
      refine wpAnyH_take (i := 10) (v := ?_) (by simp only [List.getElem?_toArray, List.getElem?_cons_succ, List.getElem?_cons_zero]; rfl) (by kernel_rfl) (by kernel_rfl) (by kernel_rfl) (by exact fun _ _ _ h => hPan _ _ _ _ _ h) (Or.inl ⟨by rfl, ?_⟩) (by assumption) ?_
      rotate_left 1
      · (intro wS hSw; obtain ⟨⟨g0, g1, g2, g3, g4, g5, g6⟩, k0, k1, k2, k3, k4, k5, k6⟩ := boxes14 hSw; clear hSw; go_simp; try (with_reducible rfl))
      try simp only [Act.put, List.setIfInBounds_toArray, List.set_cons_zero, List.set_cons_succ]
      refine wpAnyH_take (i := 11) (v := ?_) (by simp only [List.getElem?_toArray, List.getElem?_cons_succ, List.getElem?_cons_zero]; rfl) (by kernel_rfl) (by kernel_rfl) (by kernel_rfl) (by exact fun _ _ _ h => hPan _ _ _ _ _ h) (Or.inl ⟨by rfl, ?_⟩) (by assumption) ?_
      rotate_left 1
      · (intro wS hSw; obtain ⟨⟨g0, g1, g2, g3, g4, g5, g6⟩, k0, k1, k2, k3, k4, k5, k6⟩ := boxes14 hSw; clear hSw; go_simp; try (with_reducible rfl))
      try simp only [Act.put, List.setIfInBounds_toArray, List.set_cons_zero, List.set_cons_succ]
      refine wpAnyH_take (i := 12) (v := ?_) (by simp only [List.getElem?_toArray, List.getElem?_cons_succ, List.getElem?_cons_zero]; rfl) (by kernel_rfl) (by kernel_rfl) (by kernel_rfl) (by exact fun _ _ _ h => hPan _ _ _ _ _ h) (Or.inl ⟨by rfl, ?_⟩) (by assumption) ?_
      rotate_left 1
      · (intro wS hSw; obtain ⟨⟨g0, g1, g2, g3, g4, g5, g6⟩, k0, k1, k2, k3, k4, k5, k6⟩ := boxes14 hSw; clear hSw; go_simp; try (with_reducible rfl))
      try simp only [Act.put, List.setIfInBounds_toArray, List.set_cons_zero, List.set_cons_succ]
      refine wpAnyH_take (i := 13) (v := ?_) (by simp only [List.getElem?_toArray, List.getElem?_cons_succ, List.getElem?_cons_zero]; rfl) (by kernel_rfl) (by kernel_rfl) (by kernel_rfl) (by exact fun _ _ _ h => hPan _ _ _ _ _ h) (Or.inl ⟨by rfl, ?_⟩) (by assumption) ?_
      rotate_left 1
      · (intro wS hSw; obtain ⟨⟨g0, g1, g2, g3, g4, g5, g6⟩, k0, k1, k2, k3, k4, k5, k6⟩ := boxes14 hSw; clear hSw; go_simp; try (with_reducible rfl))
      try simp only [Act.put, List.setIfInBounds_toArray, List.set_cons_zero, List.set_cons_succ]
      refine wpAnyH_take (i := 14) (v := ?_) (by simp only [List.getElem?_toArray, List.getElem?_cons_succ, List.getElem?_cons_zero]; rfl) (by kernel_rfl) (by kernel_rfl) (by kernel_rfl) (by exact fun _ _ _ h => hPan _ _ _ _ _ h) (Or.inl ⟨by rfl, ?_⟩) (by assumption) ?_
      rotate_left 1
      · (intro wS hSw; obtain ⟨⟨g0, g1, g2, g3, g4, g5, g6⟩, k0, k1, k2, k3, k4, k5, k6⟩ := boxes14 hSw; clear hSw; go_simp; try (with_reducible rfl))
      try simp only [Act.put, List.setIfInBounds_toArray, List.set_cons_zero, List.set_cons_succ]
      refine wpAnyH_take (i := 15) (v := ?_) (by simp only [List.getElem?_toArray, List.getElem?_cons_succ, List.getElem?_cons_zero]; rfl) (by kernel_rfl) (by kernel_rfl) (by kernel_rfl) (by exact fun _ _ _ h => hPan _ _ _ _ _ h) (Or.inl ⟨by rfl, ?_⟩) (by assumption) ?_
      rotate_left 1
      · (intro wS hSw; obtain ⟨⟨g0, g1, g2, g3, g4, g5, g6⟩, k0, k1, k2, k3, k4, k5, k6⟩ := boxes14 hSw; clear hSw; go_simp; try (with_reducible rfl))
      try simp only [Act.put, List.setIfInBounds_toArray, List.set_cons_zero, List.set_cons_succ]
      refine wpAnyH_take (i := 16) (v := ?_) (by simp only [List.getElem?_toArray, List.getElem?_cons_succ, List.getElem?_cons_zero]; rfl) (by kernel_rfl) (by kernel_rfl) (by kernel_rfl) (by exact fun _ _ _ h => hPan _ _ _ _ _ h) (Or.inl ⟨by rfl, ?_⟩) (by assumption) ?_
      rotate_left 1
      · (intro wS hSw; obtain ⟨⟨g0, g1, g2, g3, g4, g5, g6⟩, k0, k1, k2, k3, k4, k5, k6⟩ := boxes14 hSw; clear hSw; go_simp; try (with_reducible rfl))
      try simp only [Act.put, List.setIfInBounds_toArray, List.set_cons_zero, List.set_cons_succ]
      refine wpAnyH_done (by kernel_rfl) ?_ _
      exact HQ'.out _ _ _ _ _ _ _ _ _ _ _ _ _ _ _ _ _ _ RR.out
    refine AllReadyH.cons (i := 4) (by simp only [List.getElem?_toArray, List.getElem?_cons_succ, List.getElem?_cons_zero]; rfl) (fun K hK => ?_) AllReadyH.nil
    go_simp
    obtain ⟨V4, hV⟩ : ∃ V, V1.alloc (.cells #[.int .i64 b.kind, .string b.name, .int .u32 b.num, .int .i64 b.int_, .string b.key, .slice pb b.args.length cb, .int .i64 b.at_] 29) = V := ⟨_, rfl⟩
    have kk4 : Hid (Kids V4 anyH (.slice (some ⟨V1.heap.size, 0, none⟩) 1 1) [b]) := by rw [← hV]; exact kids_one (HKb.out _ (bel HBc.out HBz.out))
    have hVb : Below V1.heap.size V1 V4 := by rw [← hV]; exact bel_alloc _ _
    have HBz : Hid (Below w9.heap.size w9 V4) := bel (HBz.out) hVb
    have kk1 := Hid.mk' (kk1.out.below hVb)
    have HBO : Hid (Boxes V4 w.heap.size #[.int .i64 a.kind, .string a.name, .int .u32 a.num, .int .i64 a.int_, .string a.key, .slice pa a.args.length ca, .int .i64 a.at_] #[.int .i64 b.kind, .string b.name, .int .u32 b.num, .int .i64 b.int_, .string b.key, .slice pb b.args.length cb, .int .i64 b.at_] 29 29) := HBO.out.below hVb
    rw [hV]
    clear hV hVb
    refine hK.out _ _ ?_ (fun hHeld => ?_)
    · ((try dsimp only); exact HBO.out)
    clear hK K
    try simp only [Act.put, List.setIfInBounds_toArray, List.set_cons_zero, List.set_cons_succ]
    clear hHeld
    refine wpAnyH_ready (rs := [2]) (by kernel_rfl) (by simp) ?_
    refine AllReadyH.cons (i := 2) (by simp only [List.getElem?_toArray, List.getElem?_cons_succ, List.getElem?_cons_zero]; rfl) (fun K hK => ?_) AllReadyH.nil
    go_simp
    (go_at_call 16; (with_reducible refine (C1.out _ _ _ kk1.out).mono ?_); rintro e v2 ⟨q2, d2, rfl, hk0, hv⟩; have hk2 := Hid.mk' hk0; have HBz : Hid (Below w9.heap.size w9 v2) := bel HBz.out hv; have kk4 := Hid.mk' (kk4.out.below hv); have HBO : Hid (Boxes v2 w.heap.size #[.int .i64 a.kind, .string a.name, .int .u32 a.num, .int .i64 a.int_, .string a.key, .slice pa a.args.length ca, .int .i64 a.at_] #[.int .i64 b.kind, .string b.name, .int .u32 b.num, .int .i64 b.int_, .string b.key, .slice pb b.args.length cb, .int .i64 b.at_] 29 29) := HBO.out.below hv; clear hk0 hv)
    try (go_wp2_with fail)
    refine hK.out _ _ ?_ (fun hHeld => ?_)
    · ((try dsimp only); exact HBO.out)
    clear hK K
    try simp only [Act.put, List.setIfInBounds_toArray, List.set_cons_zero, List.set_cons_succ]
    clear hHeld
    refine wpAnyH_ready (rs := [5]) (by kernel_rfl) (by simp) ?_
    refine AllReadyH.cons (i := 5) (by simp only [List.getElem?_toArray, List.getElem?_cons_succ, List.getElem?_cons_zero]; rfl) (fun K hK => ?_) AllReadyH.nil
    go_simp
    (go_at_call 16; (with_reducible refine (C7.out _ _ _ kk4.out).mono ?_); rintro e v5 ⟨q5, d5, rfl, hk0, hv⟩; have hk5 := Hid.mk' hk0; have HBz : Hid (Below w9.heap.size w9 v5) := bel HBz.out hv; have hk2 := Hid.mk' (hk2.out.below hv); have HBO : Hid (Boxes v5 w.heap.size #[.int .i64 a.kind, .string a.name, .int .u32 a.num, .int .i64 a.int_, .string a.key, .slice pa a.args.length ca, .int .i64 a.at_] #[.int .i64 b.kind, .string b.name, .int .u32 b.num, .int .i64 b.int_, .string b.key, .slice pb b.args.length cb, .int .i64 b.at_] 29 29) := HBO.out.below hv; clear hk0 hv)
    try (go_wp2_with fail)
    refine hK.out _ _ ?_ (fun hHeld => ?_)
    · ((try dsimp only); exact HBO.out)
    clear hK K
    try simp only [Act.put, List.setIfInBounds_toArray, List.set_cons_zero, List.set_cons_succ]
    clear hHeld
    refine wpAnyH_ready (rs := [6]) (by kernel_rfl) (by simp) ?_
    refine AllReadyH.cons (i := 6) (by simp only [List.getElem?_toArray, List.getElem?_cons_succ, List.getElem?_cons_zero]; rfl) (fun K hK => ?_) AllReadyH.nil
    go_simp
    obtain ⟨V6, hV⟩ : ∃ V, v5.alloc (.cells #[.int .i64 1, .string ⟨#[110, 111, 116]⟩, .int .u32 0, .int .i64 0, .string ⟨#[]⟩, .slice q2 1 d2, .int .i64 0, .int .i64 1, .string ⟨#[110, 111, 116]⟩, .int .u32 0, .int .i64 0, .string ⟨#[]⟩, .slice q5 1 d5, .int .i64 0] 29) = V := ⟨_, rfl⟩
    have kk6 : Hid (Kids V6 anyH (.slice (some ⟨v5.heap.size, 0, none⟩) 2 2) [callN ⟨#[110, 111, 116]⟩ [a], callN ⟨#[110, 111, 116]⟩ [b]]) := by rw [← hV]; exact kids_callN2 rfl rfl hk2.out hk5.out
    have hVb : Below v5.heap.size v5 V6 := by rw [← hV]; exact bel_alloc _ _
    have HBz : Hid (Below w9.heap.size w9 V6) := bel (HBz.out) hVb
    have HBO : Hid (Boxes V6 w.heap.size #[.int .i64 a.kind, .string a.name, .int .u32 a.num, .int .i64 a.int_, .string a.key, .slice pa a.args.length ca, .int .i64 a.at_] #[.int .i64 b.kind, .string b.name, .int .u32 b.num, .int .i64 b.int_, .string b.key, .slice pb b.args.length cb, .int .i64 b.at_] 29 29) := HBO.out.below hVb
    rw [hV]
    clear hV hVb
    refine hK.out _ _ ?_ (fun hHeld => ?_)
    · ((try dsimp only); exact HBO.out)
    clear hK K
    try simp only [Act.put, List.setIfInBounds_toArray, List.set_cons_zero, List.set_cons_succ]
    clear hHeld
    refine wpAnyH_ready (rs := [7]) (by kernel_rfl) (by simp) ?_
    refine AllReadyH.cons (i := 7) (by simp only [List.getElem?_toArray, List.getElem?_cons_succ, List.getElem?_cons_zero]; rfl) (fun K hK => ?_) AllReadyH.nil
    go_simp
    (go_at_call 16; (with_reducible refine (C4.out _ _ _ kk6.out).mono ?_); rintro e v7 ⟨q7, d7, rfl, hk0, hv⟩; have hk7 := Hid.mk' hk0; have HBz : Hid (Below w9.heap.size w9 v7) := bel HBz.out hv; have HBO : Hid (Boxes v7 w.heap.size #[.int .i64 a.kind, .string a.name, .int .u32 a.num, .int .i64 a.int_, .string a.key, .slice pa a.args.length ca, .int .i64 a.at_] #[.int .i64 b.kind, .string b.name, .int .u32 b.num, .int .i64 b.int_, .string b.key, .slice pb b.args.length cb, .int .i64 b.at_] 29 29) := HBO.out.below hv; clear hk0 hv)
    try (go_wp2_with fail)
    refine hK.out _ _ ?_ (fun hHeld => ?_)
    · ((try dsimp only); exact HBO.out)
    clear hK K
    try simp only [Act.put, List.setIfInBounds_toArray, List.set_cons_zero, List.set_cons_succ]
    clear hHeld
    refine wpAnyH_ready (rs := [9]) (by kernel_rfl) (by simp) ?_
    refine AllReadyH.cons (i := 9) (by simp only [List.getElem?_toArray, List.getElem?_cons_succ, List.getElem?_cons_zero]; rfl) (fun K hK => ?_) AllReadyH.nil
    go_simp
    (go_at_call 12; (with_reducible refine (SN4.out _ _ _ (bel HBc.out HBz.out) hk7.out).mono ?_); rintro e v9 ⟨u9, rfl, ho9, hb9⟩; have RR : Hid (RdN v9 u9 Q ∧ Below w9.heap.size w9 v9) := ⟨ho9.rd, bel HBz.out hb9⟩; have HBO : Hid (Boxes v9 w.heap.size #[.int .i64 a.kind, .string a.name, .int .u32 a.num, .int .i64 a.int_, .string a.key, .slice pa a.args.length ca, .int .i64 a.at_] #[.int .i64 b.kind, .string b.name, .int .u32 b.num, .int .i64 b.int_, .string b.key, .slice pb b.args.length cb, .int .i64 b.at_] 29 29) := HBO.out.below hb9; clear ho9 hb9)
    try (go_wp2_with fail)
    refine hK.out _ _ ?_ (fun hHeld => ?_)
    · ((try dsimp only); exact HBO.out)
    clear hK K
    try simp only [Act.put, List.setIfInBounds_toArray, List.set_cons_zero, List.set_cons_succ]
    refine wpAnyH_take (i := 10) (v := ?_) (by simp only [List.getElem?_toArray, List.getElem?_cons_succ, List.getElem?_cons_zero]; rfl) (by kernel_rfl) (by kernel_rfl) (by kernel_rfl) (by exact fun _ _ _ h => hPan _ _ _ _ _ h) (Or.inl ⟨by rfl, ?_⟩) (by assumption) ?_
    rotate_left 1
    · (intro wS hSw; obtain ⟨⟨g0, g1, g2, g3, g4, g5, g6⟩, k0, k1, k2, k3, k4, k5, k6⟩ := boxes14 hSw; clear hSw; go_simp; try (with_reducible rfl))
    try simp only [Act.put, List.setIfInBounds_toArray, List.set_cons_zero, List.set_cons_succ]
    refine wpAnyH_take (i := 11) (v := ?_) (by simp only [List.getElem?_toArray, List.getElem?_cons_succ, List.getElem?_cons_zero]; rfl) (by kernel_rfl) (by kernel_rfl) (by kernel_rfl) (by exact fun _ _ _ h => hPan _ _ _ _ _ h) (Or.inl ⟨by rfl, ?_⟩) (by assumption) ?_
    rotate_left 1
    · (intro wS hSw; obtain ⟨⟨g0, g1, g2, g3, g4, g5, g6⟩, k0, k1, k2, k3, k4, k5, k6⟩ := boxes14 hSw; clear hSw; go_simp; try (with_reducible rfl))
    try simp only [Act.put, List.setIfInBounds_toArray, List.set_cons_zero, List.set_cons_succ]
    refine wpAnyH_take (i := 12) (v := ?_) (by simp only [List.getElem?_toArray, List.getElem?_cons_succ, List.getElem?_cons_zero]; rfl) (by kernel_rfl) (by kernel_rfl) (by kernel_rfl) (by exact fun _ _ _ h => hPan _ _ _ _ _ h) (Or.inl ⟨by rfl, ?_⟩) (by assumption) ?_
    rotate_left 1
    · (intro wS hSw; obtain ⟨⟨g0, g1, g2, g3, g4, g5, g6⟩, k0, k1, k2, k3, k4, k5, k6⟩ := boxes14 hSw; clear hSw; go_simp; try (with_reducible rfl))
    try simp only [Act.put, List.setIfInBounds_toArray, List.set_cons_zero, List.set_cons_succ]
    refine wpAnyH_take (i := 13) (v := ?_) (by simp only [List.getElem?_toArray, List.getElem?_cons_succ, List.getElem?_cons_zero]; rfl) (by kernel_rfl) (by kernel_rfl) (by kernel_rfl) (by exact fun _ _ _ h => hPan _ _ _ _ _ h) (Or.inl ⟨by rfl, ?_⟩) (by assumption) ?_
    rotate_left 1
    · (intro wS hSw; obtain ⟨⟨g0, g1, g2, g3, g4, g5, g6⟩, k0, k1, k2, k3, k4, k5, k6⟩ := boxes14 hSw; clear hSw; go_simp; try (with_reducible rfl))
    try simp only [Act.put, List.setIfInBounds_toArray, List.set_cons_zero, List.set_cons_succ]
    refine wpAnyH_take (i := 14) (v := ?_) (by simp only [List.getElem?_toArray, List.getElem?_cons_succ, List.getElem?_cons_zero]; rfl) (by kernel_rfl) (by kernel_rfl) (by kernel_rfl) (by exact fun _ _ _ h => hPan _ _ _ _ _ h) (Or.inl ⟨by rfl, ?_⟩) (by assumption) ?_
    rotate_left 1
    · (intro wS hSw; obtain ⟨⟨g0, g1, g2, g3, g4, g5, g6⟩, k0, k1, k2, k3, k4, k5, k6⟩ := boxes14 hSw; clear hSw; go_simp; try (with_reducible rfl))
    try simp only [Act.put, List.setIfInBounds_toArray, List.set_cons_zero, List.set_cons_succ]
    refine wpAnyH_take (i := 15) (v := ?_) (by simp only [List.getElem?_toArray, List.getElem?_cons_succ, List.getElem?_cons_zero]; rfl) (by kernel_rfl) (by kernel_rfl) (by kernel_rfl) (by exact fun _ _ _ h => hPan _ _ _ _ _ h) (Or.inl ⟨by rfl, ?_⟩) (by assumption) ?_
    rotate_left 1
    · (intro wS hSw; obtain ⟨⟨g0, g1, g2, g3, g4, g5, g6⟩, k0, k1, k2, k3, k4, k5, k6⟩ := boxes14 hSw; clear hSw; go_simp; try (with_reducible rfl))
    try simp only [Act.put, List.setIfInBounds_toArray, List.set_cons_zero, List.set_cons_succ]
    refine wpAnyH_take (i := 16) (v := ?_) (by simp only [List.getElem?_toArray, List.getElem?_cons_succ, List.getElem?_cons_zero]; rfl) (by kernel_rfl) (by kernel_rfl) (by kernel_rfl) (by exact fun _ _ _ h => hPan _ _ _ _ _ h) (Or.inl ⟨by rfl, ?_⟩) (by assumption) ?_
    rotate_left 1
    · (intro wS hSw; obtain ⟨⟨g0, g1, g2, g3, g4, g5, g6⟩, k0, k1, k2, k3, k4, k5, k6⟩ := boxes14 hSw; clear hSw; go_simp; try (with_reducible rfl))
    try simp only [Act.put, List.setIfInBounds_toArray, List.set_cons_zero, List.set_cons_succ]
    refine wpAnyH_done (by kernel_rfl) ?_ _
    exact HQ'.out _ _ _ _ _ _ _ _ _ _ _ _ _ _ _ _ _ _ RR.out
  refine AllReadyH.cons (i := 4) (by simp only [List.getElem?_toArray, List.getElem?_cons_succ, List.getElem?_cons_zero]; rfl) (fun K hK => ?_) AllReadyH.nil
  go_simp
  obtain ⟨V4, hV⟩ : ∃ V, (w9.alloc (.cells #[.int .i64 b.kind, .string b.name, .int .u32 b.num, .int .i64 b.int_, .string b.key, .slice pb b.args.length cb, .int .i64 b.at_] 29)).drew = V := ⟨_, rfl⟩
  have kk4 : Hid (Kids V4 anyH (.slice (some ⟨w9.heap.size, 0, none⟩) 1 1) [b]) := by rw [← hV]; exact (kids_one (HKb.out _ (bel HBc.out (bel0 _)))).below (bel_d _)
  have hVb : Below w9.heap.size w9 V4 := by rw [← hV]; exact bel (bel_alloc _ _) (bel_d _)
  have HBz : Hid (Below w9.heap.size w9 V4) := bel (bel0 _) hVb
  have HBO : Hid (Boxes V4 w.heap.size #[.int .i64 a.kind, .string a.name, .int .u32 a.num, .int .i64 a.int_, .string a.key, .slice pa a.args.length ca, .int .i64 a.at_] #[.int .i64 b.kind, .string b.name, .int .u32 b.num, .int .i64 b.int_, .string b.key, .slice pb b.args.length cb, .int .i64 b.at_] 29 29) := HBO.out.below hVb
  rw [hV]
  clear hV hVb
  refine hK.out _ _ ?_ (fun hHeld => ?_)
  · ((try dsimp only); exact HBO.out)
  clear hK K
  try simp only [Act.put, List.setIfInBounds_toArray, List.set_cons_zero, List.set_cons_succ]
  clear hHeld
  refine wpAnyH_ready (rs := [1]) (by kernel_rfl) (by simp) ?_
  refine AllReadyH.cons (i := 1) (by simp only [List.getElem?_toArray, List.getElem?_cons_succ, List.getElem?_cons_zero]; rfl) (fun K hK => ?_) AllReadyH.nil
  go_simp
  obtain ⟨V1, hV⟩ : ∃ V, V4.alloc (.cells #[.int .i64 a.kind, .string a.name, .int .u32 a.num, .int .i64 a.int_, .string a.key, .slice pa a.args.length ca, .int .i64 a.at_] 29) = V := ⟨_, rfl⟩
  have kk1 : Hid (Kids V1 anyH (.slice (some ⟨V4.heap.size, 0, none⟩) 1 1) [a]) := by rw [← hV]; exact kids_one (HKa.out _ (bel HBc.out HBz.out))
  have hVb : Below V4.heap.size V4 V1 := by rw [← hV]; exact bel_alloc _ _
  have HBz : Hid (Below w9.heap.size w9 V1) := bel (HBz.out) hVb
  have kk4 := Hid.mk' (kk4.out.below hVb)
  have HBO : Hid (Boxes V1 w.heap.size #[.int .i64 a.kind, .string a.name, .int .u32 a.num, .int .i64 a.int_, .string a.key, .slice pa a.args.length ca, .int .i64 a.at_] #[.int .i64 b.kind, .string b.name, .int .u32 b.num, .int .i64 b.int_, .string b.key, .slice pb b.args.length cb, .int .i64 b.at_] 29 29) := HBO.out.below hVb
  rw [hV]
  clear hV hVb
  refine hK.out _ _ ?_ (fun hHeld => ?_)
  · ((try dsimp only); exact HBO.out)
  clear hK K
  try simp only [Act.put, List.setIfInBounds_toArray, List.set_cons_zero, List.set_cons_succ]
  clear hHeld
  refine wpAnyH_ready (rs := [2]) (by kernel_rfl) (by simp) ?_
  refine AllReadyH.cons (i := 2) (by simp only [List.getElem?_toArray, List.getElem?_cons_succ, List.getElem?_cons_zero]; rfl) (fun K hK => ?_) AllReadyH.nil
  go_simp
  (go_at_call 16; (with_reducible refine (C1.out _ _ _ kk1.out).mono ?_); rintro e v2 ⟨q2, d2, rfl, hk0, hv⟩; have hk2 := Hid.mk' hk0; have HBz : Hid (Below w9.heap.size w9 v2) := bel HBz.out hv; have kk4 := Hid.mk' (kk4.out.below hv); have HBO : Hid (Boxes v2 w.heap.size #[.int .i64 a.kind, .string a.name, .int .u32 a.num, .int .i64 a.int_, .string a.key, .slice pa a.args.length ca, .int .i64 a.at_] #[.int .i64 b.kind, .string b.name, .int .u32 b.num, .int .i64 b.int_, .string b.key, .slice pb b.args.length cb, .int .i64 b.at_] 29 29) := HBO.out.below hv; clear hk0 hv)
  try (go_wp2_with fail)
  refine hK.out _ _ ?_ (fun hHeld => ?_)
  · ((try dsimp only); exact HBO.out)
  clear hK K
  try simp only [Act.put, List.setIfInBounds_toArray, List.set_cons_zero, List.set_cons_succ]
  clear hHeld
  refine wpAnyH_ready (rs := [5]) (by kernel_rfl) (by simp) ?_
  refine AllReadyH.cons (i := 5) (by simp only [List.getElem?_toArray, List.getElem?_cons_succ, List.getElem?_cons_zero]; rfl) (fun K hK => ?_) AllReadyH.nil
  go_simp
  (go_at_call 16; (with_reducible refine (C7.out _ _ _ kk4.out).mono ?_); rintro e v5 ⟨q5, d5, rfl, hk0, hv⟩; have hk5 := Hid.mk' hk0; have HBz : Hid (Below w9.heap.size w9 v5) := bel HBz.out hv; have hk2 := Hid.mk' (hk2.out.below hv); have HBO : Hid (Boxes v5 w.heap.size #[.int .i64 a.kind, .string a.name, .int .u32 a.num, .int .i64 a.int_, .string a.key, .slice pa a.args.length ca, .int .i64 a.at_] #[.int .i64 b.kind, .string b.name, .int .u32 b.num, .int .i64 b.int_, .string b.key, .slice pb b.args.length cb, .int .i64 b.at_] 29 29) := HBO.out.below hv; clear hk0 hv)
  try (go_wp2_with fail)
  refine hK.out _ _ ?_ (fun hHeld => ?_)
  · ((try dsimp only); exact HBO.out)
  clear hK K
  try simp only [Act.put, List.setIfInBounds_toArray, List.set_cons_zero, List.set_cons_succ]
  clear hHeld
  refine wpAnyH_ready (rs := [6]) (by kernel_rfl) (by simp) ?_
  refine AllReadyH.cons (i := 6) (by simp only [List.getElem?_toArray, List.getElem?_cons_succ, List.getElem?_cons_zero]; rfl) (fun K hK => ?_) AllReadyH.nil
  go_simp
  obtain ⟨V6, hV⟩ : ∃ V, v5.alloc (.cells #[.int .i64 1, .string ⟨#[110, 111, 116]⟩, .int .u32 0, .int .i64 0, .string ⟨#[]⟩, .slice q2 1 d2, .int .i64 0, .int .i64 1, .string ⟨#[110, 111, 116]⟩, .int .u32 0, .int .i64 0, .string ⟨#[]⟩, .slice q5 1 d5, .int .i64 0] 29) = V := ⟨_, rfl⟩
  have kk6 : Hid (Kids V6 anyH (.slice (some ⟨v5.heap.size, 0, none⟩) 2 2) [callN ⟨#[110, 111, 116]⟩ [a], callN ⟨#[110, 111, 116]⟩ [b]]) := by rw [← hV]; exact kids_callN2 rfl rfl hk2.out hk5.out
  have hVb : Below v5.heap.size v5 V6 := by rw [← hV]; exact bel_alloc _ _
  have HBz : Hid (Below w9.heap.size w9 V6) := bel (HBz.out) hVb
  have HBO : Hid (Boxes V6 w.heap.size #[.int .i64 a.kind, .string a.name, .int .u32 a.num, .int .i64 a.int_, .string a.key, .slice pa a.args.length ca, .int .i64 a.at_] #[.int .i64 b.kind, .string b.name, .int .u32 b.num, .int .i64 b.int_, .string b.key, .slice pb b.args.length cb, .int .i64 b.at_] 29 29) := HBO.out.below hVb
  rw [hV]
  clear hV hVb
  refine hK.out _ _ ?_ (fun hHeld => ?_)
  · ((try dsimp only); exact HBO.out)
  clear hK K
  try simp only [Act.put, List.setIfInBounds_toArray, List.set_cons_zero, List.set_cons_succ]
  clear hHeld
  refine wpAnyH_ready (rs := [7]) (by kernel_rfl) (by simp) ?_
  refine AllReadyH.cons (i := 7) (by simp only [List.getElem?_toArray, List.getElem?_cons_succ, List.getElem?_cons_zero]; rfl) (fun K hK => ?_) AllReadyH.nil
  go_simp
  (go_at_call 16; (with_reducible refine (C4.out _ _ _ kk6.out).mono ?_); rintro e v7 ⟨q7, d7, rfl, hk0, hv⟩; have hk7 := Hid.mk' hk0; have HBz : Hid (Below w9.heap.size w9 v7) := bel HBz.out hv; have HBO : Hid (Boxes v7 w.heap.size #[.int .i64 a.kind, .string a.name, .int .u32 a.num, .int .i64 a.int_, .string a.key, .slice pa a.args.length ca, .int .i64 a.at_] #[.int .i64 b.kind, .string b.name, .int .u32 b.num, .int .i64 b.int_, .string b.key, .slice pb b.args.length cb, .int .i64 b.at_] 29 29) := HBO.out.below hv; clear hk0 hv)
  try (go_wp2_with fail)
  refine hK.out _ _ ?_ (fun hHeld => ?_)
  · ((try dsimp only); exact HBO.out)
  clear hK K
  try simp only [Act.put, List.setIfInBounds_toArray, List.set_cons_zero, List.set_cons_succ]
  clear hHeld
  refine wpAnyH_ready (rs := [9]) (by kernel_rfl) (by simp) ?_
  refine AllReadyH.cons (i := 9) (by simp only [List.getElem?_toArray, List.getElem?_cons_succ, List.getElem?_cons_zero]; rfl) (fun K hK => ?_) AllReadyH.nil
  go_simp
  (go_at_call 12; (with_reducible refine (SN4.out _ _ _ (bel HBc.out HBz.out) hk7.out).mono ?_); rintro e v9 ⟨u9, rfl, ho9, hb9⟩; have RR : Hid (RdN v9 u9 Q ∧ Below w9.heap.size w9 v9) := ⟨ho9.rd, bel HBz.out hb9⟩; have HBO : Hid (Boxes v9 w.heap.size #[.int .i64 a.kind, .string a.name, .int .u32 a.num, .int .i64 a.int_, .string a.key, .slice pa a.args.length ca, .int .i64 a.at_] #[.int .i64 b.kind, .string b.name, .int .u32 b.num, .int .i64 b.int_, .string b.key, .slice pb b.args.length cb, .int .i64 b.at_] 29 29) := HBO.out.below hb9; clear ho9 hb9)
  try (go_wp2_with fail)
  refine hK.out _ _ ?_ (fun hHeld => ?_)
  · ((try dsimp only); exact HBO.out)
  clear hK K
  try simp only [Act.put, List.setIfInBounds_toArray, List.set_cons_zero, List.set_cons_succ]
  refine wpAnyH_take (i := 10) (v := ?_) (by simp only [List.getElem?_toArray, List.getElem?_cons_succ, List.getElem?_cons_zero]; rfl) (by kernel_rfl) (by kernel_rfl) (by kernel_rfl) (by exact fun _ _ _ h => hPan _ _ _ _ _ h) (Or.inl ⟨by rfl, ?_⟩) (by assumption) ?_
  rotate_left 1
  · (intro wS hSw; obtain ⟨⟨g0, g1, g2, g3, g4, g5, g6⟩, k0, k1, k2, k3, k4, k5, k6⟩ := boxes14 hSw; clear hSw; go_simp; try (with_reducible rfl))
  try simp only [Act.put, List.setIfInBounds_toArray, List.set_cons_zero, List.set_cons_succ]
  refine wpAnyH_take (i := 11) (v := ?_) (by simp only [List.getElem?_toArray, List.getElem?_cons_succ, List.getElem?_cons_zero]; rfl) (by kernel_rfl) (by kernel_rfl) (by kernel_rfl) (by exact fun _ _ _ h => hPan _ _ _ _ _ h) (Or.inl ⟨by rfl, ?_⟩) (by assumption) ?_
  rotate_left 1
  · (intro wS hSw; obtain ⟨⟨g0, g1, g2, g3, g4, g5, g6⟩, k0, k1, k2, k3, k4, k5, k6⟩ := boxes14 hSw; clear hSw; go_simp; try (with_reducible rfl))
  try simp only [Act.put, List.setIfInBounds_toArray, List.set_cons_zero, List.set_cons_succ]
  refine wpAnyH_take (i := 12) (v := ?_) (by simp only [List.getElem?_toArray, List.getElem?_cons_succ, List.getElem?_cons_zero]; rfl) (by kernel_rfl) (by kernel_rfl) (by kernel_rfl) (by exact fun _ _ _ h => hPan _ _ _ _ _ h) (Or.inl ⟨by rfl, ?_⟩) (by assumption) ?_
  rotate_left 1
  · (intro wS hSw; obtain ⟨⟨g0, g1, g2, g3, g4, g5, g6⟩, k0, k1, k2, k3, k4, k5, k6⟩ := boxes14 hSw; clear hSw; go_simp; try (with_reducible rfl))
  try simp only [Act.put, List.setIfInBounds_toArray, List.set_cons_zero, List.set_cons_succ]
  refine wpAnyH_take (i := 13) (v := ?_) (by simp only [List.getElem?_toArray, List.getElem?_cons_succ, List.getElem?_cons_zero]; rfl) (by kernel_rfl) (by kernel_rfl) (by kernel_rfl) (by exact fun _ _ _ h => hPan _ _ _ _ _ h) (Or.inl ⟨by rfl, ?_⟩) (by assumption) ?_
  rotate_left 1
  · (intro wS hSw; obtain ⟨⟨g0, g1, g2, g3, g4, g5, g6⟩, k0, k1, k2, k3, k4, k5, k6⟩ := boxes14 hSw; clear hSw; go_simp; try (with_reducible rfl))
  try simp only [Act.put, List.setIfInBounds_toArray, List.set_cons_zero, List.set_cons_succ]
  refine wpAnyH_take (i := 14) (v := ?_) (by simp only [List.getElem?_toArray, List.getElem?_cons_succ, List.getElem?_cons_zero]; rfl) (by kernel_rfl) (by kernel_rfl) (by kernel_rfl) (by exact fun _ _ _ h => hPan _ _ _ _ _ h) (Or.inl ⟨by rfl, ?_⟩) (by assumption) ?_
  rotate_left 1
  · (intro wS hSw; obtain ⟨⟨g0, g1, g2, g3, g4, g5, g6⟩, k0, k1, k2, k3, k4, k5, k6⟩ := boxes14 hSw; clear hSw; go_simp; try (with_reducible rfl))
  try simp only [Act.put, List.setIfInBounds_toArray, List.set_cons_zero, List.set_cons_succ]
  refine wpAnyH_take (i := 15) (v := ?_) (by simp only [List.getElem?_toArray, List.getElem?_cons_succ, List.getElem?_cons_zero]; rfl) (by kernel_rfl) (by kernel_rfl) (by kernel_rfl) (by exact fun _ _ _ h => hPan _ _ _ _ _ h) (Or.inl ⟨by rfl, ?_⟩) (by assumption) ?_
  rotate_left 1
  · (intro wS hSw; obtain ⟨⟨g0, g1, g2, g3, g4, g5, g6⟩, k0, k1, k2, k3, k4, k5, k6⟩ := boxes14 hSw; clear hSw; go_simp; try (with_reducible rfl))
  try simp only [Act.put, List.setIfInBounds_toArray, List.set_cons_zero, List.set_cons_succ]
  refine wpAnyH_take (i := 16) (v := ?_) (by simp only [List.getElem?_toArray, List.getElem?_cons_succ, List.getElem?_cons_zero]; rfl) (by kernel_rfl) (by kernel_rfl) (by kernel_rfl) (by exact fun _ _ _ h => hPan _ _ _ _ _ h) (Or.inl ⟨by rfl, ?_⟩) (by assumption) ?_
  rotate_left 1
  · (intro wS hSw; obtain ⟨⟨g0, g1, g2, g3, g4, g5, g6⟩, k0, k1, k2, k3, k4, k5, k6⟩ := boxes14 hSw; clear hSw; go_simp; try (with_reducible rfl))
  try simp only [Act.put, List.setIfInBounds_toArray, List.set_cons_zero, List.set_cons_succ]
  refine wpAnyH_done (by kernel_rfl) ?_ _
  exact HQ'.out _ _ _ _ _ _ _ _ _ _ _ _ _ _ _ _ _ _ RR.out

end Go.Proofs.YtnhpnmilgcjeaaaDoor
