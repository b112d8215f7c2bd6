import Derived.Test.YtbinohkcolcbfaaGreatPart17
import Derived.Test.YtbinohkcolcbfaaGreatPart1
import Derived.Test.YtbinohkcolcbfaaGreatPart2
import Derived.Test.YtbinohkcolcbfaaGreatPart16
set_option maxRecDepth 100000
set_option maxHeartbeats 16000000
namespace Go.Proofs.YtbinohkcolcbfaaGreat
open Go.RowKit Go.Proofs.Tryz
set_option linter.unusedVariables false
set_option linter.unusedSimpArgs false
def mutT(T:Nat->Prop)(E E':Nat):Nat->Prop:=fun b=>T b\/(E<=b/\b<E')
def Zje(c:Cd)(p:Nat):Nat:=(c.sign[p]?).elim 0 numL
structure FX(T:Nat->Prop)(E E':Nat)(a:Lay)(c:Cd)(G P:List (List Int))(w:World):Prop where
 hE:E<=E'
 hE':E'<=w.heap.size
 hT:∀b,T b->b<E
 hS:T a.S
 code:CdT (mutT T E E') w a c
 g:VsT (mutT T E E') w a.gv G
 p:VsT (mutT T E E') w a.pv P
 fr:Zhw w a.FR 0 [.pointer (some ⟨a.C,0,none⟩),.slice a.sp c.slots.length a.sc,.slice (some ⟨a.NB,0,none⟩) c.regs.length c.regs.length,.slice (some ⟨a.WB,0,none⟩) c.regs.length c.regs.length,.map (some a.MB),a.gv,a.pv,.slice (some ⟨a.UB,0,none⟩) c.sign.length c.sign.length]
 upd:w.rowIs a.UB 57 c.sign.length (fun p=>.slice (some ⟨a.ub p,0,none⟩) (Zje c p) (Zje c p))
 iFR:E<=a.FR/\a.FR<E'
 iNB:E<=a.NB/\a.NB<E'
 iWB:E<=a.WB/\a.WB<E'
 iMB:E<=a.MB/\a.MB<E'
 iUB:E<=a.UB/\a.UB<E'
 iub:∀p,p<c.sign.length->E<=a.ub p/\a.ub p<E'
 d1:a.FR≠a.NB/\a.FR≠a.WB/\a.FR≠a.MB/\a.FR≠a.UB/\a.NB≠a.WB/\a.NB≠a.MB/\a.NB≠a.UB/\a.WB≠a.MB/\a.WB≠a.UB/\a.MB≠a.UB
 d2:∀p,p<c.sign.length->a.ub p≠a.FR/\a.ub p≠a.NB/\a.ub p≠a.WB/\a.ub p≠a.MB/\a.ub p≠a.UB
 d3:∀p q,p<c.sign.length->q<c.sign.length->a.ub p=a.ub q->p=q
structure FV(T:Nat->Prop)(E E':Nat)(a:Lay)(c:Cd)(w:World)(X:Nat->Value)(M:Nat)(m:Nat->Option Value)(f:Fr):Prop where
 nums:w.rowIs a.NB 43 c.regs.length (fun j=>.int .u32 (f.nums j))
 whs:w.rowIs a.WB 3 c.regs.length (fun j=>.int .i64 (f.whs j))
 map:MapI w a.MB M m
 vecs:∀r,r<c.regs.length->Pt (mutT T E E') w ((m r).getD (.slice none 0 0)) (f.vecs r)
 outs:∀p,p<c.sign.length->w.rowIs (a.ub p) 43 (Zje c p) (fun j=>.int .u32 (f.outs p j))
 slots:SlT (mutT T E E') w a X f.slots
 slotsL:f.slots.length=c.slots.length
section
variable {T : Nat -> Prop} {E E' : Nat} {a : Lay} {c : Cd} {G P : List (List Int)} {w w' : World} {X : Nat -> Value} {M : Nat} {m : Nat -> Option Value} {f : Fr}
theorem FX.un{U:Nat->Prop}(h:FX T E E' a c G P w)(q:Un U w w')(hu:∀b,b<w.heap.size->U b->mutT T E E' b)(h1:¬U a.FR)(h2:¬U a.UB):FX T E E' a c G P w':=
 ⟨h.hE,Nat.le_trans h.hE' q.size,h.hT,h.hS,h.code.un q hu,h.g.un q hu,h.p.un q hu,h.fr.of_block (q.block _ (by have:=h.iFR;have:=h.hE';omega) h1),h.upd.of_block (q.block _ h.upd.lt h2),h.iFR,h.iNB,h.iWB,h.iMB,h.iUB,h.iub,h.d1,h.d2,h.d3⟩
theorem FX.below(h:FX T E E' a c G P w)(q:Below w.heap.size w w'):FX T E E' a c G P w':=h.un (U:=fun _=>False) (Un.of q) (fun _ _ e=>e.elim) (fun e=>e) (fun e=>e)
theorem FV.below(h:FV T E E' a c w X M m f)(q:Below w.heap.size w w'):FV T E E' a c w' X M m f:=
 ⟨h.nums.of_block (q.block _ h.nums.lt),h.whs.of_block (q.block _ h.whs.lt),h.map.below q,fun r hr=>(h.vecs r hr).below q,fun p hp=>(h.outs p hp).of_block (q.block _ (h.outs p hp).lt),h.slots.below q,h.slotsL⟩
theorem FX.ltS(h:FX T E E' a c G P w):a.S<E:=h.hT _ h.hS
theorem Zvw(b:Nat)(h:E<=b/\b<E'):mutT T E E' b:=.inr h
theorem FV.num(x:FX T E E' a c G P w)(h:FV T E E' a c w X M m f){d:Nat}(hd:d<c.regs.length)(y:Int)(q:w'=w.setCell ⟨a.NB,d,none⟩ (.int .u32 y)):
 FX T E E' a c G P w'/\FV T E E' a c w' X M m {f with nums:=putN f.nums d y}/\Un (fun b=>b=a.NB) w w':=by
 subst q;have hU:Un (fun b=>b=a.NB) w (w.setCell ⟨a.NB,d,none⟩ (.int .u32 y)):=(Un.refl (fun b=>b=a.NB) w).setCell (p:=⟨a.NB,d,none⟩) rF _;have hu:∀b,b<w.heap.size->b=a.NB->mutT T E E' b:=fun b _ e=>e▸Zvw _ x.iNB;obtain⟨e1,e2,e3,e4,e5,e6,e7,e8,e9,e10⟩:=x.d1;have hs:=x.ltS;have hi:=x.iNB;refine⟨x.un hU hu e1 (Ne.symm e7),⟨(h.nums.set d _).congr fun j hj=>?_,h.whs.of_block (hU.block _ h.whs.lt (Ne.symm e5)),h.map.block (hU.block _ h.map.lt (Ne.symm e6)),fun r hr=>(h.vecs r hr).un hU hu,fun p hp=>(h.outs p hp).of_block (hU.block _ (h.outs p hp).lt (x.d2 p hp).2.1),h.slots.un hU oM hu,h.slotsL⟩,hU⟩;simp only[putN];split<;>rfl
theorem FV.wh(x:FX T E E' a c G P w)(h:FV T E E' a c w X M m f){d:Nat}(hd:d<c.regs.length)(y:Int)(q:w'=w.setCell ⟨a.WB,d,none⟩ (.int .i64 y)):
 FX T E E' a c G P w'/\FV T E E' a c w' X M m {f with whs:=putN f.whs d y}/\Un (fun b=>b=a.WB) w w':=by
 subst q;have hU:Un (fun b=>b=a.WB) w (w.setCell ⟨a.WB,d,none⟩ (.int .i64 y)):=(Un.refl (fun b=>b=a.WB) w).setCell (p:=⟨a.WB,d,none⟩) rF _;have hu:∀b,b<w.heap.size->b=a.WB->mutT T E E' b:=fun b _ e=>e▸Zvw _ x.iWB;obtain⟨e1,e2,e3,e4,e5,e6,e7,e8,e9,e10⟩:=x.d1;have hs:=x.ltS;have hi:=x.iWB;refine⟨x.un hU hu e2 (Ne.symm e9),⟨h.nums.of_block (hU.block _ h.nums.lt e5),(h.whs.set d _).congr fun j hj=>?_,h.map.block (hU.block _ h.map.lt (Ne.symm e8)),fun r hr=>(h.vecs r hr).un hU hu,fun p hp=>(h.outs p hp).of_block (hU.block _ (h.outs p hp).lt (x.d2 p hp).2.2.1),h.slots.un hU oM hu,h.slotsL⟩,hU⟩;simp only[putN];split<;>rfl
theorem FV.vec(x:FX T E E' a c G P w)(h:FV T E E' a c w X M m f){d:Nat}(hd:d<c.regs.length){v:Value}{l:List Int}(hv:Pt (mutT T E E') w v l)(hm:MapI w' a.MB (M+1) (updI m d v))(hg:w.grownBy w' (some a.MB)):
 FX T E E' a c G P w'/\FV T E E' a c w' X (M+1) (updI m d v) {f with vecs:=putN f.vecs d l}/\Un (fun b=>b=a.MB) w w':=by
 have hU:Un (fun b=>b=a.MB) w w':=(Un.refl (fun b=>b=a.MB) w).grown (b:=a.MB) rF hg;have hu:∀b,b<w.heap.size->b=a.MB->mutT T E E' b:=fun b _ e=>e▸Zvw _ x.iMB;obtain⟨e1,e2,e3,e4,e5,e6,e7,e8,e9,e10⟩:=x.d1;have hs:=x.ltS;have hi:=x.iMB;refine⟨x.un hU hu e3 (Ne.symm e10),⟨h.nums.of_block (hU.block _ h.nums.lt e6),h.whs.of_block (hU.block _ h.whs.lt e8),hm,fun r hr=>?_,fun p hp=>(h.outs p hp).of_block (hU.block _ (h.outs p hp).lt (x.d2 p hp).2.2.2.1),h.slots.un hU oM hu,h.slotsL⟩,hU⟩;simp only[putN,updI];split
 ·exact hv.un hU hu
 ·exact(h.vecs r hr).un hU hu
theorem FV.slot(x:FX T E E' a c G P w)(h:FV T E E' a c w X M m f){d:Nat}(hd:d<f.slots.length){v:Value}{hh:Hd}(hv:Pt (mutT T E E') w v hh.pats)(q:w'=(w.setCell ⟨a.S,d*2,none⟩ v).setCell ⟨a.S,d*2+1,none⟩ (.int .i64 hh.whole)):
 FX T E E' a c G P w'/\(∃X',FV T E E' a c w' X' M m {f with slots:=f.slots.set d hh})/\Un (fun b=>b=a.S) w w':=by
 subst q;have hU:Un (fun b=>b=a.S) w ((w.setCell ⟨a.S,d*2,none⟩ v).setCell ⟨a.S,d*2+1,none⟩ (.int .i64 hh.whole)):=((Un.refl (fun b=>b=a.S) w).setCell (p:=⟨a.S,d*2,none⟩) rF _).setCell (p:=⟨a.S,d*2+1,none⟩) rF _;have hu:∀b,b<w.heap.size->b=a.S->mutT T E E' b:=fun b _ e=>e▸ .inl x.hS;have hs:=x.ltS;have i1:=x.iFR;have i2:=x.iNB;have i3:=x.iWB;have i4:=x.iMB;have i5:=x.iUB;refine⟨x.un hU hu oM oM,⟨fun j=>if j=d*2+1 then .int .i64 hh.whole else if j=d*2 then v else X j,⟨h.nums.of_block (hU.block _ h.nums.lt oM),h.whs.of_block (hU.block _ h.whs.lt oM),h.map.block (hU.block _ h.map.lt oM),fun r hr=>(h.vecs r hr).un hU hu,fun p hp=>(h.outs p hp).of_block (hU.block _ (h.outs p hp).lt (by have:=x.iub p hp;omega)),?_,by simp[h.slotsL]⟩⟩,hU⟩;refine⟨(h.slots.row.set (d*2) v).set (d*2+1) _,?_,by simpa using h.slots.le,fun j hj=>?_,fun j hj=>?_⟩
 ·rcases h.slots.sp with e|e
  ·rw[e]at hd;exact absurd hd (Nat.not_lt_zero _)
  ·exact .inr e
 ·exact Zef
 ·exact Zdv
theorem FV.out(x:FX T E E' a c G P w)(h:FV T E E' a c w X M m f){p j:Nat}(hp:p<c.sign.length)(y:Int)(q:w'=w.setCell ⟨a.ub p,j,none⟩ (.int .u32 y)):
 FX T E E' a c G P w'/\FV T E E' a c w' X M m {f with outs:=fun p' j'=>if p'=p/\j'=j then y else f.outs p' j'}/\Un (fun b=>b=a.ub p) w w':=by
 subst q;have hU:Un (fun b=>b=a.ub p) w (w.setCell ⟨a.ub p,j,none⟩ (.int .u32 y)):=(Un.refl (fun b=>b=a.ub p) w).setCell (p:=⟨a.ub p,j,none⟩) rF _;have hu:∀b,b<w.heap.size->b=a.ub p->mutT T E E' b:=fun b _ e=>e▸Zvw _ (x.iub p hp);obtain⟨e1,e2,e3,e4,e5⟩:=x.d2 p hp;have hs:=x.ltS;have hi:=x.iub p hp;refine⟨x.un hU hu (Ne.symm e1) (Ne.symm e5),⟨h.nums.of_block (hU.block _ h.nums.lt (Ne.symm e2)),h.whs.of_block (hU.block _ h.whs.lt (Ne.symm e3)),h.map.block (hU.block _ h.map.lt (Ne.symm e4)),fun r hr=>(h.vecs r hr).un hU hu,fun p' hp'=>?_,h.slots.un hU oM hu,h.slotsL⟩,hU⟩;by_cases e:p'=p
 ·subst e;refine((h.outs p' hp').set j _).congr fun i hi=>?_;simp only[true_and];split<;>rfl
 ·refine((h.outs p' hp').of_block (hU.block _ (h.outs p' hp').lt fun q=>e (x.d3 _ _ hp' hp q))).congr fun i hi=>?_;simp only[e,false_and,if_false]
end
end Go.Proofs.YtbinohkcolcbfaaGreat
set_option maxRecDepth 100000
set_option maxHeartbeats 16000000
namespace Go.Proofs.YtbinohkcolcbfaaGreat
open Go.RowKit Go.Proofs.Tryz
set_option linter.unusedVariables false
set_option linter.unusedSimpArgs false
structure Good(c:Cd):Prop where
 len:∀p∈c.sign,1<=p.len/\p.len<=4096
 kind:∀p∈c.sign,mayP p=true
 regs:∀t∈c.regs,Zil t c.sign.length=true
 slots:∀s∈c.slots,Zjh s c.sign.length=true
 regsL:c.regs.length<=16384
 slotsL:c.slots.length<=4096
 listL:c.list.length<=32768
 signL:c.sign.length<=64
theorem Good.type{c:Cd}(h:Good c){t:Ty}(ht:t∈c.regs)(h3:t.kind=3):isPl t.par c.sign.length=true:=by
 have:=h.regs t ht;unfold Zil at this;rw[if_neg oM,if_pos h3]at this;exact this
theorem Good.slotT{c:Cd}(h:Good c){s:Sl}(hs:s∈c.slots)(h3:s.ty.kind=3):isPl s.ty.par c.sign.length=true:=by
 have:=h.slots s hs;unfold Zjh Zil at this;rw[if_neg oM,if_pos h3]at this;simp only[Bool.and_eq_true]at this;exact this.1
theorem Good.lenOf{c:Cd}(h:Good c)(p:Int):lenOf c p<=4096:=by
 unfold Proofs.YtbinohkcolcbfaaGreat.lenOf;cases hp:c.sign[p.toNat]? with
 |none=>simp
 |some q=>
  have:=h.len q (List.mem_of_getElem? hp);simp only[Option.map_some,Option.getD_some];omega
theorem Good.width{c:Cd}(h:Good c)(t:Ty):Zhy c t<=4096:=by
 unfold Zhy;split
 ·exact h.lenOf _
 ·split<;>omega
theorem Zwr{T:Nat->Prop}(a:Lay)(c:Cd)(hg:Good c)(t:Ty)(x:Int)(hx:IsP x)(w:World)(hc:CdT T w a c)(ht:t.kind=3->isPl t.par c.sign.length=true):
 Calls prog 33 #[.pointer (some ⟨a.C,0,none⟩),tyV t,.int .u32 x] w fun e w'=>∃g,e=.returned (.slice (some ⟨g,0,none⟩) (Zhy c t) (Zhy c t))/\w.heap.size<=g/\w'.rowIs g 43 (Zhy c t) (fun _=>.int .u32 (canon x))/\Below w.heap.size w w':=by
 have KW:∀v,Below w.heap.size w v->Calls prog 59 #[.pointer (some ⟨a.C,0,none⟩),tyV t] v fun e w'=>e=.returned (.int .i64 (Zhy c t))/\Below v.heap.size v w':=fun v hv=>Zyg a c t v (hc.below hv) ht fun p hp=>by have:=(hg.len p hp).1;omega
 have hN:=hg.width t;obtain⟨N,hN'⟩:∃N,Zhy c t=N:=⟨_,rfl⟩
 rw[hN']at KW hN ⊢;obtain⟨k,p⟩:=t;unfold tyV at KW ⊢;simp only at KW ⊢;have HK:Hid (∀v,Below w.heap.size w v->Calls prog 59 #[.pointer (some ⟨a.C,0,none⟩),.agg #[.int .i64 k,.int .i64 p]] v fun e w'=>e=.returned (.int .i64 (N:Int))/\Below v.heap.size v w'):=KW;clear KW hc ht hN' hg;go_enter func33,ntmps33;go_wp2_with(first
  |(go_at_call 59;refine(HK.out _ (Zhq _ _)).mono ?_;rintro e w1 ⟨rfl,hb1⟩)
  |(go_at_call 58;refine(Zaje N x hx oM _).mono ?_;rintro e w2 ⟨g,rfl,hg,hr,hb2⟩;have HR:Hid (w2.rowIs g 43 N (fun i=>.int .u32 (canon x))):=hr;clear hr))
 go_returns;exact⟨_,rfl,by have:=(Zhq w (.cells #[.int .i64 k,.int .i64 p] 69)).size;have:=hb1.size;omega,HR.out,bel (bel (Zhq _ _) hb1) hb2⟩
theorem Zyi{T:Nat->Prop}(a:Lay)(c:Cd)(hg:Good c)(s:Sl)(hs:IsP s.bits)(w:World)(hc:CdT T w a c)(ht:s.ty.kind=3->isPl s.ty.par c.sign.length=true):
 Calls prog 20 #[.pointer (some ⟨a.C,0,none⟩),slV s] w fun e w'=>∃g,e=.returned (.agg #[.slice (some ⟨g,0,none⟩) (Zhy c s.ty) (Zhy c s.ty),.int .i64 s.int_])/\w.heap.size<=g/\w'.rowIs g 43 (Zhy c s.ty) (fun _=>.int .u32 (canon s.bits))/\Below w.heap.size w w':=by
 have KF:∀v,Below w.heap.size w v->Calls prog 33 #[.pointer (some ⟨a.C,0,none⟩),tyV s.ty,.int .u32 s.bits] v fun e w'=>∃g,e=.returned (.slice (some ⟨g,0,none⟩) (Zhy c s.ty) (Zhy c s.ty))/\v.heap.size<=g/\w'.rowIs g 43 (Zhy c s.ty) (fun _=>.int .u32 (canon s.bits))/\Below v.heap.size v w':=fun v hv=>Zwr a c hg s.ty s.bits hs v (hc.below hv) ht;obtain⟨N,hN'⟩:∃N,Zhy c s.ty=N:=⟨_,rfl⟩
 rw[hN']at KF ⊢;obtain⟨⟨k,p⟩,kp,bt,it⟩:=s;unfold tyV at KF;unfold slV;simp only at KF ⊢;have HK:Hid (∀v,Below w.heap.size w v->Calls prog 33 #[.pointer (some ⟨a.C,0,none⟩),.agg #[.int .i64 k,.int .i64 p],.int .u32 bt] v fun e w'=>∃g,e=.returned (.slice (some ⟨g,0,none⟩) N N)/\v.heap.size<=g/\w'.rowIs g 43 N (fun _=>.int .u32 (canon bt))/\Below v.heap.size v w'):=KF;clear KF hc ht hN' hg hs;obtain⟨W1,hW1⟩:∃W1,(w.alloc (.cells #[.int .i64 k,.int .i64 p,.bool kp,.int .u32 bt,.int .i64 it] 72)).alloc (.cells #[.slice none 0 0,.int .i64 0] 78)=W1:=⟨_,rfl⟩
 have HW:Hid ((w.alloc (.cells #[.int .i64 k,.int .i64 p,.bool kp,.int .u32 bt,.int .i64 it] 72)).alloc (.cells #[.slice none 0 0,.int .i64 0] 78)=W1):=hW1;have HB0:Hid (Below w.heap.size w W1):=by rw[←hW1];exact bel (Zhq _ _) (Zhq _ _)
 have HC:Hid (∀v,Below W1.heap.size W1 v->v.cell? ⟨w.heap.size,0,none⟩=some (.int .i64 k)/\v.cell? ⟨w.heap.size,1,none⟩=some (.int .i64 p)/\v.cell? ⟨w.heap.size,3,none⟩=some (.int .u32 bt)/\v.cell? ⟨w.heap.size,4,none⟩=some (.int .i64 it)/\v.cell? ⟨w.heap.size+1,0,none⟩=some (.slice none 0 0)/\v.cell? ⟨w.heap.size+1,1,none⟩=some (.int .i64 0)/\v.frozen? ⟨w.heap.size+1,0,none⟩=false/\v.frozen? ⟨w.heap.size+1,1,none⟩=false):=by
  intro v hv;rw[←hW1]at hv;have h9:(w.alloc (.cells #[.int .i64 k,.int .i64 p,.bool kp,.int .u32 bt,.int .i64 it] 72)).heap.size=w.heap.size+1:=sM;refine⟨kc hv (kc (Zhq _ _) sG),kc hv (kc (Zhq _ _) sG),kc hv (kc (Zhq _ _) sG),kc hv (kc (Zhq _ _) sG),?_,?_,?_,?_⟩<;>rw[←h9]
  ·exact kc hv sG
  ·exact kc hv sG
  ·exact kf hv (v:=.slice none 0 0) sG sG
  ·exact kf hv (v:=.int .i64 0) sG sG
 obtain⟨x0,x1,x3,x4,z0,z1,q0,q1⟩:=HC.out W1 (bel0 _);go_enter func20,ntmps20;go_wp2;clear hW1;refine rG (fun v=>v.cell? ⟨w.heap.size,0,none⟩=some (.int .i64 k)/\v.cell? ⟨w.heap.size,1,none⟩=some (.int .i64 p)/\v.cell? ⟨w.heap.size,3,none⟩=some (.int .u32 bt)/\v.cell? ⟨w.heap.size,4,none⟩=some (.int .i64 it)) fun hHeld=>?_;refine Tf 0 1 2 3 4 6 ?_;refine tkT 7 ?_;clear hHeld;refine ry1 5 fun K hK=>?_;go_simp;(go_at_call 33;refine(HK.out _ (bel HB0.out (Zhs _))).mono ?_;rintro e w2 ⟨g,rfl,hg,hr,hb2⟩;have HR:Hid (w2.rowIs g 43 N (fun _=>.int .u32 (canon bt))):=hr;have HB2:Hid (Below W1.heap.size W1 w2):=bel (Zhs _) hb2;obtain⟨y0,y1,y3,y4,z0,z1,q0,q1⟩:=HC.out w2 HB2.out;clear hr);try(go_wp2_with fail)
 refine okK hK fun hHeld=>?_;clear hK K;refine tkT 8 ?_;clear hHeld;refine ry1 9 fun K hK=>?_;go_simp;refine okK hK fun hHeld=>?_;clear hK K;refine wpAnyH_done kR ?_ _;go_wp2;refine bodyPost_ret (by simp[results,results20,go_sem, *];try rfl) rfl ?_;have h8:W1.heap.size=w.heap.size+2:=by rw[←HW.out];simp
 have h7:w.heap.size+2<=g:=by have:=hg;simp at this;omega
 exact⟨_,rfl,oM,(HR.out.setOther sO _).setOther sO _,((bel HB0.out HB2.out).setCell sM _).setCell sM _⟩
theorem Zkb{l:List Ty}{r:Nat}(h:r<l.length):regT l (r:Int)=l[r]:=by
 unfold regT isPl;simp[h]
section
variable {T : Nat -> Prop} {E E' : Nat} {a : Lay} {c : Cd} {G P : List (List Int)} {w : World}
theorem FX.f0(h:FX T E E' a c G P w):w.cell? ⟨a.FR,0,none⟩=some (.pointer (some ⟨a.C,0,none⟩)):=h.fr.at 0 rfl
theorem FX.f1(h:FX T E E' a c G P w):w.cell? ⟨a.FR,1,none⟩=some (.slice a.sp c.slots.length a.sc):=h.fr.at 1 rfl
theorem FX.f2(h:FX T E E' a c G P w):w.cell? ⟨a.FR,2,none⟩=some (.slice (some ⟨a.NB,0,none⟩) c.regs.length c.regs.length):=h.fr.at 2 rfl
theorem FX.f3(h:FX T E E' a c G P w):w.cell? ⟨a.FR,3,none⟩=some (.slice (some ⟨a.WB,0,none⟩) c.regs.length c.regs.length):=h.fr.at 3 rfl
theorem FX.f4(h:FX T E E' a c G P w):w.cell? ⟨a.FR,4,none⟩=some (.map (some a.MB)):=h.fr.at 4 rfl
theorem FX.f5(h:FX T E E' a c G P w):w.cell? ⟨a.FR,5,none⟩=some a.gv:=h.fr.at 5 rfl
theorem FX.f6(h:FX T E E' a c G P w):w.cell? ⟨a.FR,6,none⟩=some a.pv:=h.fr.at 6 rfl
theorem FX.f7(h:FX T E E' a c G P w):w.cell? ⟨a.FR,7,none⟩=some (.slice (some ⟨a.UB,0,none⟩) c.sign.length c.sign.length):=h.fr.at 7 rfl
theorem CdT.reg{U:Nat->Prop}(h:CdT U w a c){r:Nat}(hr:r<c.regs.length):∃b o m,a.v1=.slice (some ⟨b,o,none⟩) c.regs.length m/\w.cell? ⟨b,o+r*2,none⟩=some (.int .i64 c.regs[r].kind)/\w.cell? ⟨b,o+r*2+1,none⟩=some (.int .i64 c.regs[r].par):=by
 obtain⟨q,m,hv,hh⟩:=h.regs;rcases hh with e|⟨b,o,rfl,_,_,hh⟩
 ·rw[e]at hr;exact absurd hr (Nat.not_lt_zero _)
 ·exact⟨b,o,m,hv,(hh r hr).at 0 rfl,(hh r hr).at 1 rfl⟩
theorem CdT.par{U:Nat->Prop}(h:CdT U w a c){r:Nat}(hr:r<c.sign.length):∃b o m,a.v0=.slice (some ⟨b,o,none⟩) c.sign.length m/\w.cell? ⟨b,o+r*3+1,none⟩=some (.int .i64 c.sign[r].kind)/\w.cell? ⟨b,o+r*3+2,none⟩=some (.int .i64 c.sign[r].len):=by
 obtain⟨q,m,hv,hh⟩:=h.sign;rcases hh with e|⟨b,o,rfl,_,_,hh⟩
 ·rw[e]at hr;exact absurd hr (Nat.not_lt_zero _)
 ·exact⟨b,o,m,hv,(hh r hr).at 1 rfl,(hh r hr).at 2 rfl⟩
theorem CdT.c0{U:Nat->Prop}(h:CdT U w a c):w.cell? ⟨a.C,0,none⟩=some a.v0:=h.cells.at 0 rfl
theorem CdT.c1{U:Nat->Prop}(h:CdT U w a c):w.cell? ⟨a.C,1,none⟩=some a.v1:=h.cells.at 1 rfl
end
theorem Zzv{T:Nat->Prop}{E E':Nat}{a:Lay}{c:Cd}{G P:List (List Int)}(w:World)(x:FX T E E' a c G P w)(hg:Good c)(p:Nat)(hp:p<c.sign.length):
 Calls prog 117 #[.pointer (some ⟨a.FR,0,none⟩),.int .i64 p] w fun e w'=>e=.returned (.int .i64 (Zia c p))/\w'=w:=by
 have f0:=x.f0;have c0:=x.code.c0;obtain⟨b,o,m,hv,k1,_⟩:=x.code.par hp;rw[hv]at c0;have hN:=hg.signL;have hk:Zia c (p:Int)=if c.sign[p].kind=2 then 2 else 1:=by
  unfold Zia Zkv;simp[hp]
 rw[hk];obtain⟨K,hK⟩:∃K,c.sign[p].kind=K:=⟨_,rfl⟩
 obtain⟨N,hN'⟩:∃N,c.sign.length=N:=⟨_,rfl⟩
 obtain⟨C,hC⟩:∃C,a.C=C:=⟨_,rfl⟩
 obtain⟨FR,hFR⟩:∃FR,a.FR=FR:=⟨_,rfl⟩
 rw[hK]at k1 ⊢;rw[hN']at c0 hN hp;rw[hC]at f0 c0;rw[hFR]at f0 ⊢;clear hk hK hN' hC hFR hv x hg;by_cases h2:K=2
 ·subst h2;go_enter func117,ntmps117;go_wp2;go_ret;exact⟨rfl,rfl⟩
 ·have e2:(K==2)=false:=by simpa using h2
  rw[if_neg h2];go_enter func117,ntmps117;go_wp2;go_ret;exact⟨rfl,rfl⟩
end Go.Proofs.YtbinohkcolcbfaaGreat
namespace Go.Proofs.YtbinohkcolcbfaaGreat
open Go.RowKit Go.Proofs.Tryz
set_option linter.unusedVariables false
set_option linter.unusedSimpArgs false
set_option maxRecDepth 100000
set_option maxHeartbeats 16000000
theorem FX.fresh{T:Nat->Prop}{E E':Nat}{a:Lay}{c:Cd}{G P:List (List Int)}{w:World}(x:FX T E E' a c G P w){g:Nat}(h:w.heap.size<=g):¬mutT T E E' g:=by
 intro k;have h1:=x.hE;have h2:=x.hE';rcases k with k|k
 ·have:=x.hT _ k;omega
 ·omega
theorem Zym(U:Nat->Prop){T:Nat->Prop}{E E':Nat}{a:Lay}{c:Cd}{G P:List (List Int)}{X:Nat->Value}{M:Nat}{m:Nat->Option Value}{f:Fr}(w:World)(x:FX T E E' a c G P w)(h:FV T E E' a c w X M m f)(hg:Good c)(r:Nat)(hr:r<c.regs.length)(hU:Pt U w ((m r).getD (.slice none 0 0)) (f.vecs r))(hfr:¬U (w.heap.size+1)):
 Calls prog 75 #[.pointer (some ⟨a.FR,0,none⟩),.int .i64 r] w fun e w'=>∃v,e=.returned (.agg #[v,.int .i64 (rdP c f r).whole])/\Pt U w' v (rdP c f r).pats/\Below w.heap.size w w':=by
 have HX:Hid (FX T E E' a c G P w):=x;have f0:=x.f0;have f2:=x.f2;have f3:=x.f3;have f4:=x.f4;have c1:=x.code.c1;obtain⟨b,o,mm,hv,k0,_⟩:=x.code.reg hr;rw[hv]at c1;have hN:=hg.regsL;have hn:=h.nums.cell hr;have hw:=h.whs.cell hr;have hm:=h.map;have hp:=hU;unfold rdP;rw[Zkb hr,Int.toNat_natCast];have HP:Hid (Pt U w ((m r).getD (.slice none 0 0)) (f.vecs r)):=hp;obtain⟨q1,q2,hq⟩:=hp.len;have HQ:Hid ((m r).getD (.slice none 0 0)=.slice q1 (f.vecs r).length q2):=hq;have HLK:Hid (∀v,Below w.heap.size w v->(Instr.lookup 92 (.map (some a.MB)) (.int .i64 (r:Int)) false).run prog v=.ok (.slice q1 (f.vecs r).length q2) v):=by
  intro v hv;rw[←hq];exact(hm.below hv).look1 underlying92 (Tryz.zeroValue57 v) oM
 obtain⟨K,hK⟩:∃K,c.regs[r].kind=K:=⟨_,rfl⟩
 obtain⟨N,hN'⟩:∃N,c.regs.length=N:=⟨_,rfl⟩
 obtain⟨L,hL⟩:∃L,(f.vecs r).length=L:=⟨_,rfl⟩
 rw[hK]at k0 ⊢;rw[hN']at c1 hN f2 f3 hr;rw[hL]at HLK HQ;have HL:Hid ((f.vecs r).length=L):=hL;have HF:Hid (¬U (w.heap.size+1)):=hfr;clear hK hN' hv hg hm h x hp hq hL HX hU hfr;obtain⟨⟨C,S,FR,NB,WB,MB,UB,KK,ub,sp,sc,v0,v1,v2,v3,gv,pv⟩,ha⟩:∃a',a'=a:=⟨a,rfl⟩
 subst ha;simp only at *;obtain⟨W1,hW1⟩:∃W1,w.alloc (.cells #[.slice none 0 0,.int .i64 0] 78)=W1:=⟨_,rfl⟩
 have HW1:Hid (w.alloc (.cells #[.slice none 0 0,.int .i64 0] 78)=W1):=hW1;have hb1:Below w.heap.size w W1:=by rw[←hW1];exact Zhq _ _
 have HB1:Hid (Below w.heap.size w W1):=hb1;have g0:=kc hb1 f0;have g1:=kc hb1 c1;have g2:=kc hb1 k0;have z0:W1.cell? ⟨w.heap.size,0,none⟩=some (.slice none 0 0):=by rw[←hW1];simp[go_sem]
 have z1:W1.cell? ⟨w.heap.size,1,none⟩=some (.int .i64 0):=by rw[←hW1];simp[go_sem]
 have q0:W1.frozen? ⟨w.heap.size,0,none⟩=false:=by rw[←hW1];simp[go_sem]
 have q1':W1.frozen? ⟨w.heap.size,1,none⟩=false:=by rw[←hW1];simp[go_sem]
 by_cases h1:K=1
 ·subst h1;have g3:=kc hb1 f2;have g4:=kc hb1 hn;have hs1:W1.heap.size=w.heap.size+1:=by rw[←hW1];simp
  obtain⟨W2,hW2⟩:∃W2,W1.alloc (.cells #[.int .u32 (f.nums r)] 43)=W2:=⟨_,rfl⟩
  have HW2:Hid (W1.alloc (.cells #[.int .u32 (f.nums r)] 43)=W2):=hW2;have hb2:Below W1.heap.size W1 W2:=by rw[←hW2];exact Zhq _ _
  have y0:=kc hb2 z0;have y1:=kc hb2 z1;have p0:=kf hb2 z0 q0;have p1:=kf hb2 z1 q1';have HR2:Hid (W2.rowIs (w.heap.size+1) 43 1 (fun _=>.int .u32 (f.nums r))):=by
   rw[←hW2,←hs1];exact World.rowIs_alloc W1 #[.int .u32 (f.nums r)] 43 (fun _=>.int .u32 (f.nums r)) (fun i hi=>by have h0:i=0:=(by simpa using hi);subst h0;rfl)
  have HB2:Hid (Below w.heap.size w W2):=bel hb1 hb2;have HS1:Hid (W1.heap.size=w.heap.size+1):=hs1;clear f0 f2 f3 f4 c1 k0 hn hw hb1 hb2 hs1;go_enter func75,ntmps75;go_wp2;refine bodyPost_ret Zgp rfl ?_;rw[HS1.out];exact⟨_,rfl,Pt.of_row ((HR2.out.setOther sM _).setOther sM _) HF.out rfl (fun j hj=>by have h0:j=0:=oM;subst h0;rfl) 1,(HB2.out.setCell sM _).setCell sM _⟩
 ·have e1:(K==1)=false:=by simpa using h1
  rw[if_neg h1];by_cases h2:K=2
  ·subst h2;have g3:=kc hb1 f3;have g4:=kc hb1 hw;clear f0 f2 f3 f4 c1 k0 hn hw hb1;go_enter func75,ntmps75;go_wp2;refine bodyPost_ret Zgp rfl ?_;exact⟨_,rfl,Pt.nil _ _ _ _,(HB1.out.setCell sM _).setCell sM _⟩
  ·have e2:(K==2)=false:=by simpa using h2
   rw[if_neg h2];have g3:=kc hb1 f4;have g4:=HLK.out _ hb1;clear f0 f2 f3 f4 c1 k0 hn hw hb1;go_enter func75,ntmps75;go_wp2;refine bodyPost_ret Zgp rfl ?_;have HB2:=(HB1.out.setCell (p:=⟨w.heap.size,0,none⟩) sM (.slice q1 L q2)).setCell (p:=⟨w.heap.size,1,none⟩) sM (.int .i64 0);exact⟨_,rfl,by have:=HP.out.below HB2;rw[HQ.out]at this;exact this,HB2⟩
theorem Zajz{T:Nat->Prop}{E E':Nat}{a:Lay}{c:Cd}{G P:List (List Int)}{X:Nat->Value}{M:Nat}{m:Nat->Option Value}{f:Fr}(w:World)(x:FX T E E' a c G P w)(h:FV T E E' a c w X M m f)(hg:Good c)(r:Nat)(hr:r<c.regs.length):
 Calls prog 75 #[.pointer (some ⟨a.FR,0,none⟩),.int .i64 r] w fun e w'=>∃v,e=.returned (.agg #[v,.int .i64 (rdP c f r).whole])/\Pt (mutT T E E') w' v (rdP c f r).pats/\Below w.heap.size w w':=
 Zym (mutT T E E') w x h hg r hr (h.vecs r hr) (x.fresh oM)
def midT(T:Nat->Prop)(A B:Nat):Nat->Prop:=fun b=>T b\/(A<=b/\b<B)
theorem Zaov{T:Nat->Prop}{E E':Nat}{a:Lay}{c:Cd}{G P:List (List Int)}{X:Nat->Value}{M:Nat}{m:Nat->Option Value}{f:Fr}(w0 w:World)(x:FX T E E' a c G P w0)(h:FV T E E' a c w0 X M m f)(hg:Good c)(hb:Below w0.heap.size w0 w)(r:Nat)(hr:r<c.regs.length):
 Calls prog 75 #[.pointer (some ⟨a.FR,0,none⟩),.int .i64 r] w fun e w'=>∃v,e=.returned (.agg #[v,.int .i64 (rdP c f r).whole])/\Pt (midT (mutT T E E') w0.heap.size w.heap.size) w' v (rdP c f r).pats/\Below w.heap.size w w':=
 Zym (midT (mutT T E E') w0.heap.size w.heap.size) w (x.below hb) (h.below hb) hg r hr
  (((h.vecs r hr).mono (U:=midT (mutT T E E') w0.heap.size w.heap.size) fun b hb2 e=>e.elim id fun k=>by omega).below hb)
  (fun e=>e.elim ((x.below hb).fresh oM) fun k=>by omega)
end Go.Proofs.YtbinohkcolcbfaaGreat
set_option maxRecDepth 100000
set_option maxHeartbeats 16000000
namespace Go.Proofs.YtbinohkcolcbfaaGreat
open Go.RowKit Go.Proofs.Tryz
set_option linter.unusedVariables false
set_option linter.unusedSimpArgs false
def Zsv(a:Lay)(E E':Nat):Nat->Prop:=fun b=>b=a.S\/(E<=b/\b<E')
theorem Zvc{a:Lay}{E E' B:Nat}(h:E<=B/\B<E'):∀b,b=B->Zsv a E E' b:=fun b e=>.inr (e▸h)
theorem Zht(w:World):Below w.heap.size w w.drew:=(Below.refl _ _).drew
def Zhv(T:Nat->Prop)(E E':Nat)(a:Lay)(c:Cd)(G P:List (List Int))(M:Nat)(f:Fr)(w w':World):Prop:=
 FX T E E' a c G P w'/\(∃X M' m,M'<=M+1/\FV T E E' a c w' X M' m f)/\Un (Zsv a E E') w w'
section
variable {T : Nat -> Prop} {E E' : Nat} {a : Lay} {c : Cd} {G P : List (List Int)} {X : Nat -> Value} {M : Nat} {m : Nat -> Option Value} {f : Fr} {w w1 w2 : World}
theorem Zhv.on(h:Zhv T E E' a c G P M f w w1)(k:Below w1.heap.size w1 w2):Zhv T E E' a c G P M f w w2:=by
 obtain⟨h1,⟨X,M',m,h2,h3⟩,h4⟩:=h;exact⟨h1.below k,⟨X,M',m,h2,h3.below k⟩,h4.on k⟩
theorem Zhv.same(x:FX T E E' a c G P w)(h:FV T E E' a c w X M m f)(k:Below w.heap.size w w1):Zhv T E E' a c G P M f w w1:=
 ⟨x.below k,⟨X,M,m,oM,h.below k⟩,Un.of k⟩
theorem Zhv.pre(k:Below w.heap.size w w1)(h:Zhv T E E' a c G P M f w1 w2):Zhv T E E' a c G P M f w w2:=by
 obtain⟨h1,h2,h4⟩:=h;exact⟨h1,h2,(Un.of k).trans h4⟩
theorem Zhv.num(x:FX T E E' a c G P w1)(h:FV T E E' a c w1 X M m f){d:Nat}(hd:d<c.regs.length)(y:Int):Zhv T E E' a c G P M {f with nums:=putN f.nums d y} w1 (w1.setCell ⟨a.NB,d,none⟩ (.int .u32 y)):=by
 obtain⟨h1,h2,h3⟩:=FV.num x h hd y rfl;exact⟨h1,⟨X,M,m,oM,h2⟩,h3.mono (Zvc x.iNB)⟩
theorem Zhv.wh(x:FX T E E' a c G P w1)(h:FV T E E' a c w1 X M m f){d:Nat}(hd:d<c.regs.length)(y:Int):Zhv T E E' a c G P M {f with whs:=putN f.whs d y} w1 (w1.setCell ⟨a.WB,d,none⟩ (.int .i64 y)):=by
 obtain⟨h1,h2,h3⟩:=FV.wh x h hd y rfl;exact⟨h1,⟨X,M,m,oM,h2⟩,h3.mono (Zvc x.iWB)⟩
theorem Zhv.vec(x:FX T E E' a c G P w1)(h:FV T E E' a c w1 X M m f){d:Nat}(hd:d<c.regs.length){v:Value}{l:List Int}(hv:Pt (mutT T E E') w1 v l)(hm:MapI w2 a.MB (M+1) (updI m d v))(hg:w1.grownBy w2 (some a.MB)):Zhv T E E' a c G P M {f with vecs:=putN f.vecs d l} w1 w2:=by
 obtain⟨h1,h2,h3⟩:=FV.vec x h hd hv hm hg;exact⟨h1,⟨X,M+1,_,oM,h2⟩,h3.mono (Zvc x.iMB)⟩
theorem Zhv.slot(x:FX T E E' a c G P w1)(h:FV T E E' a c w1 X M m f){d:Nat}(hd:d<f.slots.length){v:Value}{hh:Hd}(hv:Pt (mutT T E E') w1 v hh.pats):Zhv T E E' a c G P M {f with slots:=f.slots.set d hh} w1 ((w1.setCell ⟨a.S,d*2,none⟩ v).setCell ⟨a.S,d*2+1,none⟩ (.int .i64 hh.whole)):=by
 obtain⟨h1,⟨X',h2⟩,h3⟩:=FV.slot x h hd hv rfl;exact⟨h1,⟨X',M,_,oM,h2⟩,h3.mono fun b e=>.inl e⟩
end
theorem Zahy{T:Nat->Prop}{w:World}{q:Option Addr}{L cap:Nat}{y:Int}{l:List Int}(h:Pt T w (.slice q L cap) (y::l)):∃vb vo,q=some ⟨vb,vo,none⟩/\¬T vb/\w.cell? ⟨vb,vo,none⟩=some (.int .u32 y)/\0<L:=by
 obtain⟨q',c',e,hl⟩:=h;simp only[Value.slice.injEq]at e;obtain⟨rfl,hL,rfl⟩:=e;rcases hl with hl|⟨vb,vo,rfl,hn,_,hl⟩
 ·cases hl
 ·refine⟨vb,vo,rfl,hn,?_,by rw[hL];simp⟩;have:=(hl 0 sM).at 0 (v:=.int .u32 y) rfl;simpa using this
theorem Zaeb{T:Nat->Prop}{E E':Nat}{a:Lay}{c:Cd}{G P:List (List Int)}{X:Nat->Value}{M:Nat}{m:Nat->Option Value}{f:Fr}(w:World)(x:FX T E E' a c G P w)(h:FV T E E' a c w X M m f)(hg:Good c)(r:Nat)(hr:r<c.regs.length)(hM:M<=1000000)
 (q:Option Addr) (L cap:Nat) (hh:Hd) (hv:Pt (mutT T E E') w (.slice q L cap) hh.pats) (h1:c.regs[r].kind=1->hh.pats≠[]):
 Calls prog 74 #[.pointer (some ⟨a.FR,0,none⟩),.int .i64 r,.agg #[.slice q L cap,.int .i64 hh.whole]] w fun e w'=>e=.returned (.tuple #[])/\Zhv T E E' a c G P M (stP c f r hh) w w':=by
 obtain⟨W1,hW1⟩:∃W1,w.alloc (.cells #[.slice q L cap,.int .i64 hh.whole] 78)=W1:=⟨_,rfl⟩
 have hb1:Below w.heap.size w W1:=by rw[←hW1];exact Zhq _ _
 have HX1:Hid (FX T E E' a c G P W1):=x.below hb1;have HV1:Hid (FV T E E' a c W1 X M m f):=h.below hb1;have HP1:Hid (Pt (mutT T E E') W1 (.slice q L cap) hh.pats):=hv.below hb1;have HS:Hid (E'<=w.heap.size):=x.hE';have z0:W1.cell? ⟨w.heap.size,0,none⟩=some (.slice q L cap):=by rw[←hW1];simp[go_sem]
 have z1:W1.cell? ⟨w.heap.size,1,none⟩=some (.int .i64 hh.whole):=by rw[←hW1];simp[go_sem]
 have HB1:Hid (Below w.heap.size w W1):=hb1;have f0:=HX1.out.f0;have c1:=HX1.out.code.c1;obtain⟨b,o,mm,hv1,k0,-⟩:=HX1.out.code.reg hr;rw[hv1]at c1;have hN:=hg.regsL;have HE:Hid (stP c f r hh=if c.regs[r].kind=1 then{f with nums:=putN f.nums r (hh.pats.headD 0)}else if c.regs[r].kind=2 then{f with whs:=putN f.whs r hh.whole}else{f with vecs:=putN f.vecs r hh.pats}):=by
  show stP c f r hh=_;unfold stP;rw[Zkb hr,Int.toNat_natCast]
 obtain⟨F,hF⟩:∃F,stP c f r hh=F:=⟨_,rfl⟩
 rw[hF]at HE ⊢;have H1:Hid (c.regs[r].kind=1->hh.pats≠[]):=h1;obtain⟨K,hK⟩:∃K,c.regs[r].kind=K:=⟨_,rfl⟩
 obtain⟨N,hN'⟩:∃N,c.regs.length=N:=⟨_,rfl⟩
 rw[hK]at k0 H1 HE;rw[hN']at c1 hN;have hrN:r<N:=oM;have HR:Hid (r<c.regs.length):=hr;obtain⟨C,hC⟩:∃C,a.C=C:=⟨_,rfl⟩
 obtain⟨FR,hFR⟩:∃FR,a.FR=FR:=⟨_,rfl⟩
 rw[hC]at c1 f0;rw[hFR]at f0 ⊢;have HA:Hid (a.FR=FR):=hFR;have HN:Hid (c.regs.length=N):=hN';clear hK hN' hv1 hg h x hv h1 hr hb1 hC hFR hF;by_cases h1:K=1
 ·subst h1;have f2:=HX1.out.f2;rw[HN.out,HA.out]at f2;have q0:=HV1.out.nums.frozen r;have q1:=HV1.out.nums.cell HR.out;obtain⟨NB,hNB⟩:∃NB,a.NB=NB:=⟨_,rfl⟩
  rw[hNB]at f2 q0 q1;have HNB:Hid (a.NB=NB):=hNB;obtain⟨y,l,hy⟩:∃y l,hh.pats=y::l:=by
   cases e:hh.pats with
   |nil=>exact absurd e (H1.out rfl)
   |cons y l=>exact⟨y,l,rfl⟩
  have HY:Hid (hh.pats=y::l):=hy;have hl:=HP1.out;rw[hy]at hl;obtain⟨vb,vo,rfl,hnv,y0,hL1⟩:=Zahy hl;have n1:FR≠NB:=by rw[←HA.out,←HNB.out];exact HX1.out.d1.1
  have n2:w.heap.size≠NB:=by
   have i1:=HX1.out.iNB;rw[HNB.out]at i1;have:=(HS.out:E'<=w.heap.size)
   omega
  have n3:vb≠NB:=fun e=>hnv (by rw[e,←HNB.out];exact .inr HX1.out.iNB);have n1':=Ne.symm n1;have n2':=Ne.symm n2;have n3':=Ne.symm n3;have e1:(0:Int)<(L:Int):=oM;clear hl hy hNB hnv;go_enter func74,ntmps74;go_wp2;clear hW1;refine rG (fun v=>v.cell? ⟨FR,2,none⟩=some (.slice (some ⟨NB,0,none⟩) N N)/\v.cell? ⟨w.heap.size,0,none⟩=some (.slice (some ⟨vb,vo,none⟩) L cap)/\v.cell? ⟨vb,vo,none⟩=some (.int .u32 y)) fun hHeld=>?_;refine Tf 0 1 2 3 4 5 ?_;refine Tc 6 7 8 ?_;refine tkT 9 ?_;clear hHeld;refine ry1 10 fun K hK=>?_;go_simp;refine okK hK fun hHeld=>?_;clear hK K;refine wpAnyH_done kR ?_ _;go_wp2
  go_end0
  have hfin:=(Zhv.num HX1.out HV1.out HR.out y).pre HB1.out;rw[HNB.out]at hfin;have e9:=HE.out;simp only[if_true]at e9;rw[HY.out]at e9;rw[e9];exact⟨rfl,hfin.on (Zht _)⟩
 ·have e1:(K==1)=false:=by simpa using h1
  by_cases h2:K=2
  ·subst h2;have f3:=HX1.out.f3;rw[HN.out,HA.out]at f3;have q0:=HV1.out.whs.frozen r;have q1:=HV1.out.whs.cell HR.out;obtain⟨WB,hWB⟩:∃WB,a.WB=WB:=⟨_,rfl⟩
   rw[hWB]at f3 q0 q1;have HWB:Hid (a.WB=WB):=hWB;have n1:WB≠FR:=by rw[←HA.out,←HWB.out];exact Ne.symm HX1.out.d1.2.1
   have n2:WB≠w.heap.size:=by
    have i1:=HX1.out.iWB;rw[HWB.out]at i1;have:=(HS.out:E'<=w.heap.size)
    omega
   clear hWB h1;obtain⟨hw,hhw⟩:∃hw,hh.whole=hw:=⟨_,rfl⟩
   have HHW:Hid (hh.whole=hw):=hhw;rw[hhw]at z1 hW1 ⊢;clear hhw;go_enter func74,ntmps74;go_wp2;clear hW1;refine rG (fun v=>v.cell? ⟨FR,3,none⟩=some (.slice (some ⟨WB,0,none⟩) N N)/\v.cell? ⟨w.heap.size,1,none⟩=some (.int .i64 hw)) fun hHeld=>?_;refine Tf 0 1 2 3 4 5 ?_;refine Tb 6 7 ?_;clear hHeld;refine ry1 8 fun K hK=>?_;go_simp;refine okK hK fun hHeld=>?_;clear hK K;refine wpAnyH_done kR ?_ _;go_wp2
   go_end0
   have hfin:=(Zhv.wh HX1.out HV1.out HR.out hw).pre HB1.out;rw[HWB.out]at hfin;have e9:=HE.out;rw[if_neg dE]at e9;simp only[if_true]at e9;rw[HHW.out]at e9;rw[e9];exact⟨rfl,hfin.on (Zht _)⟩
  ·have e2:(K==2)=false:=by simpa using h2
   have f4:=HX1.out.f4;rw[HA.out]at f4;have HX2:=HX1.out.below (Zht _);have HV2:=HV1.out.below (Zht _);obtain⟨w2,hrun,hm2,hg2⟩:=HV2.map.put mL underlying92 (k:=r) oM (.slice q L cap);obtain⟨MB,hMB⟩:∃MB,a.MB=MB:=⟨_,rfl⟩
   have hfin:=(Zhv.vec HX2 HV2 HR.out (HP1.out.below (Zht _)) hm2 hg2).pre (bel HB1.out (Zht _));have r4:=HX2.f4;have r0:w2.cell? ⟨FR,4,none⟩=some (.map (some MB)):=by
    have:=hfin.1.f4;rw[HA.out,hMB]at this;exact this
   have r1:w2.cell? ⟨w.heap.size,0,none⟩=some (.slice q L cap):=by
    refine(World.cell?_of_block (hg2.block _ ?_ ?_)).trans z0
    ·have:=Zhr z0;exact this
    ·intro e;have i1:=HX1.out.iMB;have:=(HS.out:E'<=w.heap.size)
     simp at e;omega
   rw[hMB]at f4 hrun hm2 hg2;have e9:=HE.out;rw[if_neg h1,if_neg h2]at e9;rw[←e9]at hfin;have HFIN:Hid (Zhv T E E' a c G P M F w w2):=hfin;clear hfin e9 hMB hm2 hg2 HX2 HV2 r4 h1 h2;go_enter func74,ntmps74;go_wp2;clear hW1;refine rG (fun v=>v.cell? ⟨FR,4,none⟩=some (.map (some MB))/\v.cell? ⟨w.heap.size,0,none⟩=some (.slice q L cap)) fun hHeld=>?_;refine Tf 0 1 2 3 4 5 ?_;refine tkT 6 ?_;clear hHeld;refine ry1 7 fun K hK=>?_;go_simp;refine okK hK fun hHeld=>?_;clear hK K;refine wpAnyH_done kR ?_ _;go_wp2
   go_end0
   exact⟨rfl,HFIN.out⟩
end Go.Proofs.YtbinohkcolcbfaaGreat
namespace Go.Proofs.YtbinohkcolcbfaaGreat
open Go.RowKit Go.Proofs.Tryz
set_option linter.unusedVariables false
set_option linter.unusedSimpArgs false
set_option maxRecDepth 100000
set_option maxHeartbeats 16000000
theorem Zaoe(a b:Int)(ha:0<=a/\a<=2147483647)(hb:0<=b/\b<=2147483647)(w:World):Calls prog 116 #[.int .i64 a,.int .i64 b] w fun e w'=>e=.returned (.int .i64 (if b=0 then 0 else a/b))/\w'=w:=by
 by_cases h:b=0
 ·subst h;go_enter func116,ntmps116;go_wp2;go_ret;exact⟨rfl,rfl⟩
 ·have h2:(b==0)=false:=by simpa using h
  rw[if_neg h];have hq:a.tdiv b=a/b:=Int.tdiv_eq_ediv_of_nonneg ha.1;have hr:0<=a/b:=Int.ediv_nonneg ha.1 hb.1;have hr2:a/b<=a:=Int.ediv_le_self _ ha.1;have hw:IntKind.i64.wrap (a.tdiv b)=a/b:=by rw[hq,IntKind.wrap_i64];omega
  go_enter func116,ntmps116;go_wp2;go_ret;exact⟨by first|rfl|(rw[hw])|(simp only[hw])|(simp[hw]),rfl⟩
def HdOK(c:Cd)(t:Ty)(h:Hd):Prop:=h.pats.length=Zhy c t/\(∀y∈h.pats,IsP y)/\0<=h.whole/\h.whole<=2147483647
structure OkF(c:Cd)(f:Fr):Prop where
 nums:∀r,IsP (f.nums r)
 whs:∀r,0<=f.whs r/\f.whs r<=2147483647
 vecs:∀r,∀y∈f.vecs r,IsP y
 vecsL:∀r,(f.vecs r).length<=4096
 slotsL:f.slots.length=c.slots.length
 slots:∀j (h:j<c.slots.length) (h':j<f.slots.length),HdOK c c.slots[j].ty f.slots[j]
theorem Zke{l:List Int}(h:∀y∈l,IsP y)(j:Nat):IsP (atL l j):=by
 unfold atL;cases e:l[j]? with
 |none=>exact Zpv
 |some y=>exact h y (List.mem_of_getElem? e)
theorem FV.look{T:Nat->Prop}{E E':Nat}{a:Lay}{c:Cd}{w:World}{X:Nat->Value}{M:Nat}{m:Nat->Option Value}{f:Fr}(h:FV T E E' a c w X M m f){r:Nat}(hr:r<c.regs.length)(hn:c.regs.length<=16384):
 ∃q1 q2,(m r).getD (.slice none 0 0)=.slice q1 (f.vecs r).length q2/\Zio w q1 (f.vecs r).length (fun j=>.int .u32 (atL (f.vecs r) j))/\∀v,Below w.heap.size w v->(Instr.lookup 92 (.map (some a.MB)) (.int .i64 (r:Int)) false).run prog v=.ok (.slice q1 (f.vecs r).length q2) v:=by
 have hp:=h.vecs r hr;obtain⟨q1,q2,hq⟩:=hp.len;refine⟨q1,q2,hq,?_,fun v hv=>?_⟩
 ·rw[hq]at hp;exact hp.reads.2
 ·rw[←hq];exact(h.map.below hv).look1 underlying92 (Tryz.zeroValue57 v) oM
theorem Zaiw{T:Nat->Prop}{E E':Nat}{a:Lay}{c:Cd}{G P:List (List Int)}{X:Nat->Value}{M:Nat}{m:Nat->Option Value}{f:Fr}(w:World)(x:FX T E E' a c G P w)(h:FV T E E' a c w X M m f)(hg:Good c)(ok:OkF c f)(ib io:Nat)(i:Ins)(hi:Zhw w ib io (inC i))
 (hop:Zlx i.op=true) (ha:i.op≠1->0<=i.a/\i.a<(c.regs.length:Int)) (hb:i.op=16->0<=i.b/\i.b<(c.regs.length:Int)):
 Calls prog 70 #[.pointer (some ⟨a.FR,0,none⟩),.pointer (some ⟨ib,io,none⟩)] w fun e w'=>e=.returned (.int .u32 (numI f i))/\Below w.heap.size w w':=by
 have i0:=hi.at 0 rfl;rw[Nat.add_zero]at i0;have i2:=hi.at 2 rfl;have i3:=hi.at 3 rfl;have i6:=hi.at 6 rfl;have f2:=x.f2;have f3:=x.f3;have f4:=x.f4;have hN:=hg.regsL;obtain⟨op,D,A,B,Ec,nn,bt⟩:=i;simp only at i0 i2 i3 i6 hop ha hb;unfold Zlx at hop;simp only[Bool.or_eq_true,beq_iff_eq]at hop;have hop':op=1\/op=16\/op=17\/op=19\/op=20:=oM;clear hop hi;obtain⟨N,hN'⟩:∃N,c.regs.length=N:=⟨_,rfl⟩
 have HN:Hid (c.regs.length=N):=hN';rw[hN']at f2 f3 hN ha hb;clear hN';rcases hop' with rfl|rfl|rfl|rfl|rfl
 ·rw[show numI f ⟨1,D,A,B,Ec,nn,bt⟩=bt from rfl];clear ha hb f2 f3 f4 x h i2 i3 hg ok;go_enter func70,ntmps70;go_wp2;go_ret;exact⟨rfl,bel0 _⟩
 ·obtain⟨a0,a1⟩:=ha dE;obtain⟨b0,b1⟩:=hb rfl;obtain⟨A,rfl⟩:∃j:Nat,A=(j:Int):=⟨A.toNat,oM⟩
  obtain⟨B,rfl⟩:∃j:Nat,B=(j:Int):=⟨B.toNat,oM⟩
  have k1:=h.nums.cell (i:=A) Zhi;have k2:=h.whs.cell (i:=B) Zhi;have p1:=ok.nums A;have p2:=ok.whs B;rw[show numI f ⟨16,D,(A:Int),(B:Int),Ec,nn,bt⟩=fpow (f.nums A) (f.whs B)from rfl];obtain⟨y1,hy1⟩:∃y1,f.nums A=y1:=⟨_,rfl⟩
  obtain⟨y2,hy2⟩:∃y2,f.whs B=y2:=⟨_,rfl⟩
  obtain⟨FR,hFR⟩:∃FR,a.FR=FR:=⟨_,rfl⟩
  obtain⟨NB,hNB⟩:∃NB,a.NB=NB:=⟨_,rfl⟩
  obtain⟨WB,hWB⟩:∃WB,a.WB=WB:=⟨_,rfl⟩
  rw[hy1]at k1 p1 ⊢;rw[hy2]at k2 p2 ⊢;rw[hFR]at f2 f3 ⊢;rw[hNB]at f2 k1;rw[hWB]at f3 k2;have HP:Hid (IsP y1):=p1;clear ha hb f4 x h i6 hg ok hy1 hy2 hFR hNB hWB p1;go_enter func70,ntmps70;go_wp2;refine rG (fun v=>v.cell? ⟨FR,2,none⟩=some (.slice (some ⟨NB,0,none⟩) N N)/\v.cell? ⟨ib,io+2,none⟩=some (.int .i64 (A:Int))/\v.cell? ⟨NB,A,none⟩=some (.int .u32 y1)/\v.cell? ⟨FR,3,none⟩=some (.slice (some ⟨WB,0,none⟩) N N)/\v.cell? ⟨ib,io+3,none⟩=some (.int .i64 (B:Int))/\v.cell? ⟨WB,B,none⟩=some (.int .i64 y2)) fun hHeld=>?_;refine Tf 0 1 2 3 4 5 ?_;refine Tf 6 7 8 9 10 11 ?_;refine Tf 12 13 14 15 16 17 ?_;refine Tb 18 19 ?_;clear hHeld;refine ry1 20 fun K hK=>?_;go_simp;(go_at_call 109;refine(pow_any _ HP.out.1 HP.out.2 _ oM oM _).mono ?_;rintro e w1 ⟨rfl,hb1⟩;have HB1:=bel (Zht _) hb1;have z1:=kc HB1 f2;have z2:=kc HB1 i2;have z3:=kc HB1 k1;have z4:=kc HB1 f3;have z5:=kc HB1 i3;have z6:=kc HB1 k2);try(go_wp2_with fail)
  refine okK hK fun hHeld=>?_;clear hK K;refine tkT 21 ?_;refine wpAnyH_done kR ?_ _;go_wp2;go_ret;exact⟨rfl,HB1⟩
 ·obtain⟨a0,a1⟩:=ha dE;obtain⟨A,rfl⟩:∃j:Nat,A=(j:Int):=⟨A.toNat,oM⟩
  have k2:=h.whs.cell (i:=A) Zhi;have p2:=ok.whs A;rw[show numI f ⟨17,D,(A:Int),B,Ec,nn,bt⟩=Zne (f.whs A)from rfl];obtain⟨y2,hy2⟩:∃y2,f.whs A=y2:=⟨_,rfl⟩
  obtain⟨FR,hFR⟩:∃FR,a.FR=FR:=⟨_,rfl⟩
  obtain⟨WB,hWB⟩:∃WB,a.WB=WB:=⟨_,rfl⟩
  rw[hy2]at k2 p2 ⊢;rw[hFR]at f3 ⊢;rw[hWB]at f3 k2;clear ha hb f4 f2 x h i6 hg ok hy2 hFR hWB;go_enter func70,ntmps70;go_wp2;refine rG (fun v=>v.cell? ⟨ib,io+2,none⟩=some (.int .i64 (A:Int))/\v.cell? ⟨FR,3,none⟩=some (.slice (some ⟨WB,0,none⟩) N N)/\v.cell? ⟨WB,A,none⟩=some (.int .i64 y2)) fun hHeld=>?_;refine Tf 0 1 2 3 4 5 ?_;refine Tc 6 7 8 ?_;refine tkT 9 ?_;clear hHeld;refine ry1 10 fun K hK=>?_;go_simp;(go_at_call 110;refine(Zanw _ oM oM _).mono ?_;rintro e w1 ⟨rfl,hw'⟩;obtain rfl:=hw'.symm);try(go_wp2_with fail)
  refine okK hK fun hHeld=>?_;clear hK K;refine tkT 11 ?_;refine wpAnyH_done kR ?_ _;go_wp2;go_ret;exact⟨rfl,Zht _⟩
 ·obtain⟨a0,a1⟩:=ha dE;obtain⟨A,rfl⟩:∃j:Nat,A=(j:Int):=⟨A.toNat,oM⟩
  have hA:A<c.regs.length:=by rw[HN.out];omega
  obtain⟨q1,q2,-,hr,hlk⟩:=h.look hA Zhi;rw[show numI f ⟨19,D,(A:Int),B,Ec,nn,bt⟩=fsum (atL (f.vecs A)) (f.vecs A).length from rfl];have hX:=fun j=>Zke (ok.vecs A) j;have hL9:=ok.vecsL A;obtain⟨V,hV⟩:∃V,atL (f.vecs A)=V:=⟨_,rfl⟩
  obtain⟨L,hL⟩:∃L,(f.vecs A).length=L:=⟨_,rfl⟩
  obtain⟨FR,hFR⟩:∃FR,a.FR=FR:=⟨_,rfl⟩
  obtain⟨MB,hMB⟩:∃MB,a.MB=MB:=⟨_,rfl⟩
  simp only[hV,hL,hMB]at hX hL9 hr hlk ⊢;rw[hFR,hMB]at f4;rw[hFR];have HXX:Hid (∀j,IsP (V j)):=hX;have HRR:Hid (Zio w q1 L (fun j=>.int .u32 (V j))):=hr;have lk:=hlk w.drew (Zht _);clear ha hb f3 f2 x h i6 hg ok hV hL hFR hMB hX hr hlk;go_enter func70,ntmps70;go_wp2;refine rG (fun v=>v.cell? ⟨ib,io+2,none⟩=some (.int .i64 (A:Int))/\v.cell? ⟨FR,4,none⟩=some (.map (some MB))) fun hHeld=>?_;refine Tf 0 1 2 3 4 5 ?_;refine Tb 6 7 ?_;clear hHeld;refine ry1 8 fun K hK=>?_;go_simp;refine okK hK fun hHeld=>?_;clear hK K;clear hHeld;refine ry1 9 fun K hK=>?_;go_simp;(go_at_call 111;refine(sum_any q1 L q2 V HXX.out oM _ (HRR.out.below (Zht _))).mono ?_;rintro e w1 ⟨rfl,hb1⟩;have HB1:=bel (Zht _) hb1;have z1:=kc HB1 i2;have z2:=kc HB1 f4);exact Zev
 ·obtain⟨a0,a1⟩:=ha dE;obtain⟨A,rfl⟩:∃j:Nat,A=(j:Int):=⟨A.toNat,oM⟩
  have hA:A<c.regs.length:=by rw[HN.out];omega
  obtain⟨q1,q2,-,hr,hlk⟩:=h.look hA Zhi;rw[show numI f ⟨20,D,(A:Int),B,Ec,nn,bt⟩=Zmh (atL (f.vecs A)) (f.vecs A).length from rfl];have hX:=fun j=>Zke (ok.vecs A) j;have hL9:=ok.vecsL A;obtain⟨V,hV⟩:∃V,atL (f.vecs A)=V:=⟨_,rfl⟩
  obtain⟨L,hL⟩:∃L,(f.vecs A).length=L:=⟨_,rfl⟩
  obtain⟨FR,hFR⟩:∃FR,a.FR=FR:=⟨_,rfl⟩
  obtain⟨MB,hMB⟩:∃MB,a.MB=MB:=⟨_,rfl⟩
  simp only[hV,hL,hMB]at hX hL9 hr hlk ⊢;rw[hFR,hMB]at f4;rw[hFR];have HXX:Hid (∀j,IsP (V j)):=hX;have HRR:Hid (Zio w q1 L (fun j=>.int .u32 (V j))):=hr;have lk:=hlk w.drew (Zht _);clear ha hb f3 f2 x h i6 hg ok hV hL hFR hMB hX hr hlk;go_enter func70,ntmps70;go_wp2;refine rG (fun v=>v.cell? ⟨ib,io+2,none⟩=some (.int .i64 (A:Int))/\v.cell? ⟨FR,4,none⟩=some (.map (some MB))) fun hHeld=>?_;refine Tf 0 1 2 3 4 5 ?_;refine Tb 6 7 ?_;clear hHeld;refine ry1 8 fun K hK=>?_;go_simp;refine okK hK fun hHeld=>?_;clear hK K;clear hHeld;refine ry1 9 fun K hK=>?_;go_simp;(go_at_call 112;refine(Zalc q1 L q2 V HXX.out oM _ (HRR.out.below (Zht _))).mono ?_;rintro e w1 ⟨rfl,hb1⟩;have HB1:=bel (Zht _) hb1;have z1:=kc HB1 i2;have z2:=kc HB1 f4);exact Zev
end Go.Proofs.YtbinohkcolcbfaaGreat
