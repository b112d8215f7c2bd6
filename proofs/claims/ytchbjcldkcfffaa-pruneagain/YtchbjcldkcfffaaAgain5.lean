import Derived.Test.YtchbjcldkcfffaaAgain1
import Derived.Test.YtchbjcldkcfffaaAgain4
import Derived.Deep.DeepCutAuto
import Derived.Test.YtchbjcldkcfffaaRows
import Derived.WalkKit
import Derived.ProofKit
import Derived.OpenShut
import Derived.JoinedCond
import Derived.Deep.Slices
import Derived.Deep.Strs
import Derived.SizedLaws
namespace Go.Proofs.Ytchbjcldkcfffaa
open Go.RowKit Go.Proofs.Try
set_option linter.all false
set_option maxRecDepth 100000
set_option maxHeartbeats 16000000
theorem Kl{E:Nat}{w:World}{v:Value}{ps:List Nat}{tag:Nat->Nat}{m:Nat}(ho:w.ownsRow E 3 1 v ps.length (AG ps))(ht:∀q,v.ownBlock=some q->tag q=m):
 ∃pb po cap,v=.slice po ps.length cap/\(0<ps.length->po=some ⟨pb,0,none⟩)/\(∀j (hj:j<ps.length),w.cell? ⟨pb,j,none⟩=some (.int .i64 (ps[j]:Int)))/\(0<ps.length->tag pb=m):=by
 by_cases hn:0<ps.length
 ·obtain⟨g,cap,rfl,-,-,-,-,h⟩:=Bj ho hn;exact⟨g,_,cap,rfl,fun _=>rfl,fun j hj=>h j _ (by simp[AG,hj]),fun _=>ht g rfl⟩
 ·obtain⟨po,cap,rfl⟩:=AU ho;exact⟨0,po,cap,rfl,fun h=>absurd h hn,fun j hj=>absurd hj oM,fun h=>absurd h hn⟩
theorem GK{m:Nat}{tag:Nat->Nat}:∀g,(Value.slice none 0 0).ownBlock=some g->tag g=m:=fun g h=>by cases h
theorem BT.slLen{l:List Ab}{s:CF}{q:Sr}(h:BT l s q)(r:Nat):(s.sl r).length<=l.length:=by
 rw[h.sl r];split
 ·exact Nat.zero_le _
 ·unfold Dd;exact Nat.le_trans (List.length_filter_le _ _) sM
theorem BT.tlLen{l:List Ab}{s:CF}{q:Sr}(h:BT l s q)(r:Nat):(s.tl r).length<=l.length:=by
 rw[h.tl r];split
 ·exact Nat.zero_le _
 ·unfold Dw;exact Nat.le_trans (List.length_filter_le _ _) sM
theorem BT.slLt{l:List Ab}{s:CF}{q:Sr}(h:BT l s q)(r:Nat):∀p∈s.sl r,p<l.length:=fun p hp=>by
 rw[h.sl r]at hp;split at hp
 ·cases hp
 ·exact(De.1 hp).1
theorem BT.tlLt{l:List Ab}{s:CF}{q:Sr}(h:BT l s q)(r:Nat):∀p∈s.tl r,p<l.length:=fun p hp=>by
 rw[h.tl r]at hp;split at hp
 ·cases hp
 ·exact(Dh.1 hp).1
theorem Ir(s:CF)(r:Nat):(JV s r).todo.length<=s.todo.length+(s.sl r).length:=Cb _ _
theorem It(s:CF)(r:Nat):(Is s r).todo.length<=s.todo.length+(s.tl r).length:=Cb _ _
theorem H7(l:List Ab)(q:Sr){rs:List Int}{j:Nat}(hj:j<rs.length):BN l q (rs.take (j+1))=goR l (BN l q (rs.take j)) rs[j].toNat:=by
 unfold BN;rw[List.take_succ_eq_append_getElem hj,List.foldl_append];rfl
def Zb(a b:Nat)(w0 w:World)(tag:Nat->Nat):Prop:=∀x,a<=x->x<b->w.heap[x]? =w0.heap[x]?/\tag x=0/\x<w.heap.size
theorem Zb.same{a b:Nat}{w0 w w':World}{tag tag':Nat->Nat}(h:Zb a b w0 w tag)(k:Ew w w' tag tag'):Zb a b w0 w' tag':=fun x h1 h2=>by
 obtain⟨e1,e2,e3⟩:=h x h1 h2;obtain⟨g1,g2⟩:=k x e3 oM oM oM;exact⟨g1.trans e1,g2.trans e2,k.lt e3 oM oM oM⟩
theorem Zb.set{a b:Nat}{w0 w:World}{tag:Nat->Nat}(h:Zb a b w0 w tag){g j m:Nat}(v:Value)(hg:tag g=m)(hm:m≠0):Zb a b w0 (w.setCell ⟨g,j,none⟩ v) tag:=fun x h1 h2=>by
 obtain⟨e1,e2,e3⟩:=h x h1 h2;exact⟨(Below.heap_setCell _ _ _ _ (fun(q:x=g)=>hm (by rw[←hg,←q];exact e2))).trans e1,e2,by simpa using e3⟩
theorem Zb.cell{a b:Nat}{w0 w:World}{tag:Nat->Nat}(h:Zb a b w0 w tag){x j:Nat}{v:Value}(h1:a<=x)(h2:x<b)(hc:w0.cell? ⟨x,j,none⟩=some v):w.cell? ⟨x,j,none⟩=some v:=(World.cell?_of_block (a:=⟨x,j,none⟩) (h x h1 h2).1).trans hc
theorem I6(l:List Ab)(E R S:Nat)(s:CF)(q:Sr)(w:World)(B C GB TB AB NB DB:Nat)(vg vt:Nat->Value)(vd:Value)(tag:Nat->Nat)(h:AE E R S l.length s w B C GB TB AB NB DB vg vt vd tag)(hq:BT l s q)(p3:Option Addr)(q3:Nat)(hC:w.cell? ⟨C,3,none⟩=some (.slice p3 l.length q3))(hli:AI 7 AS w (.slice p3 l.length q3) l)(p:Nat)(hp:p<l.length)(hr:∀r∈A8 l[p] (A4 l[p].op),0<=r/\r<(R:Int))(hn:l[p].op=32->0<=l[p].n/\l[p].n<(S:Int))(hst:Ai l=[])(hl:s.todo.length<=40000)(hLL:l.length<=40000):
 Calls prog 28 #[.pointer (some ⟨B,0,none⟩),.int .i64 (p:Int)] w fun e w'=>e=.returned (.tuple #[])/\Below E w w'/\∃s' vg' vt' vd' tag',AE E R S l.length s' w' B C GB TB AB NB DB vg' vt' vd' tag'/\BT l s' (goQ l q p l[p]):=by
 have KR:=A2 (fun v=>EE l[p] v);obtain⟨lb,lo,rfl,hcl⟩:=hli.at hp;have HAR:Hid (∀b,(FM l p).head?=some b->b<l.length/\enP l b<l.length/\B7 l b (enP l b)):=fun b hb=>by
  obtain⟨e,hm⟩:=Fk hst (l.length-p) p rfl (Nat.le_of_lt hp) (Gy hp hb);obtain⟨g1,g2,-,-⟩:=Bx hm;rw[FY hm];exact⟨g1,g2,hm⟩
 have HGQ:Hid (goQ l q p l[p]=goA l (if l[p].op=32 then goS l (BN l q (A8 l[p] (A4 l[p].op))) l[p].n.toNat else BN l q (A8 l[p] (A4 l[p].op))) p):=rfl;have HARI:=A2 (G6 (FM l p));have HAQ:Hid (Dx l p=Ci (FM l p)):=rfl;obtain⟨rs,hrs⟩:∃rs,A8 l[p] (A4 l[p].op)=rs:=⟨_,rfl⟩
 simp only[hrs]at KR hr HGQ;have HRR:=A2 hr;have hrl:rs.length<=3:=by rw[←hrs,Da];have h1:=Cc (A4 l[p].op).a l[p].a;have h2:=Cc (A4 l[p].op).b l[p].b;have h3:=Cc (A4 l[p].op).c l[p].c;simp only[List.length_append];omega
 obtain⟨⟨op,d,a,b,e,n,z⟩,hi⟩:∃i,l[p]=i:=⟨_,rfl⟩
 rw[hi]at hcl KR HGQ hn ⊢;simp only at hn HGQ;have y0:=hcl.at 0 (v:=.int .i64 op) rfl;rw[Nat.add_zero]at y0;have y1:=hcl.at 1 (v:=.int .i64 d) rfl;have y2:=hcl.at 2 (v:=.int .i64 a) rfl;have y3:=hcl.at 3 (v:=.int .i64 b) rfl;have y4:=hcl.at 4 (v:=.int .i64 e) rfl;have y5:=hcl.at 5 (v:=.int .i64 n) rfl;have y6:=hcl.at 6 (v:=.int .u32 z) rfl;have llb:lb<w.heap.size:=Ac y0;have n9:¬lb=w.heap.size:=oM;have c0:=h.b0;have HH:=A2 h;have HQ:=A2 hq;obtain⟨L,hL⟩:∃L,l.length=L:=⟨_,rfl⟩
 simp only[hL]at HH hC hp hLL HAR ⊢;have HLL:=A2 hL;have i1:(0:Int)<=(p:Int):=oM;have i2:(p:Int)<(L:Int):=oM;obtain⟨V2,hV2⟩:∃V,w.alloc (.cells #[.int .i64 op,.int .i64 d,.int .i64 a,.int .i64 b,.int .i64 e,.int .i64 n,.int .u32 z] 40)=V:=⟨_,rfl⟩
 have HV2:Hid (Below w.heap.size w V2):=by rw[←hV2];exact A0 _ _
 have hX2:V2.rowIs w.heap.size 40 7 (Jt op d a b e n z):=by rw[←hV2];exact AH w _ _
 have HX2:=A2 hX2;have x0:V2.cell? ⟨w.heap.size,0,none⟩=some (.int .i64 op):=hX2.cell (i:=0) dE;have x1:V2.cell? ⟨w.heap.size,1,none⟩=some (.int .i64 d):=hX2.cell (i:=1) dE;have x2:V2.cell? ⟨w.heap.size,2,none⟩=some (.int .i64 a):=hX2.cell (i:=2) dE;have x3:V2.cell? ⟨w.heap.size,3,none⟩=some (.int .i64 b):=hX2.cell (i:=3) dE;have x4:V2.cell? ⟨w.heap.size,4,none⟩=some (.int .i64 e):=hX2.cell (i:=4) dE;have x5:V2.cell? ⟨w.heap.size,5,none⟩=some (.int .i64 n):=hX2.cell (i:=5) dE;have x6:V2.cell? ⟨w.heap.size,6,none⟩=some (.int .u32 z):=hX2.cell (i:=6) dE;unfold D2 at KR;simp only at KR;clear h hq hcl hi hr hrs hX2 hL hst hli llb;go_enter func28,ntmps28;go_upto_region 1 with fail;try rw[hV2]
 clear hV2 y0 y1 y2 y3 y4 y5 y6 hC c0 n9;go_wp2_with(go_at_call 30;(with_reducible refine(KR.out _).mono ?_);rintro e9 w3 ⟨v3,rfl,ho3,hb3⟩;obtain⟨p4,q4,rfl⟩:=AU ho3;have HO3:=A2 ho3;have HB3:=A2 hb3;clear ho3 hb3);clear KR x0 x1 x2 x3 x4 x5 x6;obtain⟨nr,hnr⟩:∃nr,rs.length=nr:=⟨_,rfl⟩
 have HNR:=A2 hnr;obtain⟨H0,hH0⟩:∃H0,w.heap.size=H0:=⟨_,rfl⟩
 have HWE:Hid (E<=H0):=by rw[←hH0];exact HH.out.lt
 have HBW:Hid (Below H0 w w3):=by rw[←hH0];exact bel HV2.out HB3.out
 have HX3:Hid (w3.rowIs H0 40 7 (Jt op d a b e n z)):=by rw[←hH0];exact HX2.out.of_block (HB3.out.block _ HX2.out.lt)
 have HRD:Hid (∀k (hk:k<rs.length),∃pb,p4=some ⟨pb,0,none⟩/\H0<=pb/\pb<w3.heap.size/\w3.cell? ⟨pb,k,none⟩=some (.int .i64 rs[k])):=fun k hk=>by
  obtain⟨g,cap,ev,g1,g2,-,-,g3⟩:=Bj HO3.out oM;simp only[Value.slice.injEq]at ev;refine⟨g,ev.1,?_,g2,g3 k _ (by simp[Cm,hk])⟩;rw[←hH0];exact Nat.le_trans HV2.out.size g1
 have HK0:Hid (Below E w w3/\∃s' vg' vd' tag',AE E R S L s' w3 B C GB TB AB NB DB vg' vt vd' tag'/\BT l s' (BN l q (rs.take 0))/\s'.todo.length<=40000+40000*0/\Zb H0 w3.heap.size w3 w3 tag'):=by
  refine⟨HBW.out.mono HWE.out,s,vg,vd,fun b=>if b<w.heap.size then tag b else 0,(HH.out.retag (fun b hb=>if_pos hb)).below (by rw[hH0];exact HBW.out),HQ.out,oM,fun x h1 h2=>⟨rfl,if_neg oM,h2⟩⟩
 rw[hnr];rw[hnr]at hrl;rw[hH0];clear hH0;have hnp:∀j,j<nr->(0:Int)<=(j:Int):=fun j _=>by omega
 clear HH HQ hnr HO3 HV2 HB3 HX2;go_wp2
 go_loopw [21] (fun iv wr=>∃j:Nat,j<=nr/\iv=.int .i64 (j:Int)/\Hid (Below E w wr/\∃s' vg' vd' tag',AE E R S L s' wr B C GB TB AB NB DB vg' vt vd' tag'/\BT l s' (BN l q (rs.take j))/\s'.todo.length<=40000+40000*j/\Zb H0 w3.heap.size w3 wr tag')) (fun iv _=>nr-(intOf iv).toNat)
 case atStart=>exact⟨0,Nat.zero_le _,rfl,HK0.out⟩
 case round=>
  clear HK0;obtain⟨j,hj,rfl,HJ⟩:=hrel;by_cases hlt:j<nr
  ·have hjl:j<rs.length:=by have:=HNR.out;omega
   obtain⟨hB0,T,vg',vd',tag',hK,hS,hT,hZ⟩:=HJ.out;obtain⟨pb,rfl,pb1,pb2,pb3⟩:=HRD.out j hjl;have x0:=hZ.cell pb1 pb2 pb3;obtain⟨hr1,hr2⟩:=HRR.out _ (List.getElem_mem hjl);have HGN:=A2 (H7 l q hjl);obtain⟨r,hrn⟩:∃r:Nat,rs[j]=(r:Int):=⟨rs[j].toNat,oM⟩
   rw[hrn]at x0 hr2 HGN;rw[Int.toNat_natCast]at HGN;have hrR:r<R:=oM;have d1:=hK.b1;have dg:=hK.g.cell hrR;obtain⟨pb',po,cap,ev,r1,r2,r3⟩:=Kl (hK.gs r hrR) (hK.tgs r hrR);have hpl:=hS.slLen r;have KN:=A2 (Cu E R S L T wr B C GB TB AB NB DB vg' vt vd' tag' hK pb' cap (8+2*r) po (T.sl r) r1 r2 (fun hh=>⟨r3 hh,oM,oM,oM⟩) (fun x hx=>by have:=hS.slLt r x hx;have h9:=HLL.out;omega) (by have h9:=HLL.out;omega) oM);rw[ev]at dg;have HT:=A2 hT;have HPL:=A2 hpl;have HS:=A2 hS;have HZ:=A2 hZ;have HB0:=A2 hB0;have i3:(0:Int)<=(j:Int):=oM;have i4:(j:Int)<(nr:Int):=oM;have i5:(0:Int)<=(r:Int):=oM;have wi:IntKind.i64.wrap ((j:Int)+1)=((j+1:Nat):Int):=by rw[IntKind.wrap_i64];omega
   obtain⟨m,hm⟩:∃m,(T.sl r).length=m:=⟨_,rfl⟩
   rw[hm]at dg KN;clear hB0 hK hS hT hZ hrn r1 r2 r3 hpl ev hm pb1 pb2 pb3 hr1;go_upto_region 5 with(go_at_call 27;(with_reducible refine(KN.out).mono ?_);rintro e9 w4 ⟨rfl,hb4,vd4,tag4,hk4,hs4⟩;have HB4:=A2 hb4;have HK4:=A2 hk4;have HS4:=A2 hs4;have d1:=hk4.b1;have dg:=hk4.g.cell hrR;have fg:=hk4.g.frozen r;clear hb4 hk4 hs4)
   go_wp2;go_roundw
   case rel=>
    refine⟨j+1,oM,gN,(HB0.out.trans HB4.out).setCell HK4.out.hG _,JV T r,_,vd4,tag4,HK4.out.setSl (O:=[]) hrR (World.ownsRow_nil _ _ _ 1) GK,?_,?_,(HZ.out.same HS4.out).set _ HK4.out.tG dE⟩
    ·rw[HGN.out];exact HS.out.goR r
    ·have h9:=Ir T r;have h8:=HT.out;have h7:=HPL.out;have h6:=HLL.out;omega
   case measure=>simp[intOf];omega
  ·have e9:¬ (j:Int)<(nr:Int):=oM;have hjn:j=rs.length:=by have:=HNR.out;omega
   obtain⟨hB0,T,vg',vd',tag',hK,hS,hT,hZ⟩:=HJ.out;rw[hjn,List.take_length]at hS;have x0:wr.cell? ⟨H0,0,none⟩=some (.int .i64 op):=hZ.cell (Nat.le_refl _) HX3.out.lt (HX3.out.cell (i:=0) dE);have x5:wr.cell? ⟨H0,5,none⟩=some (.int .i64 n):=hZ.cell (Nat.le_refl _) HX3.out.lt (HX3.out.cell (i:=5) dE);by_cases o:op=32
   ·obtain⟨n1,n2⟩:=hn o;obtain⟨m,hm⟩:∃m:Nat,n=(m:Int):=⟨n.toNat,oM⟩
    have hmS:m<S:=oM;have o1:(op==32)=true:=by simpa using o
    have HGO:Hid ((if op=32 then goS l (BN l q rs) n.toNat else BN l q rs)=goS l (BN l q rs) m):=by show _=_;rw[if_pos o,hm,Int.toNat_natCast]
    rw[hm]at x5;have d2:=hK.b2;have dt:=hK.t.cell hmS;obtain⟨pb',po,cap,ev,r1,r2,r3⟩:=Kl (hK.ts m hmS) (hK.tts m hmS);have hpl:=hS.tlLen m;have KN:=A2 (fun(v:World) (hv:Below wr.heap.size wr v)=>Cu E R S L T v B C GB TB AB NB DB vg' vt vd' tag' (hK.below hv) pb' cap (9+2*m) po (T.tl m) r1 (fun k hk=>kc hv (r2 k hk)) (fun hh=>⟨r3 hh,oM,oM,oM⟩) (fun x hx=>by have:=hS.tlLt m x hx;have h9:=HLL.out;omega) (by have h9:=HLL.out;omega) oM);rw[ev]at dt;have EV:=A2 ev;have HLW:=A2 hK.lt;have HS1:=A2 (hS.goS m);have HT1:Hid ((Is T m).todo.length<=240000):=by have h9:=It T m;have h6:=HLL.out;show _<=_;omega
    have HZ:=A2 hZ;have HB0:=A2 hB0;have i5:(0:Int)<=(m:Int):=oM;have i6:(m:Int)<(S:Int):=oM;have lX:H0<wr.heap.size:=(hZ H0 (Nat.le_refl _) HX3.out.lt).2.2;have HXS:Hid (∀v tagv,Zb H0 w3.heap.size w3 v tagv->v.cell? ⟨H0,5,none⟩=some (.int .i64 (m:Int))):=fun v tagv hz=>by
     have h9:=hz.cell (Nat.le_refl _) HX3.out.lt (HX3.out.cell (i:=5) dE);rw[←hm];exact h9
    rw[HGO.out]at HGQ;obtain⟨mm,hmm⟩:∃mm,(T.tl m).length=mm:=⟨_,rfl⟩
    rw[hmm]at dt KN EV;clear hB0 hK hS hT hZ r1 r2 r3 hpl ev hmm hm o n1 n2 hn hjn hlt HJ HGO lX HRR HNR HRD;go_upto_region 8 with fail;refine rG (fun v=>v.cell? ⟨B,2,none⟩=some (.slice (some ⟨TB,0,none⟩) S S)/\v.cell? ⟨H0,5,none⟩=some (.int .i64 (m:Int))/\v.cell? ⟨TB,m,none⟩=some (.slice po mm cap)) fun hHeld=>?_;refine Tf 0 1 2 3 4 5 ?_;refine Tc 6 7 8 ?_;clear hHeld;refine Aw 9 fun K hK=>?_;go_simp;(go_at_call 27;(with_reducible refine(KN.out _ (B9 _)).mono ?_);rintro e9 w4 ⟨rfl,hb4,vd4,tag4,hk4,hs4⟩;have HB4:=A2 hb4;have HK4:=A2 hk4;have HZ4:=A2 ((HZ.out:Zb H0 w3.heap.size w3 wr.drew tag').same hs4);have d2:=hk4.b2;have dt:=hk4.t.cell hmS;rw[EV.out]at dt;have nBT:¬B=TB:=A9 hk4.tB hk4.tT dE;have nHT:¬H0=TB:=A9 (HZ4.out H0 (Nat.le_refl _) HX3.out.lt).2.1 hk4.tT dE;have ft:=hk4.t.frozen m;have x5:=HXS.out _ _ HZ4.out;have v3:(w4.setCell ⟨TB,m,none⟩ (.slice none 0 0)).cell? ⟨B,2,none⟩=some (.slice (some ⟨TB,0,none⟩) S S):=(World.cell?_of_block (a:=⟨B,2,none⟩) (Below.heap_setCell _ _ _ _ nBT)).trans d2;have v4:(w4.setCell ⟨TB,m,none⟩ (.slice none 0 0)).cell? ⟨H0,5,none⟩=some (.int .i64 (m:Int)):=(World.cell?_of_block (a:=⟨H0,5,none⟩) (Below.heap_setCell _ _ _ _ nHT)).trans x5;clear hb4 hk4 hs4);try(go_wp2_with fail)
    refine As hK fun hHeld=>?_;clear hK K;refine wpAnyH_done kR ?_ _;go_upto_region 9 with fail;refine rG (fun v=>v.cell? ⟨B,2,none⟩=some (.slice (some ⟨TB,0,none⟩) S S)/\v.cell? ⟨H0,5,none⟩=some (.int .i64 (m:Int))) fun hHeld=>?_;refine Tf 0 1 2 3 4 5 ?_;refine Bo 6 ?_;clear hHeld;refine Aw 7 fun K hK=>?_;go_simp;refine As hK fun hHeld=>?_;clear hK K;refine wpAnyH_done kR ?_ _;obtain⟨WW,hWW⟩:∃W,(w4.setCell ⟨TB,m,none⟩ (.slice none 0 0)).drew=W:=⟨_,rfl⟩
    try rw[hWW]
    have HKK0:=HK4.out.setTl (O:=[]) hmS (World.ownsRow_nil _ _ _ 1) GK;have HKK1:=HKK0.below (B9 _);rw[hWW]at HKK1;obtain⟨TT,hTT⟩:∃T',Is T m=T':=⟨_,rfl⟩
    obtain⟨vgT,hvgT⟩:∃v,vg'=v:=⟨_,rfl⟩
    obtain⟨vtT,hvtT⟩:∃v,(fun k=>if k=m then(Value.slice none 0 0)else vt k)=v:=⟨_,rfl⟩
    obtain⟨vdT,hvdT⟩:∃v,vd4=v:=⟨_,rfl⟩
    obtain⟨tagT,htagT⟩:∃v,tag4=v:=⟨_,rfl⟩
    have HKK:Hid (AE E R S L TT WW B C GB TB AB NB DB vgT vtT vdT tagT):=by rw[←hTT,←hvgT,←hvtT,←hvdT,←htagT];exact HKK1
    have HSS:Hid (BT l TT (goS l (BN l q rs) m)):=by rw[←hTT];exact HS1.out
    have HTD:Hid (TT.todo.length<=240000):=by rw[←hTT];exact HT1.out
    have HBB:Hid (Below E w WW):=by rw[←hWW];exact((HB0.out.trans (((B9 wr).mono HLW.out).trans HB4.out)).setCell HK4.out.hT _).trans ((B9 _).mono HKK0.lt)
    clear HKK0 HKK1 hTT hvgT hvtT hvdT htagT HS1 HT1 HK4 HB4 HZ4 HZ HB0 d2 dt ft x5 v3 v4 nBT nHT KN hWW HXS;rcases HARI.out with⟨q1,q2⟩|⟨bg,q1,q2⟩
    ·have dA:=HKK.out.a.cell hp;rw[HSS.out.ar p LJ,HAQ.out,q2]at dA;have d3:=HKK.out.b3;have HFIN:Hid (BT l TT (goQ l q p ⟨op,d,a,b,e,n,z⟩)):=by
      show BT _ _ _;rw[HGQ.out];unfold goA;rw[q1];exact HSS.out
     clear q1 q2;go_wp2;first|go_end0|(simp only[Exit.inBlock,Exit.then];refine bodyPost_ret (results_none rfl _ _ _) rfl ?_)|refine bodyPost_ret (results_none rfl _ _ _) rfl ?_
     first|exact⟨rfl,HBB.out,TT,⟨vgT,vtT,vdT,tagT,HKK.out⟩,HFIN.out⟩|exact⟨rfl,HBB.out,TT,vgT,vtT,vdT,tagT,HKK.out,HFIN.out⟩
    ·obtain⟨b1,b2,b3⟩:=HAR.out bg q1;have dA:=HKK.out.a.cell hp;rw[HSS.out.ar p LJ,HAQ.out,q2]at dA;have dN:=HKK.out.n.cell b1;rw[HSS.out.en bg _ b3]at dN;have d3:=HKK.out.b3;have d4:=HKK.out.b4;have HFIN:Hid (BT l (AA TT [bg,enP l bg]) (goQ l q p ⟨op,d,a,b,e,n,z⟩)):=by
      show BT _ _ _;rw[HGQ.out];unfold goA;rw[q1];exact HSS.out.needL _
     have j1:(0:Int)<=(bg:Int):=oM;have j2:(bg:Int)<(L:Int):=oM;obtain⟨eb,heb⟩:∃eb,enP l bg=eb:=⟨_,rfl⟩
     rw[heb]at dN b2 HFIN;obtain⟨W6,hW6⟩:∃W,WW.alloc (.cells #[.int .i64 (bg:Int),.int .i64 (eb:Int)] 3)=W:=⟨_,rfl⟩
     have HB6:Hid (Below WW.heap.size WW W6):=by rw[←hW6];exact A0 _ _
     have HK6:Hid (AE E R S L TT W6 B C GB TB AB NB DB vgT vtT vdT (fun x=>if x<WW.heap.size then tagT x else 0)):=(HKK.out.retag (fun x hx=>if_pos hx)).below HB6.out;have KN0:=Cu E R S L TT W6 B C GB TB AB NB DB vgT vtT vdT (fun x=>if x<WW.heap.size then tagT x else 0) HK6.out WW.heap.size 2 0 (some ⟨WW.heap.size,0,none⟩) [bg,eb] (fun _=>rfl) (fun k hk=>by
      have hk2:k=0\/k=1:=by simp only[List.length_cons,List.length_nil]at hk;omega
      rw[←hW6]
      rcases hk2 with rfl|rfl<;>simp[go_sem]) (fun _=>⟨if_neg oM,dE,dE,dE⟩) (fun x hx=>by
      simp only[List.mem_cons,List.not_mem_nil,or_false]at hx
      rcases hx with e1|e1<;>rw[e1]<;>assumption) M6 oM
     rw[show [bg,eb].length=2 from rfl]at KN0;have KN:=A2 KN0;clear KN0;clear q1 q2 b1 b2 b3 heb;go_wp2_with(go_at_call 27;(try rw[hW6]);(with_reducible refine(KN.out).mono ?_);rintro e9 w7 ⟨rfl,hb7,vd7,tag7,hk7,hs7⟩;have HB7:=A2 hb7;have HK7:=A2 hk7;clear hb7 hk7 hs7);first|go_end0|(simp only[Exit.inBlock,Exit.then];refine bodyPost_ret (results_none rfl _ _ _) rfl ?_)|refine bodyPost_ret (results_none rfl _ _ _) rfl ?_
     first|exact⟨rfl,(HBB.out.trans (HB6.out.mono HKK.out.lt)).trans HB7.out,_,⟨vgT,vtT,vd7,tag7,HK7.out⟩,HFIN.out⟩|exact⟨rfl,(HBB.out.trans (HB6.out.mono HKK.out.lt)).trans HB7.out,_,vgT,vtT,vd7,tag7,HK7.out,HFIN.out⟩
   ·have o1:(op==32)=false:=by simpa using o
    have HGO:Hid ((if op=32 then goS l (BN l q rs) n.toNat else BN l q rs)=BN l q rs):=if_neg o;rw[HGO.out]at HGQ;obtain⟨WW,hWW⟩:∃W,wr=W:=⟨_,rfl⟩
    obtain⟨TT,hTT⟩:∃T',T=T':=⟨_,rfl⟩
    obtain⟨vgT,hvgT⟩:∃v,vg'=v:=⟨_,rfl⟩
    obtain⟨vtT,hvtT⟩:∃v,vt=v:=⟨_,rfl⟩
    obtain⟨vdT,hvdT⟩:∃v,vd'=v:=⟨_,rfl⟩
    obtain⟨tagT,htagT⟩:∃v,tag'=v:=⟨_,rfl⟩
    subst hWW hTT hvgT hvtT hvdT htagT;have HKK:=A2 hK;have HSS:=A2 hS;have HTD:Hid (T.todo.length<=240000):=by show _<=_;omega
    have HBB:=A2 hB0;clear hB0 hK hS hT hZ hn hjn hlt HJ HGO o x5 HRR HNR HRD;rcases HARI.out with⟨q1,q2⟩|⟨bg,q1,q2⟩
    ·have dA:=HKK.out.a.cell hp;rw[HSS.out.ar p LJ,HAQ.out,q2]at dA;have d3:=HKK.out.b3;have HFIN:Hid (BT l T (goQ l q p ⟨op,d,a,b,e,n,z⟩)):=by
      show BT _ _ _;rw[HGQ.out];unfold goA;rw[q1];exact HSS.out
     clear q1 q2;go_wp2;first|go_end0|(simp only[Exit.inBlock,Exit.then];refine bodyPost_ret (results_none rfl _ _ _) rfl ?_)|refine bodyPost_ret (results_none rfl _ _ _) rfl ?_
     first|exact⟨rfl,HBB.out,T,⟨vg',vt,vd',tag',HKK.out⟩,HFIN.out⟩|exact⟨rfl,HBB.out,T,vg',vt,vd',tag',HKK.out,HFIN.out⟩
    ·obtain⟨b1,b2,b3⟩:=HAR.out bg q1;have dA:=HKK.out.a.cell hp;rw[HSS.out.ar p LJ,HAQ.out,q2]at dA;have dN:=HKK.out.n.cell b1;rw[HSS.out.en bg _ b3]at dN;have d3:=HKK.out.b3;have d4:=HKK.out.b4;have HFIN:Hid (BT l (AA T [bg,enP l bg]) (goQ l q p ⟨op,d,a,b,e,n,z⟩)):=by
      show BT _ _ _;rw[HGQ.out];unfold goA;rw[q1];exact HSS.out.needL _
     have j1:(0:Int)<=(bg:Int):=oM;have j2:(bg:Int)<(L:Int):=oM;obtain⟨eb,heb⟩:∃eb,enP l bg=eb:=⟨_,rfl⟩
     rw[heb]at dN b2 HFIN;obtain⟨W6,hW6⟩:∃W,wr.alloc (.cells #[.int .i64 (bg:Int),.int .i64 (eb:Int)] 3)=W:=⟨_,rfl⟩
     have HB6:Hid (Below wr.heap.size wr W6):=by rw[←hW6];exact A0 _ _
     have HK6:Hid (AE E R S L T W6 B C GB TB AB NB DB vg' vt vd' (fun x=>if x<wr.heap.size then tag' x else 0)):=(HKK.out.retag (fun x hx=>if_pos hx)).below HB6.out;have KN0:=Cu E R S L T W6 B C GB TB AB NB DB vg' vt vd' (fun x=>if x<wr.heap.size then tag' x else 0) HK6.out wr.heap.size 2 0 (some ⟨wr.heap.size,0,none⟩) [bg,eb] (fun _=>rfl) (fun k hk=>by
      have hk2:k=0\/k=1:=by simp only[List.length_cons,List.length_nil]at hk;omega
      rw[←hW6]
      rcases hk2 with rfl|rfl<;>simp[go_sem]) (fun _=>⟨if_neg oM,dE,dE,dE⟩) (fun x hx=>by
      simp only[List.mem_cons,List.not_mem_nil,or_false]at hx
      rcases hx with e1|e1<;>rw[e1]<;>assumption) M6 oM
     rw[show [bg,eb].length=2 from rfl]at KN0;have KN:=A2 KN0;clear KN0;clear q1 q2 b1 b2 b3 heb;go_wp2_with(go_at_call 27;(try rw[hW6]);(with_reducible refine(KN.out).mono ?_);rintro e9 w7 ⟨rfl,hb7,vd7,tag7,hk7,hs7⟩;have HB7:=A2 hb7;have HK7:=A2 hk7;clear hb7 hk7 hs7);first|go_end0|(simp only[Exit.inBlock,Exit.then];refine bodyPost_ret (results_none rfl _ _ _) rfl ?_)|refine bodyPost_ret (results_none rfl _ _ _) rfl ?_
     first|exact⟨rfl,(HBB.out.trans (HB6.out.mono HKK.out.lt)).trans HB7.out,_,⟨vg',vt,vd7,tag7,HK7.out⟩,HFIN.out⟩|exact⟨rfl,(HBB.out.trans (HB6.out.mono HKK.out.lt)).trans HB7.out,_,vg',vt,vd7,tag7,HK7.out,HFIN.out⟩
def BC(LB:Nat)(os:List Nat):List Value:=os.map fun o=>.pointer (some ⟨LB,o,none⟩)
theorem Ix(LB:Nat)(a b:List Nat):BC LB (a++b)=BC LB a++BC LB b:=by simp[BC]
theorem Ia:(prog.info? 79).map (fun i=>(i.zero,i.size,i.bytes))=some (some (.pointer none),1,8):=kR
theorem Gx{E LB:Nat}{V:World}{p:Option Addr}{q:Nat}{os:List Nat}(h:V.ownsRow E 79 1 (.slice p os.length q) os.length (BC LB os))(hE:E<=V.heap.size){RB d:Nat}(ns:List Nat)(hn:∀j (hj:j<ns.length),V.cell? ⟨RB,j,none⟩=some (.pointer (some ⟨LB,ns[j],none⟩)))(hl:os.length+ns.length<=1000000)(ty:TypeId):
 ∃p' q' w',(Builtin.append_ #[51,51] ty #[.slice p os.length q,.slice (some ⟨RB,0,none⟩) ns.length d]).run prog V=.ok (.slice p' (os.length+ns.length) q') w'/\w'.ownsRow E 79 1 (.slice p' (os++ns).length q') (os++ns).length (BC LB (os++ns))/\Below E V w'/\∀b,b<V.heap.size->(Value.slice p os.length q).ownBlock≠some b->w'.heap[b]? =V.heap[b]? :=by
 obtain⟨i0,hi0,hz0,hz1,hz2⟩:=info_parts Ia;obtain⟨v',w',hr,h2,h3,-,-⟩:=run_append_own_at (P:=prog) V E 51 ty 79 i0 _ 1 8 underlying51 hi0 hz0 hz1 hz2 rfl dE (.slice p os.length q) os.length (BC LB os) h ⟨RB,0,none⟩ ns.length d (BC LB ns) (by simp[BC]) (fun j u hu=>by
  have hj:j<ns.length:=by have:=(List.getElem?_eq_some_iff.1 hu).1;simpa[BC]using this
  have hadd:(⟨RB,0,none⟩:Addr).add j=⟨RB,j,none⟩:=by unfold Addr.add;split<;>simp_all
  rw[hadd,hn j hj]
  simpa[BC,hj]using hu) (by simp[BC,Value.oneCell']) mL oM hE
 obtain⟨p',q',rfl⟩:=AU h2;refine⟨p',q',w',hr,?_,(Below.refl E V).grown h3 hE (fun b e=>(h.lt b e).1),fun b hb hne=>h3.block b hb (fun e=>hne e.symm)⟩;rw[List.length_append,Ix];exact h2
theorem F8{E LB:Nat}{V:World}{p:Option Addr}{q:Nat}{os:List Nat}(h:V.ownsRow E 79 1 (.slice p os.length q) os.length (BC LB os))(hE:E<=V.heap.size)(o:Nat)(hl:os.length+1<=1000000)(ty:TypeId):
 ∃p' q' w',(Builtin.append_ #[51,51] ty #[.slice p os.length q,.slice (some ⟨V.heap.size,0,none⟩) 1 1]).run prog (V.alloc (.cells #[.pointer (some ⟨LB,o,none⟩)] 79))=.ok (.slice p' (os.length+1) q') w'/\w'.ownsRow E 79 1 (.slice p' (os++[o]).length q') (os++[o]).length (BC LB (os++[o]))/\Below E V w'/\∀b,b<V.heap.size->(Value.slice p os.length q).ownBlock≠some b->w'.heap[b]? =V.heap[b]? :=by
 have hb0:Below V.heap.size V (V.alloc (.cells #[.pointer (some ⟨LB,o,none⟩)] 79)):=A0 _ _;obtain⟨p',q',w',h1,h2,h3,h4⟩:=Gx (LB:=LB) (Ak h hb0) (Nat.le_trans hE hb0.size) (RB:=V.heap.size) (d:=1) [o] (fun j hj=>by
  have:j=0:=by simp only[List.length_cons,List.length_nil]at hj;omega
  subst this
  simp[go_sem]) hl ty
 exact⟨p',q',w',h1,h2,(hb0.mono hE).trans h3,fun b hb hne=>(h4 b (Nat.lt_of_lt_of_le hb hb0.size) hne).trans (hb0.block b hb)⟩
def AD(l:List Ab):Nat->List Nat
 |0=>[]
 |j+1=>match l[j]? with
  |some i=>(AD l j++(if Aa i=true then [7*j+1]else []))++[7*j+2,7*j+3,7*j+4].take (A8 i (A4 i.op)).length
  |none=>AD l j
def AF(l:List Ab):Nat->List Nat
 |0=>[]
 |j+1=>match l[j]? with
  |some i=>AF l j++(if i.op=32\/i.op=33 then [7*j+5]else [])
  |none=>AF l j
theorem Dl{l:List Ab}{j:Nat}(hj:j<l.length):AD l (j+1)=(AD l j++(if Aa l[j]=true then [7*j+1]else []))++[7*j+2,7*j+3,7*j+4].take (A8 l[j] (A4 l[j].op)).length:=by
 rw[AD,List.getElem?_eq_getElem hj]
theorem Dm{l:List Ab}{j:Nat}(hj:j<l.length):AF l (j+1)=AF l j++(if l[j].op=32\/l[j].op=33 then [7*j+5]else []):=by
 rw[AF,List.getElem?_eq_getElem hj]
theorem Dq(i:Ab):(A8 i (A4 i.op)).length<=3:=by
 rw[Da];have h1:=Cc (A4 i.op).a i.a;have h2:=Cc (A4 i.op).b i.b;have h3:=Cc (A4 i.op).c i.c;simp only[List.length_append];omega
theorem E1(l:List Ab):∀j,(AD l j).length<=4*j
 |0=>Nat.le_refl _
 |j+1=>by
  have ih:=E1 l j;rw[AD];split
  ·rename_i i _;simp only[List.length_append,List.length_take,List.length_cons,List.length_nil];have:(if Aa i=true then [7*j+1]else []).length<=1:=by split<;>simp
   omega
  ·omega
theorem E3(l:List Ab):∀j,(AF l j).length<=j
 |0=>Nat.le_refl _
 |j+1=>by
  have ih:=E3 l j;rw[AF];split
  ·rename_i i _;simp only[List.length_append];have:(if i.op=32\/i.op=33 then [7*j+5]else []).length<=1:=by split<;>simp
   omega
  ·omega
theorem IA(l:List Ab)(w:World)(p:Option Addr)(cap LB:Nat)(hp:0<l.length->p=some ⟨LB,0,none⟩)(hr:AI 7 AS w (.slice p l.length cap) l)(hl:l.length<=32768):
 Calls prog 13 #[.slice p l.length cap] w fun e w'=>∃q d,e=.returned (.slice q (AD l l.length).length d)/\w'.ownsRow w.heap.size 79 1 (.slice q (AD l l.length).length d) (AD l l.length).length (BC LB (AD l l.length))/\Below w.heap.size w w':=by
 have HR:=A2 hr;obtain⟨M,hM⟩:∃M,l.length=M:=⟨_,rfl⟩
 have HM:=A2 hM;simp only[hM]at HR hp hl ⊢;obtain⟨E,hE⟩:∃E,w.heap.size=E:=⟨_,rfl⟩
 have HE:=A2 hE;simp only[hE];have HP:=A2 hp;clear hr hM hE hp;go_enter func13,ntmps13;go_wp2
 go_loopw [9,3] (fun iv lv wr=>∃ (j:Nat) (q:Option Addr) (d:Nat),j<=M/\iv=.int .i64 (j:Int)/\lv=.slice q (AD l j).length d/\Hid (Below E w wr/\E<=wr.heap.size/\wr.ownsRow E 79 1 (.slice q (AD l j).length d) (AD l j).length (BC LB (AD l j)))) (fun iv _ _=>M-(intOf iv).toNat)
 case atStart=>exact⟨0,none,0,Nat.zero_le _,rfl,rfl,Below.refl E w,by rw[HE.out];exact Nat.le_refl _,World.ownsRow_nil _ _ _ 1⟩
 case round=>
  obtain⟨j,q,d',hj,rfl,rfl,HJ⟩:=hrel;by_cases hlt:j<M
  ·have hjl:j<l.length:=by have:=HM.out;omega
   have hpe:=HP.out oM;subst hpe;obtain⟨hbj,hEw,hO⟩:=HJ.out;have HRV:Hid (∀v,Below E w v->AI 7 AS v (.slice (some ⟨LB,0,none⟩) M cap) l):=fun v hv=>HR.out.below (by rw[HE.out];exact hv);have HCV:Hid (∀v,Below E w v->Ae v LB (7*j) (AS l[j])):=fun v hv=>by
    obtain⟨b,o,e,h9⟩:=(HRV.out v hv).at hjl;simp only[Option.some.injEq,Addr.mk.injEq]at e;obtain⟨rfl,rfl,-⟩:=e;rw[Nat.zero_add,Nat.mul_comm]at h9;exact h9
   have HNX:=A2 (Dl hjl);have HLE:Hid ((AD l j).length<=200000):=by have:=E1 l j;show _<=_;omega
   have HRL:=A2 (Dq l[j]);obtain⟨⟨op,d,a,b,e,n,z⟩,hi⟩:∃i,l[j]=i:=⟨_,rfl⟩
   rw[hi]at HCV HNX HRL;have HYY:Hid (∀v,Below E w v->v.cell? ⟨LB,7*j,none⟩=some (.int .i64 op)/\v.cell? ⟨LB,7*j+1,none⟩=some (.int .i64 d)/\v.cell? ⟨LB,7*j+2,none⟩=some (.int .i64 a)/\v.cell? ⟨LB,7*j+3,none⟩=some (.int .i64 b)/\v.cell? ⟨LB,7*j+4,none⟩=some (.int .i64 e)/\v.cell? ⟨LB,7*j+5,none⟩=some (.int .i64 n)/\v.cell? ⟨LB,7*j+6,none⟩=some (.int .u32 z)):=fun v hv=>by
    have hcl:=HCV.out v hv;exact⟨by have h9:=hcl.at 0 (v:=.int .i64 op) rfl;rw[Nat.add_zero]at h9;exact h9,hcl.at 1 rfl,hcl.at 2 rfl,hcl.at 3 rfl,hcl.at 4 rfl,hcl.at 5 rfl,hcl.at 6 rfl⟩
   obtain⟨y0,y1,y2,y3,y4,y5,y6⟩:=HYY.out wr hbj;have i1:(0:Int)<=(j:Int):=oM;have i2:(j:Int)<(M:Int):=oM;have wi:IntKind.i64.wrap ((j:Int)+1)=((j+1:Nat):Int):=by rw[IntKind.wrap_i64];omega
   have j7:j*7=7*j:=Nat.mul_comm _ _;have KS:=A2 (fun v=>FG ⟨op,d,a,b,e,n,z⟩ v);have KR:=A2 (fun v=>EE ⟨op,d,a,b,e,n,z⟩ v);unfold D2 at KS KR;simp only at KS KR;obtain⟨P0,hP0⟩:∃P,AD l j=P:=⟨_,rfl⟩
   rw[hP0]at hO HNX HLE;rw[hP0];have HBJ:=A2 hbj;have HEW:=A2 hEw;have HO:=A2 hO;obtain⟨rs,hrs⟩:∃rs,A8 (⟨op,d,a,b,e,n,z⟩:Ab) (A4 op)=rs:=⟨_,rfl⟩
   simp only[hrs]at KR HNX HRL;clear hi hbj hEw hO HJ hP0 hrs HCV;obtain⟨P1,hP1⟩:∃P,P0++(if Aa (⟨op,d,a,b,e,n,z⟩:Ab)=true then [7*j+1]else [])=P:=⟨_,rfl⟩
   rw[hP1]at HNX;have HP1L:Hid (P1.length<=200001):=by
    rw[←hP1,List.length_append];have h9:(if Aa (⟨op,d,a,b,e,n,z⟩:Ab)=true then [7*j+1]else []).length<=1:=by split<;>simp
    have:=HLE.out;show _<=_;omega
   have HP1:=A2 hP1;clear hP1;obtain⟨sb,hsb⟩:∃sb,((A4 op).d != 0)=sb:=⟨_,rfl⟩
   have hsB:Aa (⟨op,d,a,b,e,n,z⟩:Ab)=sb:=by rw[←hsb];simp only[Aa];by_cases h9:(A4 op).d=0<;>simp[h9]
   rw[hsB]at HP1;simp only[hsb]at KS;clear hsb hsB;go_upto_if 18 with(go_at_call 29;(with_reducible refine(KS.out _).mono ?_);rintro e9 w4 ⟨rfl,hb4⟩;have HB4:=A2 hb4;clear hb4)
   go_cut [3] (fun lv wx=>∃ (q:Option Addr) (d':Nat),lv=.slice q P1.length d'/\Hid (Below E w wx/\E<=wx.heap.size/\wx.ownsRow E 79 1 (.slice q P1.length d') P1.length (BC LB P1)))
   case first=>
    cases sb with
    |false=>
     have HP2:Hid (P1=P0):=by show _=_;rw[←HP1.out];simp
     go_wp2;go_meet;rw[HP2.out];exact⟨q,d',rfl,HBJ.out.trans (HB4.out.mono HEW.out),Nat.le_trans HEW.out HB4.out.size,Ak HO.out HB4.out⟩
    |true=>
     have HP2:Hid (P1=P0++[7*j+1]):=by show _=_;rw[←HP1.out];simp
     obtain⟨p',q',w5,r1,r2,r3,-⟩:=F8 (LB:=LB) (Ak HO.out HB4.out) (Nat.le_trans HEW.out HB4.out.size) (7*j+1) (by have:=HLE.out;omega) 51;rw[←HP2.out]at r2;have HR1:=A2 r1;have HR2:=A2 r2;have HR3:=A2 r3;have HLN:Hid (P1.length=P0.length+1):=by show _=_;rw[HP2.out];simp
     clear r1 r2 r3;go_wp2_with(at_builtin;refine B2 rF _ _ _ rF _ _ _ rF rF HR1.out ?_);go_meet;refine⟨p',q',by rw[HLN.out],(HBJ.out.trans (HB4.out.mono HEW.out)).trans HR3.out,Nat.le_trans (Nat.le_trans HEW.out HB4.out.size) HR3.out.size,HR2.out⟩
   case rest=>
    obtain⟨q5,d5,rfl,HC5⟩:=hcut;obtain⟨hb5,hE5,ho5⟩:=HC5.out;have HB5:=A2 hb5;have HE5:=A2 hE5;have HO5:=A2 ho5;obtain⟨u0,-⟩:=HYY.out wc hb5;have lLB:LB<wc.heap.size:=Ac u0;have nLB:¬LB=wc.heap.size:=oM;have k0:∀o,(wc.alloc o).cell? ⟨LB,7*j,none⟩=some (.int .i64 op):=fun o=>kc (A0 _ _) u0;clear HC5 hb5 hE5 ho5 HO y0 y1 y2 y3 y4 y5 y6 HBJ HEW KS HB4;go_upto_region 8 with fail;refine rG (fun v=>v.cell? ⟨LB,7*j,none⟩=some (.int .i64 op)) fun hHeld=>?_;refine Tf 0 1 2 3 4 5 ?_;refine Tc 6 7 8 ?_;refine Bo 9 ?_;clear hHeld;refine Aw 10 fun K hK=>?_;go_simp;refine As hK fun hHeld=>?_;clear hK K;clear hHeld;refine Aw 11 fun K hK=>?_;go_simp;refine As hK fun hHeld=>?_;clear hK K;refine wpAnyH_done kR ?_ _;obtain⟨W6,hW6⟩:∃W,(wc.alloc (.cells #[.pointer (some ⟨LB,7*j+2,none⟩),.pointer (some ⟨LB,7*j+3,none⟩),.pointer (some ⟨LB,7*j+4,none⟩)] 80)).drew=W:=⟨_,rfl⟩
    rw[hW6];have HB6:Hid (Below wc.heap.size wc W6):=by rw[←hW6];exact bel (A0 _ _) (Ah _)
    have HX6:Hid (∀k (hk:k<3),W6.cell? ⟨wc.heap.size,k,none⟩=some (.pointer (some ⟨LB,[7*j+2,7*j+3,7*j+4][k],none⟩))):=fun k hk=>by
     rw[←hW6];rcases(show k=0\/k=1\/k=2 by omega)with rfl|rfl|rfl<;>simp[go_sem]
    have HBW:Hid (Below E w W6):=HB5.out.trans (HB6.out.mono HE5.out);obtain⟨y0,y1,y2,y3,y4,y5,y6⟩:=HYY.out W6 HBW.out;obtain⟨m,hm⟩:∃m,rs.length=m:=⟨_,rfl⟩
    have HNS:Hid (([7*j+2,7*j+3,7*j+4].take rs.length).length=m):=by show _=_;have:=HRL.out;rw[List.length_take];simp only[List.length_cons,List.length_nil];omega
    have HMM:Hid (m<=3):=by rw[←hm];exact HRL.out
    have m3:(m:Int)<=3:=by have:=HMM.out;omega
    have m4:m<=3:=HMM.out;have m5:(0:Int)<=(m:Int):=oM;simp only[hm]at KR;clear hW6 hm u0 k0;go_upto_region 9 with fail;go_wp2_with(first
     |(go_at_call 30;(with_reducible refine(KR.out _).mono ?_);rintro e9 w7 ⟨v7,rfl,ho7,hb7⟩;obtain⟨p7,q7,rfl⟩:=AU ho7;have HB7:=A2 hb7;obtain⟨p',q',w8,r1,r2,r3,-⟩:=Gx (LB:=LB) (RB:=wc.heap.size) (d:=3) (Ak HO5.out (bel HB6.out HB7.out)) (Nat.le_trans HE5.out (bel HB6.out HB7.out).size) ([7*j+2,7*j+3,7*j+4].take rs.length) (fun k hk=>by
      have h9:k<3:=by have:=HNS.out;have:=HMM.out;omega
      rw[List.getElem_take]
      exact kc HB7.out (HX6.out k h9)) (by have:=HNS.out;have:=HMM.out;have:=HP1L.out;omega) 51;rw[←HNX.out]at r2;rw[HNS.out]at r1;have HR1:=A2 r1;have HR2:=A2 r2;have HR3:=A2 r3;clear r1 r2 r3 ho7 hb7)
     |(at_builtin;refine B2 rF _ _ _ rF _ _ _ rF rF HR1.out ?_))
    go_roundw
    case rel=>
     refine⟨j+1,p',q',oM,gN,?_,(HBW.out.trans (HB7.out.mono (Nat.le_trans HE5.out HB6.out.size))).trans HR3.out,Nat.le_trans (Nat.le_trans HE5.out (bel HB6.out HB7.out).size) HR3.out.size,HR2.out⟩;rw[HNX.out,List.length_append,HNS.out]
    case measure=>simp[intOf];omega
  ·have e9:¬ (j:Int)<(M:Int):=oM;have hjn:j=M:=oM;subst hjn;have HE2:=A2 (And.intro HJ.out.2.2 HJ.out.1);clear hlt HJ;go_wp2;refine bodyPost_ret (by simp[results,results13,go_sem, *];try rfl) rfl ?_;exact⟨_,_,rfl,HE2.out.1,HE2.out.2⟩
theorem Jg(l:List Ab)(w:World)(p:Option Addr)(cap LB:Nat)(hp:0<l.length->p=some ⟨LB,0,none⟩)(hr:AI 7 AS w (.slice p l.length cap) l)(hl:l.length<=32768):
 Calls prog 15 #[.slice p l.length cap] w fun e w'=>∃q d,e=.returned (.slice q (AF l l.length).length d)/\w'.ownsRow w.heap.size 79 1 (.slice q (AF l l.length).length d) (AF l l.length).length (BC LB (AF l l.length))/\Below w.heap.size w w':=by
 have HR:=A2 hr;obtain⟨M,hM⟩:∃M,l.length=M:=⟨_,rfl⟩
 have HM:=A2 hM;simp only[hM]at HR hp hl ⊢;obtain⟨E,hE⟩:∃E,w.heap.size=E:=⟨_,rfl⟩
 have HE:=A2 hE;simp only[hE];have HP:=A2 hp;clear hr hM hE hp;go_enter func15,ntmps15;go_wp2
 go_loopw [8,3] (fun iv lv wr=>∃ (j:Nat) (q:Option Addr) (d:Nat),j<=M/\iv=.int .i64 (j:Int)/\lv=.slice q (AF l j).length d/\Hid (Below E w wr/\E<=wr.heap.size/\wr.ownsRow E 79 1 (.slice q (AF l j).length d) (AF l j).length (BC LB (AF l j)))) (fun iv _ _=>M-(intOf iv).toNat)
 case atStart=>exact⟨0,none,0,Nat.zero_le _,rfl,rfl,Below.refl E w,by rw[HE.out];exact Nat.le_refl _,World.ownsRow_nil _ _ _ 1⟩
 case round=>
  obtain⟨j,q,d',hj,rfl,rfl,HJ⟩:=hrel;by_cases hlt:j<M
  ·have hjl:j<l.length:=by have:=HM.out;omega
   have hpe:=HP.out oM;subst hpe;obtain⟨hbj,hEw,hO⟩:=HJ.out;have HNX:=A2 (Dm hjl);have HLE:Hid ((AF l j).length<=200000):=by have:=E3 l j;show _<=_;omega
   obtain⟨b0,o0,e0,hcl⟩:=(HR.out.below (by rw[HE.out];exact hbj)).at hjl;simp only[Option.some.injEq,Addr.mk.injEq]at e0;obtain⟨rfl,rfl,-⟩:=e0;rw[Nat.zero_add,Nat.mul_comm]at hcl;obtain⟨⟨op,d,a,b,e,n,z⟩,hi⟩:∃i,l[j]=i:=⟨_,rfl⟩
   rw[hi]at hcl HNX;have y0:=hcl.at 0 (v:=.int .i64 op) rfl;rw[Nat.add_zero]at y0;have i1:(0:Int)<=(j:Int):=oM;have i2:(j:Int)<(M:Int):=oM;have wi:IntKind.i64.wrap ((j:Int)+1)=((j+1:Nat):Int):=by rw[IntKind.wrap_i64];omega
   have j7:j*7=7*j:=Nat.mul_comm _ _;obtain⟨P0,hP0⟩:∃P,AF l j=P:=⟨_,rfl⟩
   rw[hP0]at hO HNX HLE;rw[hP0];simp only at HNX;have HBJ:=A2 hbj;have HEW:=A2 hEw;have HO:=A2 hO;clear hi hbj hEw hO HJ hP0 hcl;by_cases ho:op=32\/op=33
   ·rw[if_pos ho]at HNX;obtain⟨p',q',w5,r1,r2,r3,-⟩:=F8 (LB:=LB) HO.out HEW.out (7*j+5) (by have:=HLE.out;omega) 51;rw[←HNX.out]at r2;have HR1:=A2 r1;have HR2:=A2 r2;have HR3:=A2 r3;have HLN:Hid ((AF l (j+1)).length=P0.length+1):=by show _=_;rw[HNX.out];simp
    clear r1 r2 r3 HNX;rcases ho with ho|ho
    ·have o1:(op==32)=true:=by simpa using ho
     exact MM
    ·have o1:(op==32)=false:=sO;have o2:(op==33)=true:=by simpa using ho
     exact MM
   ·rw[if_neg ho,List.append_nil]at HNX;have o1:(op==32)=false:=sO;have o2:(op==33)=false:=sO;clear ho;go_wp2;go_roundw
    case rel=>
     refine⟨j+1,q,d',oM,gN,by rw[HNX.out],HBJ.out,HEW.out,?_⟩;rw[HNX.out];exact HO.out
    case measure=>simp[intOf];omega
  ·have e9:¬ (j:Int)<(M:Int):=oM;have hjn:j=M:=oM;subst hjn;have HE2:=A2 (And.intro HJ.out.2.2 HJ.out.1);clear hlt HJ;go_wp2;refine bodyPost_ret (by simp[results,results15,go_sem, *];try rfl) rfl ?_;exact⟨_,_,rfl,HE2.out.1,HE2.out.2⟩
theorem BR{w:World}{b b' n n':Nat}{t t':TypeId}{f f':Nat->Value}(h:w.rowIs b t n f)(h':w.rowIs b' t' n' f')(ht:t≠t'):b≠b':=fun e=>by
 subst e;obtain⟨c,hc,-⟩:=h;obtain⟨c',hc',-⟩:=h';rw[hc]at hc';simp only[Option.some.injEq,Obj.cells.injEq]at hc';exact ht hc'.2.1
theorem AO{w:World}{B:Nat}{t t':TypeId}{k n n' b:Nat}{v:Value}{xs:List Value}{f:Nat->Value}(h:w.ownsRow B t k v n xs)(h':w.rowIs b t' n' f)(ht:t≠t'):v.ownBlock≠some b:=by
 exact MK
def DD(offs:List Nat)(val:Nat->Nat)(r:Nat):Bool:=offs.any fun o=>val o==r
theorem Ii{offs:List Nat}{j:Nat}(hj:j<offs.length)(val:Nat->Nat)(r:Nat):DD (offs.take (j+1)) val r=if r=val offs[j]then true else DD (offs.take j) val r:=by
 unfold DD;rw[List.take_succ_eq_append_getElem hj,List.any_append];by_cases e:r=val offs[j]
 ·rw[if_pos e,e];simp
 ·rw[if_neg e];have:(val offs[j]==r)=false:=by simpa using fun q=>e q.symm
  simp[this]
theorem GL{offs:List Nat}{val:Nat->Nat}{o:Nat}(h:o∈offs):DD offs val (val o)=true:=List.any_eq_true.2 ⟨o,h,sM⟩
def AN{α:Type}(p:Nat->Bool)(l:List α):Nat->List α
 |0=>[]
 |j+1=>AN p l j++(match l[j]? with |some x=>if p j then [x]else [] |none=>[])
theorem Ca{α:Type}(p:Nat->Bool){l:List α}{j:Nat}(hj:j<l.length):AN p l (j+1)=if p j=true then AN p l j++[l[j]]else AN p l j:=by
 rw[AN,List.getElem?_eq_getElem hj];by_cases hp:p j=true
 ·simp[hp]
 ·simp[hp]
theorem Fs{α:Type}(p:Nat->Bool)(l:List α):∀n,n<=l.length->((List.range n).filter p).filterMap (fun r=>l[r]?)=AN p l n
 |0,_=>rfl
 |n+1,h=>by
  rw[List.range_succ,List.filter_append,List.filterMap_append,Fs p l n oM,Ca p oM];by_cases hp:p n=true
  ·simp[hp,show n<l.length by omega]
  ·simp[hp]
theorem EB{α:Type}(p:Nat->Bool)(l:List α):AN p l l.length=Aq p l:=(Fs p l l.length (Nat.le_refl _)).symm
theorem Dn{α:Type}(p:Nat->Bool)(l:List α):∀n,n<=l.length->(AN p l n).length=Ad p n
 |0,_=>rfl
 |n+1,h=>by
  rw[Ca p oM,Di,←Dn p l n oM];split<;>simp
def By(p:Nat->Bool)(j r:Nat):Int:=if r<j/\p r=true then(Ad p r:Int)else 0
theorem Hi{p:Nat->Bool}{j:Nat}(hp:p j=true)(r:Nat):By p (j+1) r=if r=j then(Ad p j:Int)else By p j r:=by
 unfold By;by_cases e:r=j
 ·rw[if_pos e,if_pos ⟨oM,by rw[e];exact hp⟩,e]
 ·rw[if_neg e];by_cases h:r<j/\p r=true
  ·rw[if_pos h,if_pos ⟨oM,h.2⟩]
  ·rw[if_neg h,if_neg (fun q=>h ⟨oM,q.2⟩)]
theorem JS{p:Nat->Bool}{j:Nat}(hp:p j=false)(r:Nat):By p (j+1) r=By p j r:=by
 unfold By;by_cases h:r<j/\p r=true
 ·rw[if_pos h,if_pos ⟨oM,h.2⟩]
 ·have h2:¬ (r<j+1/\p r=true):=fun q=>by
   by_cases e:r=j
   ·rw[e,hp]at q;cases q.2
   ·exact h ⟨oM,q.2⟩
  rw[if_neg h,if_neg h2]
def fJ(offs:List Nat)(val:Nat->Nat)(f:Nat->Value)(j o:Nat):Value:=if o∈offs.take j then .int .i64 (Ad (DD offs val) (val o):Int)else f o
theorem GC{offs:List Nat}{j:Nat}(hj:j<offs.length)(val:Nat->Nat)(f:Nat->Value)(o:Nat):fJ offs val f (j+1) o=if o=offs[j]then .int .i64 (Ad (DD offs val) (val offs[j]):Int)else fJ offs val f j o:=by
 unfold fJ;rw[List.take_succ_eq_append_getElem hj];by_cases e:o=offs[j]
 ·rw[if_pos e,if_pos (List.mem_append.2 (.inr (by rw[e];exact List.mem_singleton.2 rfl))),e]
 ·rw[if_neg e];by_cases h:o∈offs.take j
  ·rw[if_pos h,if_pos (List.mem_append.2 (.inl h))]
  ·rw[if_neg h,if_neg (fun q=>(List.mem_append.1 q).elim h (fun q=>e (List.mem_singleton.1 q)))]
theorem Kj{offs:List Nat}(hn:offs.Nodup){j:Nat}(hj:j<offs.length)(val:Nat->Nat)(f:Nat->Value):fJ offs val f j offs[j]=f offs[j]:=by
 unfold fJ;rw[if_neg];intro hm;obtain⟨k,hk,e⟩:=List.mem_iff_getElem.1 hm;rw[List.length_take]at hk;rw[List.getElem_take]at e;have:=(List.getElem_inj hn).1 e;omega
structure L7(E IB K LB N0:Nat)(offs:List Nat)(val:Nat->Nat)(f:Nat->Value)(w w':World):Prop where
 bel:Below E w w'
 nm:w'.rowIs IB 4 K (fun r=>.bool (DD offs val r))
 li:N0=0\/w'.rowIs LB 40 N0 (fJ offs val f offs.length)
 oth:∀b,b<w.heap.size->b≠IB->b≠LB->w'.heap[b]? =w.heap[b]?
theorem KV(E:Nat)(w:World)(all:List Ty)(p1:Option Addr)(q1:Nat)(HA:∀v,Below E w v->AI 2 DH v (.slice p1 all.length q1) all)(offs:List Nat)(val:Nat->Nat)(LB N0:Nat)(f:Nat->Value)(hL:∀o∈offs,o<N0/\f o=.int .i64 (val o:Int)/\val o<all.length)(hLM:N0=0\/w.rowIs LB 40 N0 f)(pf:Option Addr)(qf:Nat)(hF:w.ownsRow E 79 1 (.slice pf offs.length qf) offs.length (BC LB offs))(IB K:Nat)(hI:w.rowIs IB 4 K (fun _=>.bool false))(hK:all.length<=K)(hE:E<=w.heap.size/\E<=IB/\E<=LB)(hnd:offs.Nodup)(ha:all.length<=16384)(ho:offs.length<=200000):
 Calls prog 12 #[.slice p1 all.length q1,.slice pf offs.length qf,.slice (some ⟨IB,0,none⟩) K K] w fun e w'=>∃pr qr,e=.returned (.slice pr (Aq (DD offs val) all).length qr)/\w'.ownsRow w.heap.size 50 2 (.slice pr (Aq (DD offs val) all).length qr) (Aq (DD offs val) all).length (Al DH (Aq (DD offs val) all))/\L7 E IB K LB N0 offs val f w w':=by
 have HAA:=A2 HA;have HL:=A2 hL;have HLM:=A2 hLM;have HF:=A2 hF;have HI:=A2 hI;have HEE:=A2 hE;have HND:=A2 hnd;have HO1:Hid (∀j (hj:j<offs.length),∃FB,pf=some ⟨FB,0,none⟩/\(∃c,w.heap[FB]? =some (.cells c 79 (0,0)))/\FB<w.heap.size/\w.cell? ⟨FB,j,none⟩=some (.pointer (some ⟨LB,offs[j],none⟩))):=fun j hj=>by
  exact MJ
 obtain⟨A,hA⟩:∃A,all.length=A:=⟨_,rfl⟩
 obtain⟨n,hn⟩:∃n,offs.length=n:=⟨_,rfl⟩
 have HAL:=A2 hA;have HNL:=A2 hn;simp only[hA]at HAA HL hK ha ⊢;simp only[hn]at HF ho ⊢;have m1:=fun v=>Gg A oM v;obtain⟨nm,hnm⟩:∃nm,DD offs val=nm:=⟨_,rfl⟩
 have HNM:=A2 hnm;simp only[hnm];obtain⟨H0,hH0⟩:∃H,w.heap.size=H:=⟨_,rfl⟩
 have HH0:=A2 hH0;simp only[hH0]at HEE;rw[hH0];clear HA hL hLM hF hI hE hnd hA hn hH0 hnm;go_enter func12,ntmps12;go_wp2
 go_loopw [17] (fun iv wr=>∃j:Nat,j<=n/\iv=.int .i64 (j:Int)/\Hid (Below E w wr/\wr.rowIs IB 4 K (fun r=>.bool (DD (offs.take j) val r))/\(∀b,b<H0->b≠IB->wr.heap[b]? =w.heap[b]?)/\H0<=wr.heap.size)) (fun iv _=>n-(intOf iv).toNat)
 case atStart=>
  refine⟨0,Nat.zero_le _,rfl,Below.refl E w,HI.out,fun _ _ _=>rfl,by rw[HH0.out];exact Nat.le_refl _⟩
 case round=>
  obtain⟨j,hj,rfl,HJ⟩:=hrel;by_cases hlt:j<n
  ·exact Mu
  ·have e9:¬ (j:Int)<(n:Int):=oM;have hjn:j=offs.length:=by have:=HNL.out;omega
   obtain⟨hbj,hIj,hoth,hsz⟩:=HJ.out;rw[hjn,List.take_length]at hIj;have i0:(0:Int)<=(A:Int):=oM;obtain⟨V,hV⟩:∃V,wr.alloc (.cells (madeCells #[.int .i64 0] A) 3)=V:=⟨_,rfl⟩
   have HBV:Hid (Below wr.heap.size wr V):=by rw[←hV];exact A0 _ _
   obtain⟨XB,hXB⟩:∃X,wr.heap.size=X:=⟨_,rfl⟩
   have hXr:V.rowIs XB 3 A (fun _=>.int .i64 0):=by rw[←hV,←hXB];exact World.rowIs_made wr (.int .i64 0) A 3
   rw[HNM.out]at hIj;have HK0:Hid (Below E w V/\V.rowIs IB 4 K (fun r=>.bool (nm r))/\(∀b,b<H0->b≠IB->V.heap[b]? =w.heap[b]?)/\H0<=XB/\H0<=V.heap.size/\V.rowIs XB 3 A (fun r=>.int .i64 (By nm 0 r))/\V.ownsRow H0 50 2 (.slice none 0 0) (AN nm all 0).length (Al DH (AN nm all 0))):=by
    have hE:=HEE.out.1;refine⟨hbj.trans (HBV.out.mono (Nat.le_trans hE hsz)),hIj.of_block (HBV.out.block _ hIj.lt),fun b hb hne=>(HBV.out.block b (Nat.lt_of_lt_of_le hb hsz)).trans (hoth b hb hne),by rw[←hXB];exact hsz,Nat.le_trans hsz HBV.out.size,hXr.congr fun r hr=>?_,World.ownsRow_nil _ _ _ 2⟩;unfold By;rw[if_neg oM]
   clear hlt hjn hbj hIj hoth hsz hXr HJ HBV;go_wp2;try rw[hV]
   try rw[hXB]
   clear hV hXB
   go_loopw [32,9] (fun iv lv wr=>∃ (j:Nat) (pl:Option Addr) (ql:Nat),j<=A/\iv=.int .i64 (j:Int)/\lv=.slice pl (AN nm all j).length ql/\Hid (Below E w wr/\wr.rowIs IB 4 K (fun r=>.bool (nm r))/\(∀b,b<H0->b≠IB->wr.heap[b]? =w.heap[b]?)/\H0<=XB/\H0<=wr.heap.size/\wr.rowIs XB 3 A (fun r=>.int .i64 (By nm j r))/\wr.ownsRow H0 50 2 (.slice pl (AN nm all j).length ql) (AN nm all j).length (Al DH (AN nm all j)))) (fun iv _ _=>A-(intOf iv).toNat)
   case atStart=>exact⟨0,none,0,Nat.zero_le _,rfl,rfl,HK0.out⟩
   case round=>
    clear HK0;obtain⟨j,pl,ql,hj,rfl,rfl,HJ⟩:=hrel;by_cases hlt:j<A
    ·have hjl:j<all.length:=by have:=HAL.out;omega
     obtain⟨hbj,hIj,hoth,hX0,hsz,hXj,hO⟩:=HJ.out;obtain⟨lb,lo,rfl,hcl⟩:=(HAA.out wr hbj).at hjl;have HPN:=A2 (Ca nm hjl);have hpl:(AN nm all j).length=Ad nm j:=Dn nm all j oM;have hcu:Ad nm j<=16384:=by have h9:Ad nm j<=j:=Nat.le_trans (List.length_filter_le _ _) sM;omega
     obtain⟨⟨kd,pr⟩,hi⟩:∃i,all[j]=i:=⟨_,rfl⟩
     rw[hi]at hcl HPN;have y0:=hcl.at 0 (v:=.int .i64 kd) rfl;rw[Nat.add_zero]at y0;have y1:=hcl.at 1 (v:=.int .i64 pr) rfl;have llb:lb<wr.heap.size:=Ac y0;have n9:¬lb=wr.heap.size:=oM;have i1:(0:Int)<=(j:Int):=oM;have i2:(j:Int)<(A:Int):=oM;have i3:(j:Int)<(K:Int):=oM;have wi:IntKind.i64.wrap ((j:Int)+1)=((j+1:Nat):Int):=by rw[IntKind.wrap_i64];omega
     obtain⟨V2,hV2⟩:∃V,wr.alloc (.cells #[.int .i64 kd,.int .i64 pr] 50)=V:=⟨_,rfl⟩
     have HB2:Hid (Below wr.heap.size wr V2):=by rw[←hV2];exact A0 _ _
     have hX2:V2.rowIs wr.heap.size 50 2 (BH #[.int .i64 kd,.int .i64 pr]):=by rw[←hV2];exact AH wr _ _
     have x0:V2.cell? ⟨wr.heap.size,0,none⟩=some (.int .i64 kd):=hX2.cell (i:=0) dE;have x1:V2.cell? ⟨wr.heap.size,1,none⟩=some (.int .i64 pr):=hX2.cell (i:=1) dE;have HXB2:=A2 hX2;have hI2:=hIj.of_block (HB2.out.block _ hIj.lt);have hXJ2:=hXj.of_block (HB2.out.block _ hXj.lt);have hO2:=Ak hO HB2.out;have hd:=hI2.cell (show j<K by omega);have hn2:=hXJ2.cell hlt;have hf2:=hXJ2.frozen j;have HBV:Hid (Below E w V2):=hbj.trans (HB2.out.mono (Nat.le_trans HEE.out.1 hsz));have HOT:Hid (∀b,b<H0->b≠IB->V2.heap[b]? =w.heap[b]?):=fun b hb hne=>(HB2.out.block b (Nat.lt_of_lt_of_le hb hsz)).trans (hoth b hb hne);have HS2:Hid (H0<=XB/\H0<=V2.heap.size):=⟨hX0,Nat.le_trans hsz HB2.out.size⟩
     have HI2:=A2 hI2;have HX2:=A2 hXJ2;have HO2:=A2 hO2;obtain⟨P0,hP0⟩:∃P,AN nm all j=P:=⟨_,rfl⟩
     rw[hP0]at HO2 HPN hpl;rw[hP0];have HPL:=A2 hpl;have HCU:=A2 hcu;clear hbj hIj hoth hX0 hsz hXj hO hcl hi llb hX2 hI2 hXJ2 hO2 HJ hP0 hpl hcu;cases hb:nm j with
     |true=>
      rw[hb]at hd HPN;simp only[if_true]at HPN;obtain⟨W3,hW3⟩:∃W,V2.setCell ⟨XB,j,none⟩ (.int .i64 (P0.length:Int))=W:=⟨_,rfl⟩
      have nXB:XB≠V2.heap.size:=by have:=HX2.out.lt;omega
      have hOX:=AO HO2.out HX2.out dE;have hO3:=A7 HO2.out (w':=W3) (fun g hg=>by rw[←hW3];exact Below.heap_setCell _ _ _ _ (fun(q:g=XB)=>hOX (by rw[←q];exact hg)));have hX3:W3.rowIs XB 3 A (fun r=>.int .i64 (By nm (j+1) r)):=by
       exact MT
      have hI3:W3.rowIs IB 4 K (fun r=>.bool (nm r)):=by rw[←hW3];exact HI2.out.setOther (a:=⟨XB,j,none⟩) (BR HI2.out HX2.out dE) _
      have hB3:W3.rowIs wr.heap.size 50 2 (BH #[.int .i64 kd,.int .i64 pr]):=by rw[←hW3];exact HXB2.out.setOther (a:=⟨XB,j,none⟩) (BR HXB2.out HX2.out dE) _
      have hBW:Below E w W3:=by rw[←hW3];exact HBV.out.setCell (Nat.le_trans HEE.out.1 HS2.out.1) _
      have hOT3:∀b,b<H0->b≠IB->W3.heap[b]? =w.heap[b]? :=fun b hb' hne=>by rw[←hW3];exact(Below.heap_setCell _ _ _ _ (fun(q:b=XB)=>by have:=HS2.out.1;omega)).trans (HOT.out b hb' hne)
      have hS3:H0<=W3.heap.size:=by rw[←hW3];simpa using HS2.out.2
      obtain⟨g,cq,w6,hr,hb6,ho6,hoth6,hat⟩:=E5 (t:=23) (e:=50) underlying23 Hb rF dE hO3 hS3 #[.int .i64 kd,.int .i64 pr] rfl Kt N6 (by have:=HPL.out;have:=HCU.out;omega) 23;have z0:W3.cell? ⟨wr.heap.size,0,none⟩=some (.int .i64 kd):=hB3.cell (i:=0) dE;have z1:W3.cell? ⟨wr.heap.size,1,none⟩=some (.int .i64 pr):=hB3.cell (i:=1) dE;have HR:=A2 hr;have HN6:Hid (Below E w w6/\w6.rowIs IB 4 K (fun r=>.bool (nm r))/\(∀b,b<H0->b≠IB->w6.heap[b]? =w.heap[b]?)/\H0<=XB/\H0<=w6.heap.size/\w6.rowIs XB 3 A (fun r=>.int .i64 (By nm (j+1) r))/\w6.ownsRow H0 50 2 (.slice (some ⟨g,0,none⟩) (P0.length+1) cq) (P0.length+1) (Al DH (P0++[(⟨kd,pr⟩:Ty)]))):=by
       refine⟨hBW.trans (hb6.mono HEE.out.1),hI3.of_block (hoth6 _ hI3.lt (AO hO3 hI3 dE)),fun b hb' hne=>(hb6.block b hb').trans (hOT3 b hb' hne),HS2.out.1,Nat.le_trans hS3 hb6.size,hX3.of_block (hoth6 _ hX3.lt (AO hO3 hX3 dE)),?_⟩;have e9:Al DH (P0++[(⟨kd,pr⟩:Ty)])=Al DH P0++[.int .i64 kd,.int .i64 pr]:=by simp[Al,DH]
       rw[e9];exact ho6
      obtain⟨PL,hPL⟩:∃k,P0.length+1=k:=⟨_,rfl⟩
      have HPL1:=A2 hPL;rw[hPL]at HR HN6;clear hr hb6 ho6 hoth6 hat hb hPL hO3 hX3 hI3 hB3 hBW hOT3 hS3 hOX nXB;go_upto_region 11 with fail;try rw[hV2]
      go_upto_region 13 with fail;try rw[hW3]
      go_wp2_with(at_builtin;refine B2 rF _ _ _ rF _ _ _ rF rF HR.out ?_);go_roundw
      case rel=>
       refine⟨j+1,some ⟨g,0,none⟩,cq,oM,gN,?_,?_⟩
       ·rw[HPN.out,List.length_append];exact congrArg (fun k=>Value.slice _ k _) HPL1.out.symm
       ·rw[HPN.out,List.length_append,show P0.length+[(⟨kd,pr⟩:Ty)].length=PL from HPL1.out];exact HN6.out
      case measure=>simp[intOf];omega
     |false=>
      exact MI
    ·have e8:¬ (j:Int)<(A:Int):=oM;have hjn:j=A:=oM;subst hjn;obtain⟨hbj,hIj,hoth,hX0,hsz,hXj,hO⟩:=HJ.out;have HPU:Hid (AN nm all j=Aq nm all):=by show _=_;rw[←EB,HAL.out]
     rw[HPU.out]at hO;rw[HPU.out];obtain⟨PN,hPN⟩:∃k,(Aq nm all).length=k:=⟨_,rfl⟩
     have HPNL:=A2 hPN;rw[hPN]at hO;rw[hPN];have HK0:Hid (Below E w wr/\wr.rowIs IB 4 K (fun r=>.bool (nm r))/\(∀b,b<H0->b≠IB->b≠LB->wr.heap[b]? =w.heap[b]?)/\H0<=XB/\wr.rowIs XB 3 j (fun r=>.int .i64 (By nm j r))/\wr.ownsRow H0 50 2 (.slice pl PN ql) PN (Al DH (Aq nm all))/\(N0=0\/wr.rowIs LB 40 N0 (fJ offs val f 0))):=by
      exact ML
     clear hlt hbj hIj hoth hX0 hsz hXj hO HJ hPN HPU m1;go_wp2
     go_loopw [53] (fun iv wr=>∃m:Nat,m<=n/\iv=.int .i64 (m:Int)/\Hid (Below E w wr/\wr.rowIs IB 4 K (fun r=>.bool (nm r))/\(∀b,b<H0->b≠IB->b≠LB->wr.heap[b]? =w.heap[b]?)/\H0<=XB/\wr.rowIs XB 3 j (fun r=>.int .i64 (By nm j r))/\wr.ownsRow H0 50 2 (.slice pl PN ql) PN (Al DH (Aq nm all))/\(N0=0\/wr.rowIs LB 40 N0 (fJ offs val f m)))) (fun iv _=>n-(intOf iv).toNat)
     case atStart=>exact⟨0,Nat.zero_le _,rfl,HK0.out⟩
     case round=>
      clear HK0;obtain⟨m,hm,rfl,HJ⟩:=hrel;by_cases hlt:m<n
      ·have hml:m<offs.length:=by have:=HNL.out;omega
       obtain⟨hbj,hIj,hoth,hX0,hXj,hO,hLj⟩:=HJ.out;obtain⟨FB,rfl,⟨cF,hcF⟩,lF,hc⟩:=HO1.out m hml;obtain⟨l1,l2,l3⟩:=HL.out _ (List.getElem_mem hml);have hLr:wr.rowIs LB 40 N0 (fJ offs val f m):=hLj.resolve_left oM;have hLw:w.rowIs LB 40 N0 f:=HLM.out.resolve_left oM;have nFI:FB≠IB:=fun e=>by
        obtain⟨c,hc',-⟩:=HI.out;exact Lz
       have nFL:FB≠LB:=fun e=>by
        obtain⟨c,hc',-⟩:=hLw;exact Lz
       have h0:=HH0.out;have x0:wr.cell? ⟨FB,m,none⟩=some (.pointer (some ⟨LB,offs[m],none⟩)):=(World.cell?_of_block (a:=⟨FB,m,none⟩) (hoth FB oM nFI nFL)).trans hc;have x1:wr.cell? ⟨LB,offs[m],none⟩=some (.int .i64 (val offs[m]:Int)):=by
        rw[←l2,←Kj HND.out hml val f];exact hLr.cell l1
       have x2:=hLr.frozen offs[m];have hnv:By nm j (val offs[m])=(Ad nm (val offs[m]):Int):=by
        unfold By;rw[if_pos ⟨l3,by rw[←HNM.out];exact GL (List.getElem_mem hml)⟩]
       have x3:=hXj.cell l3;rw[hnv]at x3;have HFN:=A2 (fun o=>GC hml val f o);have HLX:Hid (LB≠XB/\LB≠IB/\E<=LB):=⟨BR hLr hXj dE,BR hLr hIj dE,HEE.out.2.2⟩
       obtain⟨o,ho'⟩:∃o,offs[m]=o:=⟨_,rfl⟩
       rw[ho']at x0 x1 x2 x3 l3 HFN;obtain⟨r,hr⟩:∃r,val o=r:=⟨_,rfl⟩
       rw[hr]at x1 x3 l3;simp only[hr,HNM.out]at HFN;obtain⟨cr,hcr⟩:∃c,Ad nm r=c:=⟨_,rfl⟩
       rw[hcr]at x3;simp only[hcr]at HFN;have i1:(0:Int)<=(m:Int):=oM;have i2:(m:Int)<(n:Int):=oM;have i3:(0:Int)<=(r:Int):=oM;have i4:(r:Int)<(j:Int):=oM;have wi:IntKind.i64.wrap ((m:Int)+1)=((m+1:Nat):Int):=by rw[IntKind.wrap_i64];omega
       have HNX:Hid (Below E w (wr.setCell ⟨LB,o,none⟩ (.int .i64 (cr:Int)))/\(wr.setCell ⟨LB,o,none⟩ (.int .i64 (cr:Int))).rowIs IB 4 K (fun r=>.bool (nm r))/\(∀b,b<H0->b≠IB->b≠LB->(wr.setCell ⟨LB,o,none⟩ (.int .i64 (cr:Int))).heap[b]? =w.heap[b]?)/\H0<=XB/\(wr.setCell ⟨LB,o,none⟩ (.int .i64 (cr:Int))).rowIs XB 3 j (fun r=>.int .i64 (By nm j r))/\(wr.setCell ⟨LB,o,none⟩ (.int .i64 (cr:Int))).ownsRow H0 50 2 (.slice pl PN ql) PN (Al DH (Aq nm all))/\(N0=0\/(wr.setCell ⟨LB,o,none⟩ (.int .i64 (cr:Int))).rowIs LB 40 N0 (fJ offs val f (m+1)))):=by
        exact MG
       exact MR
      ·have e7:¬ (m:Int)<(n:Int):=oM;have hmn:m=offs.length:=by have:=HNL.out;omega
       have HFI:Hid (wr.ownsRow H0 50 2 (.slice pl PN ql) PN (Al DH (Aq nm all))/\L7 E IB K LB N0 offs val f w wr):=by
        exact MS
       have HPNL':=HPNL;clear hlt HJ hmn;go_wp2;refine bodyPost_ret (by simp[results,results12,go_sem, *];try rfl) rfl ?_;exact MU
theorem KU(E:Nat)(w:World)(all:List Sl)(p1:Option Addr)(q1:Nat)(HA:∀v,Below E w v->AI 5 Eu v (.slice p1 all.length q1) all)(offs:List Nat)(val:Nat->Nat)(LB N0:Nat)(f:Nat->Value)(hL:∀o∈offs,o<N0/\f o=.int .i64 (val o:Int)/\val o<all.length)(hLM:N0=0\/w.rowIs LB 40 N0 f)(pf:Option Addr)(qf:Nat)(hF:w.ownsRow E 79 1 (.slice pf offs.length qf) offs.length (BC LB offs))(IB K:Nat)(hI:w.rowIs IB 4 K (fun _=>.bool false))(hK:all.length<=K)(hE:E<=w.heap.size/\E<=IB/\E<=LB)(hnd:offs.Nodup)(ha:all.length<=16384)(ho:offs.length<=200000):
 Calls prog 14 #[.slice p1 all.length q1,.slice pf offs.length qf,.slice (some ⟨IB,0,none⟩) K K] w fun e w'=>∃pr qr,e=.returned (.slice pr (Aq (DD offs val) all).length qr)/\w'.ownsRow w.heap.size 55 5 (.slice pr (Aq (DD offs val) all).length qr) (Aq (DD offs val) all).length (Al Eu (Aq (DD offs val) all))/\L7 E IB K LB N0 offs val f w w':=by
 have HAA:=A2 HA;have HL:=A2 hL;have HLM:=A2 hLM;have HF:=A2 hF;have HI:=A2 hI;have HEE:=A2 hE;have HND:=A2 hnd;have HO1:Hid (∀j (hj:j<offs.length),∃FB,pf=some ⟨FB,0,none⟩/\(∃c,w.heap[FB]? =some (.cells c 79 (0,0)))/\FB<w.heap.size/\w.cell? ⟨FB,j,none⟩=some (.pointer (some ⟨LB,offs[j],none⟩))):=fun j hj=>by
  exact MJ
 obtain⟨A,hA⟩:∃A,all.length=A:=⟨_,rfl⟩
 obtain⟨n,hn⟩:∃n,offs.length=n:=⟨_,rfl⟩
 have HAL:=A2 hA;have HNL:=A2 hn;simp only[hA]at HAA HL hK ha ⊢;simp only[hn]at HF ho ⊢;have m1:=fun v=>Gg A oM v;obtain⟨nm,hnm⟩:∃nm,DD offs val=nm:=⟨_,rfl⟩
 have HNM:=A2 hnm;simp only[hnm];obtain⟨H0,hH0⟩:∃H,w.heap.size=H:=⟨_,rfl⟩
 have HH0:=A2 hH0;simp only[hH0]at HEE;rw[hH0];clear HA hL hLM hF hI hE hnd hA hn hH0 hnm;go_enter func14,ntmps14;go_wp2
 go_loopw [17] (fun iv wr=>∃j:Nat,j<=n/\iv=.int .i64 (j:Int)/\Hid (Below E w wr/\wr.rowIs IB 4 K (fun r=>.bool (DD (offs.take j) val r))/\(∀b,b<H0->b≠IB->wr.heap[b]? =w.heap[b]?)/\H0<=wr.heap.size)) (fun iv _=>n-(intOf iv).toNat)
 case atStart=>
  refine⟨0,Nat.zero_le _,rfl,Below.refl E w,HI.out,fun _ _ _=>rfl,by rw[HH0.out];exact Nat.le_refl _⟩
 case round=>
  obtain⟨j,hj,rfl,HJ⟩:=hrel;by_cases hlt:j<n
  ·exact Mu
  ·have e9:¬ (j:Int)<(n:Int):=oM;have hjn:j=offs.length:=by have:=HNL.out;omega
   obtain⟨hbj,hIj,hoth,hsz⟩:=HJ.out;rw[hjn,List.take_length]at hIj;have i0:(0:Int)<=(A:Int):=oM;obtain⟨V,hV⟩:∃V,wr.alloc (.cells (madeCells #[.int .i64 0] A) 3)=V:=⟨_,rfl⟩
   have HBV:Hid (Below wr.heap.size wr V):=by rw[←hV];exact A0 _ _
   obtain⟨XB,hXB⟩:∃X,wr.heap.size=X:=⟨_,rfl⟩
   have hXr:V.rowIs XB 3 A (fun _=>.int .i64 0):=by rw[←hV,←hXB];exact World.rowIs_made wr (.int .i64 0) A 3
   rw[HNM.out]at hIj;have HK0:Hid (Below E w V/\V.rowIs IB 4 K (fun r=>.bool (nm r))/\(∀b,b<H0->b≠IB->V.heap[b]? =w.heap[b]?)/\H0<=XB/\H0<=V.heap.size/\V.rowIs XB 3 A (fun r=>.int .i64 (By nm 0 r))/\V.ownsRow H0 55 5 (.slice none 0 0) (AN nm all 0).length (Al Eu (AN nm all 0))):=by
    have hE:=HEE.out.1;refine⟨hbj.trans (HBV.out.mono (Nat.le_trans hE hsz)),hIj.of_block (HBV.out.block _ hIj.lt),fun b hb hne=>(HBV.out.block b (Nat.lt_of_lt_of_le hb hsz)).trans (hoth b hb hne),by rw[←hXB];exact hsz,Nat.le_trans hsz HBV.out.size,hXr.congr fun r hr=>?_,World.ownsRow_nil _ _ _ 5⟩;unfold By;rw[if_neg oM]
   clear hlt hjn hbj hIj hoth hsz hXr HJ HBV;go_wp2;try rw[hV]
   try rw[hXB]
   clear hV hXB
   go_loopw [32,9] (fun iv lv wr=>∃ (j:Nat) (pl:Option Addr) (ql:Nat),j<=A/\iv=.int .i64 (j:Int)/\lv=.slice pl (AN nm all j).length ql/\Hid (Below E w wr/\wr.rowIs IB 4 K (fun r=>.bool (nm r))/\(∀b,b<H0->b≠IB->wr.heap[b]? =w.heap[b]?)/\H0<=XB/\H0<=wr.heap.size/\wr.rowIs XB 3 A (fun r=>.int .i64 (By nm j r))/\wr.ownsRow H0 55 5 (.slice pl (AN nm all j).length ql) (AN nm all j).length (Al Eu (AN nm all j)))) (fun iv _ _=>A-(intOf iv).toNat)
   case atStart=>exact⟨0,none,0,Nat.zero_le _,rfl,rfl,HK0.out⟩
   case round=>
    clear HK0;obtain⟨j,pl,ql,hj,rfl,rfl,HJ⟩:=hrel;by_cases hlt:j<A
    ·have hjl:j<all.length:=by have:=HAL.out;omega
     obtain⟨hbj,hIj,hoth,hX0,hsz,hXj,hO⟩:=HJ.out;obtain⟨lb,lo,rfl,hcl⟩:=(HAA.out wr hbj).at hjl;have HPN:=A2 (Ca nm hjl);have hpl:(AN nm all j).length=Ad nm j:=Dn nm all j oM;have hcu:Ad nm j<=16384:=by have h9:Ad nm j<=j:=Nat.le_trans (List.length_filter_le _ _) sM;omega
     obtain⟨⟨⟨kd,pr⟩,kp,bt,it⟩,hi⟩:∃i,all[j]=i:=⟨_,rfl⟩
     rw[hi]at hcl HPN;have y0:=hcl.at 0 (v:=.int .i64 kd) rfl;rw[Nat.add_zero]at y0;have y1:=hcl.at 1 (v:=.int .i64 pr) rfl;have y2:=hcl.at 2 (v:=.bool kp) rfl;have y3:=hcl.at 3 (v:=.int .u32 bt) rfl;have y4:=hcl.at 4 (v:=.int .i64 it) rfl;have llb:lb<wr.heap.size:=Ac y0;have n9:¬lb=wr.heap.size:=oM;have i1:(0:Int)<=(j:Int):=oM;have i2:(j:Int)<(A:Int):=oM;have i3:(j:Int)<(K:Int):=oM;have wi:IntKind.i64.wrap ((j:Int)+1)=((j+1:Nat):Int):=by rw[IntKind.wrap_i64];omega
     obtain⟨V2,hV2⟩:∃V,wr.alloc (.cells #[.int .i64 kd,.int .i64 pr,.bool kp,.int .u32 bt,.int .i64 it] 55)=V:=⟨_,rfl⟩
     have HB2:Hid (Below wr.heap.size wr V2):=by rw[←hV2];exact A0 _ _
     have hX2:V2.rowIs wr.heap.size 55 5 (BH #[.int .i64 kd,.int .i64 pr,.bool kp,.int .u32 bt,.int .i64 it]):=by rw[←hV2];exact AH wr _ _
     have x0:V2.cell? ⟨wr.heap.size,0,none⟩=some (.int .i64 kd):=hX2.cell (i:=0) dE;have x1:V2.cell? ⟨wr.heap.size,1,none⟩=some (.int .i64 pr):=hX2.cell (i:=1) dE;have x2:V2.cell? ⟨wr.heap.size,2,none⟩=some (.bool kp):=hX2.cell (i:=2) dE;have x3:V2.cell? ⟨wr.heap.size,3,none⟩=some (.int .u32 bt):=hX2.cell (i:=3) dE;have x4:V2.cell? ⟨wr.heap.size,4,none⟩=some (.int .i64 it):=hX2.cell (i:=4) dE;have HXB2:=A2 hX2;have hI2:=hIj.of_block (HB2.out.block _ hIj.lt);have hXJ2:=hXj.of_block (HB2.out.block _ hXj.lt);have hO2:=Ak hO HB2.out;have hd:=hI2.cell (show j<K by omega);have hn2:=hXJ2.cell hlt;have hf2:=hXJ2.frozen j;have HBV:Hid (Below E w V2):=hbj.trans (HB2.out.mono (Nat.le_trans HEE.out.1 hsz));have HOT:Hid (∀b,b<H0->b≠IB->V2.heap[b]? =w.heap[b]?):=fun b hb hne=>(HB2.out.block b (Nat.lt_of_lt_of_le hb hsz)).trans (hoth b hb hne);have HS2:Hid (H0<=XB/\H0<=V2.heap.size):=⟨hX0,Nat.le_trans hsz HB2.out.size⟩
     have HI2:=A2 hI2;have HX2:=A2 hXJ2;have HO2:=A2 hO2;obtain⟨P0,hP0⟩:∃P,AN nm all j=P:=⟨_,rfl⟩
     rw[hP0]at HO2 HPN hpl;rw[hP0];have HPL:=A2 hpl;have HCU:=A2 hcu;clear hbj hIj hoth hX0 hsz hXj hO hcl hi llb hX2 hI2 hXJ2 hO2 HJ hP0 hpl hcu;cases hb:nm j with
     |true=>
      rw[hb]at hd HPN;simp only[if_true]at HPN;obtain⟨W3,hW3⟩:∃W,V2.setCell ⟨XB,j,none⟩ (.int .i64 (P0.length:Int))=W:=⟨_,rfl⟩
      have nXB:XB≠V2.heap.size:=by have:=HX2.out.lt;omega
      have hOX:=AO HO2.out HX2.out dE;have hO3:=A7 HO2.out (w':=W3) (fun g hg=>by rw[←hW3];exact Below.heap_setCell _ _ _ _ (fun(q:g=XB)=>hOX (by rw[←q];exact hg)));have hX3:W3.rowIs XB 3 A (fun r=>.int .i64 (By nm (j+1) r)):=by
       exact MT
      have hI3:W3.rowIs IB 4 K (fun r=>.bool (nm r)):=by rw[←hW3];exact HI2.out.setOther (a:=⟨XB,j,none⟩) (BR HI2.out HX2.out dE) _
      have hB3:W3.rowIs wr.heap.size 55 5 (BH #[.int .i64 kd,.int .i64 pr,.bool kp,.int .u32 bt,.int .i64 it]):=by rw[←hW3];exact HXB2.out.setOther (a:=⟨XB,j,none⟩) (BR HXB2.out HX2.out dE) _
      have hBW:Below E w W3:=by rw[←hW3];exact HBV.out.setCell (Nat.le_trans HEE.out.1 HS2.out.1) _
      have hOT3:∀b,b<H0->b≠IB->W3.heap[b]? =w.heap[b]? :=fun b hb' hne=>by rw[←hW3];exact(Below.heap_setCell _ _ _ _ (fun(q:b=XB)=>by have:=HS2.out.1;omega)).trans (HOT.out b hb' hne)
      have hS3:H0<=W3.heap.size:=by rw[←hW3];simpa using HS2.out.2
      obtain⟨g,cq,w6,hr,hb6,ho6,hoth6,hat⟩:=E5 (t:=24) (e:=55) underlying24 Ha rF dE hO3 hS3 #[.int .i64 kd,.int .i64 pr,.bool kp,.int .u32 bt,.int .i64 it] rfl Kt N6 (by have:=HPL.out;have:=HCU.out;omega) 24;have z0:W3.cell? ⟨wr.heap.size,0,none⟩=some (.int .i64 kd):=hB3.cell (i:=0) dE;have z1:W3.cell? ⟨wr.heap.size,1,none⟩=some (.int .i64 pr):=hB3.cell (i:=1) dE;have z2:W3.cell? ⟨wr.heap.size,2,none⟩=some (.bool kp):=hB3.cell (i:=2) dE;have z3:W3.cell? ⟨wr.heap.size,3,none⟩=some (.int .u32 bt):=hB3.cell (i:=3) dE;have z4:W3.cell? ⟨wr.heap.size,4,none⟩=some (.int .i64 it):=hB3.cell (i:=4) dE;have HR:=A2 hr;have HN6:Hid (Below E w w6/\w6.rowIs IB 4 K (fun r=>.bool (nm r))/\(∀b,b<H0->b≠IB->w6.heap[b]? =w.heap[b]?)/\H0<=XB/\H0<=w6.heap.size/\w6.rowIs XB 3 A (fun r=>.int .i64 (By nm (j+1) r))/\w6.ownsRow H0 55 5 (.slice (some ⟨g,0,none⟩) (P0.length+1) cq) (P0.length+1) (Al Eu (P0++[(⟨⟨kd,pr⟩,kp,bt,it⟩:Sl)]))):=by
       refine⟨hBW.trans (hb6.mono HEE.out.1),hI3.of_block (hoth6 _ hI3.lt (AO hO3 hI3 dE)),fun b hb' hne=>(hb6.block b hb').trans (hOT3 b hb' hne),HS2.out.1,Nat.le_trans hS3 hb6.size,hX3.of_block (hoth6 _ hX3.lt (AO hO3 hX3 dE)),?_⟩;have e9:Al Eu (P0++[(⟨⟨kd,pr⟩,kp,bt,it⟩:Sl)])=Al Eu P0++[.int .i64 kd,.int .i64 pr,.bool kp,.int .u32 bt,.int .i64 it]:=by simp[Al,Eu]
       rw[e9];exact ho6
      obtain⟨PL,hPL⟩:∃k,P0.length+1=k:=⟨_,rfl⟩
      have HPL1:=A2 hPL;rw[hPL]at HR HN6;clear hr hb6 ho6 hoth6 hat hb hPL hO3 hX3 hI3 hB3 hBW hOT3 hS3 hOX nXB;go_upto_region 11 with fail;try rw[hV2]
      go_upto_region 13 with fail;try rw[hW3]
      go_wp2_with(at_builtin;refine B2 rF _ _ _ rF _ _ _ rF rF HR.out ?_);go_roundw
      case rel=>
       refine⟨j+1,some ⟨g,0,none⟩,cq,oM,gN,?_,?_⟩
       ·rw[HPN.out,List.length_append];exact congrArg (fun k=>Value.slice _ k _) HPL1.out.symm
       ·rw[HPN.out,List.length_append,show P0.length+[(⟨⟨kd,pr⟩,kp,bt,it⟩:Sl)].length=PL from HPL1.out];exact HN6.out
      case measure=>simp[intOf];omega
     |false=>
      exact MI
    ·have e8:¬ (j:Int)<(A:Int):=oM;have hjn:j=A:=oM;subst hjn;obtain⟨hbj,hIj,hoth,hX0,hsz,hXj,hO⟩:=HJ.out;have HPU:Hid (AN nm all j=Aq nm all):=by show _=_;rw[←EB,HAL.out]
     rw[HPU.out]at hO;rw[HPU.out];obtain⟨PN,hPN⟩:∃k,(Aq nm all).length=k:=⟨_,rfl⟩
     have HPNL:=A2 hPN;rw[hPN]at hO;rw[hPN];have HK0:Hid (Below E w wr/\wr.rowIs IB 4 K (fun r=>.bool (nm r))/\(∀b,b<H0->b≠IB->b≠LB->wr.heap[b]? =w.heap[b]?)/\H0<=XB/\wr.rowIs XB 3 j (fun r=>.int .i64 (By nm j r))/\wr.ownsRow H0 55 5 (.slice pl PN ql) PN (Al Eu (Aq nm all))/\(N0=0\/wr.rowIs LB 40 N0 (fJ offs val f 0))):=by
      exact ML
     clear hlt hbj hIj hoth hX0 hsz hXj hO HJ hPN HPU m1;go_wp2
     go_loopw [53] (fun iv wr=>∃m:Nat,m<=n/\iv=.int .i64 (m:Int)/\Hid (Below E w wr/\wr.rowIs IB 4 K (fun r=>.bool (nm r))/\(∀b,b<H0->b≠IB->b≠LB->wr.heap[b]? =w.heap[b]?)/\H0<=XB/\wr.rowIs XB 3 j (fun r=>.int .i64 (By nm j r))/\wr.ownsRow H0 55 5 (.slice pl PN ql) PN (Al Eu (Aq nm all))/\(N0=0\/wr.rowIs LB 40 N0 (fJ offs val f m)))) (fun iv _=>n-(intOf iv).toNat)
     case atStart=>exact⟨0,Nat.zero_le _,rfl,HK0.out⟩
     case round=>
      clear HK0;obtain⟨m,hm,rfl,HJ⟩:=hrel;by_cases hlt:m<n
      ·have hml:m<offs.length:=by have:=HNL.out;omega
       obtain⟨hbj,hIj,hoth,hX0,hXj,hO,hLj⟩:=HJ.out;obtain⟨FB,rfl,⟨cF,hcF⟩,lF,hc⟩:=HO1.out m hml;obtain⟨l1,l2,l3⟩:=HL.out _ (List.getElem_mem hml);have hLr:wr.rowIs LB 40 N0 (fJ offs val f m):=hLj.resolve_left oM;have hLw:w.rowIs LB 40 N0 f:=HLM.out.resolve_left oM;have nFI:FB≠IB:=fun e=>by
        obtain⟨c,hc',-⟩:=HI.out;exact Lz
       have nFL:FB≠LB:=fun e=>by
        obtain⟨c,hc',-⟩:=hLw;exact Lz
       have h0:=HH0.out;have x0:wr.cell? ⟨FB,m,none⟩=some (.pointer (some ⟨LB,offs[m],none⟩)):=(World.cell?_of_block (a:=⟨FB,m,none⟩) (hoth FB oM nFI nFL)).trans hc;have x1:wr.cell? ⟨LB,offs[m],none⟩=some (.int .i64 (val offs[m]:Int)):=by
        rw[←l2,←Kj HND.out hml val f];exact hLr.cell l1
       have x2:=hLr.frozen offs[m];have hnv:By nm j (val offs[m])=(Ad nm (val offs[m]):Int):=by
        unfold By;rw[if_pos ⟨l3,by rw[←HNM.out];exact GL (List.getElem_mem hml)⟩]
       have x3:=hXj.cell l3;rw[hnv]at x3;have HFN:=A2 (fun o=>GC hml val f o);have HLX:Hid (LB≠XB/\LB≠IB/\E<=LB):=⟨BR hLr hXj dE,BR hLr hIj dE,HEE.out.2.2⟩
       obtain⟨o,ho'⟩:∃o,offs[m]=o:=⟨_,rfl⟩
       rw[ho']at x0 x1 x2 x3 l3 HFN;obtain⟨r,hr⟩:∃r,val o=r:=⟨_,rfl⟩
       rw[hr]at x1 x3 l3;simp only[hr,HNM.out]at HFN;obtain⟨cr,hcr⟩:∃c,Ad nm r=c:=⟨_,rfl⟩
       rw[hcr]at x3;simp only[hcr]at HFN;have i1:(0:Int)<=(m:Int):=oM;have i2:(m:Int)<(n:Int):=oM;have i3:(0:Int)<=(r:Int):=oM;have i4:(r:Int)<(j:Int):=oM;have wi:IntKind.i64.wrap ((m:Int)+1)=((m+1:Nat):Int):=by rw[IntKind.wrap_i64];omega
       have HNX:Hid (Below E w (wr.setCell ⟨LB,o,none⟩ (.int .i64 (cr:Int)))/\(wr.setCell ⟨LB,o,none⟩ (.int .i64 (cr:Int))).rowIs IB 4 K (fun r=>.bool (nm r))/\(∀b,b<H0->b≠IB->b≠LB->(wr.setCell ⟨LB,o,none⟩ (.int .i64 (cr:Int))).heap[b]? =w.heap[b]?)/\H0<=XB/\(wr.setCell ⟨LB,o,none⟩ (.int .i64 (cr:Int))).rowIs XB 3 j (fun r=>.int .i64 (By nm j r))/\(wr.setCell ⟨LB,o,none⟩ (.int .i64 (cr:Int))).ownsRow H0 55 5 (.slice pl PN ql) PN (Al Eu (Aq nm all))/\(N0=0\/(wr.setCell ⟨LB,o,none⟩ (.int .i64 (cr:Int))).rowIs LB 40 N0 (fJ offs val f (m+1)))):=by
        exact MG
       exact MR
      ·have e7:¬ (m:Int)<(n:Int):=oM;have hmn:m=offs.length:=by have:=HNL.out;omega
       have HFI:Hid (wr.ownsRow H0 55 5 (.slice pl PN ql) PN (Al Eu (Aq nm all))/\L7 E IB K LB N0 offs val f w wr):=by
        exact MS
       have HPNL':=HPNL;clear hlt HJ hmn;go_wp2;refine bodyPost_ret (by simp[results,results14,go_sem, *];try rfl) rfl ?_;exact MU
theorem Iw{d:Cd}(d2:An d ⟨[],[]⟩ d.list=true)(hn:∀k,k<d.list.length->Nd d.list k)(hr:∀r,r<d.regs.length->usR d.list r=true)(hsl:∀r,r<d.slots.length->usS d.list r=true):pruneC d=d:=by
 have hi:∀i∈d.list,B8 (Ad (usR d.list)) (Ad (usS d.list)) i=i:=fun i hi=>by
  obtain⟨p,hp,rfl⟩:=List.mem_iff_getElem.1 hi;have t:=AV d2 hp;obtain⟨t1,t2,-,-⟩:=Ar t;have Cj:∀x:Int,0<=x->x<(d.regs.length:Int)->((Ad (usR d.list) x.toNat:Nat):Int)=x:=fun x x0 x1=>by
   rw[BY x.toNat (fun s hs=>hr s oM),Int.toNat_of_nonneg x0]
  unfold B8;have e1:(if(A4 d.list[p].op).d=0 then d.list[p].d else((Ad (usR d.list) d.list[p].d.toNat:Nat):Int))=d.list[p].d:=by
   by_cases q:(A4 d.list[p].op).d=0
   ·rw[if_pos q]
   ·rw[if_neg q];obtain⟨x0,x1⟩:=Ag (C4 t2) q;exact Cj _ x0 x1
  have e2:(if(A4 d.list[p].op).a=0 then d.list[p].a else((Ad (usR d.list) d.list[p].a.toNat:Nat):Int))=d.list[p].a:=by
   by_cases q:(A4 d.list[p].op).a=0
   ·rw[if_pos q]
   ·rw[if_neg q];obtain⟨x0,x1⟩:=Ag (C3 t2) q;exact Cj _ x0 x1
  have e3:(if(A4 d.list[p].op).b=0 then d.list[p].b else((Ad (usR d.list) d.list[p].b.toNat:Nat):Int))=d.list[p].b:=by
   by_cases q:(A4 d.list[p].op).b=0
   ·rw[if_pos q]
   ·rw[if_neg q];obtain⟨x0,x1⟩:=Ag (CG t2) q;exact Cj _ x0 x1
  have e4:(if(A4 d.list[p].op).c=0 then d.list[p].c else((Ad (usR d.list) d.list[p].c.toNat:Nat):Int))=d.list[p].c:=by
   by_cases q:(A4 d.list[p].op).c=0
   ·rw[if_pos q]
   ·rw[if_neg q];obtain⟨x0,x1⟩:=Ag (CH t2) q;exact Cj _ x0 x1
  have e5:(if d.list[p].op=32\/d.list[p].op=33 then((Ad (usS d.list) d.list[p].n.toNat:Nat):Int)else d.list[p].n)=d.list[p].n:=by
   by_cases q:d.list[p].op=32\/d.list[p].op=33
   ·rw[if_pos q];obtain⟨x0,x1⟩:=Dg t q;rw[BY _ (fun s hs=>hsl s oM),Int.toNat_of_nonneg x0]
   ·rw[if_neg q]
  rw[e1,e2,e3,e4,e5]
 have hK:∀k,k<d.list.length->ndK d.list k=true:=fun k hk=>Ao.2 (hn k hk);have e1:(pruneC d).regs=d.regs:=DL hr;have e2:(pruneC d).slots=d.slots:=DL hsl;have e3:(pruneC d).list=d.list:=by
  show Ap _ _ d.list d.list.length=_;rw[GO _ (Nat.le_refl _) hK hi,List.take_length]
 exact MO
theorem Lj{l:List Ab}{S:Nat->Bool}(hb:∀k (hk:k<l.length),l[k].op<34)(h1:∀k (hk:k<l.length),l[k].op=31->S k=true)(h2:∀k (hk:k<l.length),S k=true->∀r∈A8 l[k] (A4 l[k].op),∀j (hj:j<l.length),Aa l[j]=true->l[j].d.toNat=r.toNat->S j=true)(h3:∀k (hk:k<l.length),S k=true->l[k].op=32->∀j (hj:j<l.length),l[j].op=33->l[j].n=l[k].n->S j=true){k:Nat}(n:Nd l k):S k=true:=by
 induction n with
 |out hk o=>exact h1 _ hk o
 |set hk hj n r hr hs e ih=>exact h2 _ hk ih r hr _ hj hs e
 |store hk hj n o1 o2 e ih=>exact h3 _ hk ih o1 _ hj o2 e
 |beg hk n hbb ih=>
  obtain⟨g1,-,g3⟩:=Bq l _ (Nat.le_of_lt hk) _ (C6 hk hbb);have:=hb _ g1;omega
 |fin hk n hf hbb ih=>have:=hb _ hk;omega
 |begE hk n hf hbb ih=>have:=hb _ hk;omega
def Ay(a:Int):List Ab:=[⟨32,1,0,0,0,0,0⟩,⟨29,0,0,0,0,0,0⟩,⟨4,2,0,1,0,0,0⟩,⟨33,0,2,0,0,0,0⟩,⟨31,0,a,0,0,0,0⟩]
def AZ(s:List Ba)(a:Int):Cd:=⟨s,[⟨3,0⟩,⟨3,0⟩,⟨3,0⟩],[⟨⟨3,0⟩,true,0,0⟩],Ay a⟩
theorem D4(k:Nat):Nd (Ay 0) k↔k=1\/k=4:=by
 constructor
 ·intro n;have h:=Lj (l:=Ay 0) (S:=fun k=>decide (k=1\/k=4)) dE dE dE dE n;simpa using h
 ·have n4:Nd (Ay 0) 4:=.out dE dE;rintro(rfl|rfl)
  ·exact .set (k:=4) (j:=1) dE dE n4 0 dE dE dE
  ·exact n4
theorem Ct:∀k,k<5->Nd (Ay 2) k:=by
 have n4:Nd (Ay 2) 4:=.out dE dE;have n2:Nd (Ay 2) 2:=.set (k:=4) (j:=2) dE dE n4 2 dE dE dE;have n1:Nd (Ay 2) 1:=.set (k:=2) (j:=1) dE dE n2 0 dE dE dE;have n0:Nd (Ay 2) 0:=.set (k:=2) (j:=0) dE dE n2 1 dE dE dE;have n3:Nd (Ay 2) 3:=.store (k:=0) (j:=3) dE dE n0 dE dE dE;intro k hk
 match k,hk with
 |0,_=>exact n0
 |1,_=>exact n1
 |2,_=>exact n2
 |3,_=>exact n3
 |4,_=>exact n4
theorem Fi(s:List Ba)(ht:An (AZ s 2) ⟨[],[]⟩ (Ay 2)=true):pruneC (AZ s 2)=AZ s 2:=by
 refine Iw ht (fun k hk=>Ct k hk) (fun r hr=>?_) (fun r hr=>?_)
 ·have hr:r<3:=hr
  match r,hr with
  |0,_=>exact(AW (l:=Ay 2)).2 ⟨1,dE,Ct 1 dE,dE,dE⟩
  |1,_=>exact(AW (l:=Ay 2)).2 ⟨0,dE,Ct 0 dE,dE,dE⟩
  |2,_=>exact(AW (l:=Ay 2)).2 ⟨2,dE,Ct 2 dE,dE,dE⟩
 ·have hr:r<1:=hr
  match r,hr with
  |0,_=>exact(BJ (l:=Ay 2)).2 ⟨0,dE,Ct 0 dE,dE,dE⟩
theorem Gc(s:List Ba):(pruneC (AZ s 0)).list.length=2/\(pruneC (AZ s 0)).regs.length=1/\(pruneC (AZ s 0)).slots.length=0:=by
 have hK:∀k,ndK (Ay 0) k=decide (k=1\/k=4):=fun k=>by rw[Bool.eq_iff_iff,Ao,D4];simp
 have hR:∀r,usR (Ay 0) r=decide (r=0):=fun r=>by
  rw[Bool.eq_iff_iff,AW];simp only[decide_eq_true_eq];constructor
  ·rintro⟨k,hk,n,h1,h2⟩;rcases(D4 k).1 n with e|e<;>subst e
   ·exact h2.symm.trans (show(Ay 0)[1].d.toNat=0 from rfl)
   ·exact absurd (show Aa ⟨31,0,0,0,0,0,0⟩=true from h1) dE
  ·rintro rfl;exact⟨1,dE,(D4 1).2 (.inl rfl),dE,dE⟩
 have hS:∀r,usS (Ay 0) r=false:=fun r=>by
  cases h:usS (Ay 0) r with
  |false=>rfl
  |true=>
   obtain⟨k,hk,n,h1,h2⟩:=BJ.1 h;rcases(D4 k).1 n with e|e<;>subst e
   ·exact absurd (show(29:Int)=32\/(29:Int)=33 from h1) dE
   ·exact absurd (show(31:Int)=32\/(31:Int)=33 from h1) dE
 refine⟨?_,?_,?_⟩
 ·show(Ap (ndK (Ay 0)) _ (Ay 0) (Ay 0).length).length=2;rw[BP _ (Nat.le_refl _),show ndK (Ay 0)=fun k=>decide (k=1\/k=4)from funext hK];decide
 ·show(Aq (usR (Ay 0)) _).length=1;rw[Cx,show usR (Ay 0)=fun r=>decide (r=0)from funext hR];show((List.range 3).filter fun r=>decide (r=0)).length=1;decide
 ·show(Aq (usS (Ay 0)) _).length=0;rw[Cx,show usS (Ay 0)=fun r=>false from funext hS];show((List.range 1).filter fun r=>false).length=0;decide
section
open Go.ChangeShapes Go.WideShapes Go.ChangeAt Go.RowKit
theorem DP:Try.prog.cellsOf 40=7:=kR
theorem Dy:Try.prog.cellsOf 42=3:=kR
theorem DR:Try.prog.cellsOf 50=2:=kR
theorem DQ:Try.prog.cellsOf 55=5:=kR
theorem FX:Try.prog.cellsOf 27=4:=kR
theorem FT:Try.prog.bytesOf 40=56:=kR
theorem F9:Try.prog.bytesOf 42=32:=kR
theorem FV:Try.prog.bytesOf 50=16:=kR
theorem FU:Try.prog.bytesOf 55=32:=kR
theorem Cl{H:Type}{P:Program}{e:TypeId}:∀ {l:List (DataW H)} {d:DataW H},d∈l->∀n∈d.weights P e,n∈DataW.weightsAll P e l
 |[],d,h,n,hn=>by cases h
 |x::r,d,h,n,hn=>by
  simp only[DataW.weightsAll,List.mem_append];rcases List.mem_cons.1 h with rfl|h
  ·exact .inl hn
  ·exact .inr (Cl h n hn)
section
variable {H : Type} {enc : TypeId × Value -> H} {w : World} {base : Nat} {held : Bool}
def Kh(i:Ab):Prop:=0<=i.bits/\i.bits<4294967296
theorem In{fuel:Nat}{cs:List Value}{x:DataW H×List MemPlace}(h:DataW.trod enc Try.prog w base (fun _=>true) held fuel 40 cs=some x):∃i:Ab,cs=AS i/\Kh i:=by
 obtain⟨xs,n,hfn,hx,hl,hxl,hf⟩:=DataW.trod_struct Try.underlying40 h;rw[DP]at hl
 match cs,hl with
 |[v0,v1,v2,v3,v4,v5,v6],_=>
 match xs,hxl with
 |[y0,y1,y2,y3,y4,y5,y6],_=>
  have e0:DataW.trod enc Try.prog w base (fun _=>true) held n 3 [v0]=some y0:=hf 0 _ rfl;have e1:DataW.trod enc Try.prog w base (fun _=>true) held n 3 [v1]=some y1:=hf 1 _ rfl;have e2:DataW.trod enc Try.prog w base (fun _=>true) held n 3 [v2]=some y2:=hf 2 _ rfl;have e3:DataW.trod enc Try.prog w base (fun _=>true) held n 3 [v3]=some y3:=hf 3 _ rfl;have e4:DataW.trod enc Try.prog w base (fun _=>true) held n 3 [v4]=some y4:=hf 4 _ rfl;have e5:DataW.trod enc Try.prog w base (fun _=>true) held n 3 [v5]=some y5:=hf 5 _ rfl;have e6:DataW.trod enc Try.prog w base (fun _=>true) held n 38 [v6]=some y6:=hf 6 _ rfl;obtain⟨a0,c0,-,w0⟩:=DataW.trod_int Try.underlying3 e0;obtain⟨a1,c1,-,w1⟩:=DataW.trod_int Try.underlying3 e1;obtain⟨a2,c2,-,w2⟩:=DataW.trod_int Try.underlying3 e2;obtain⟨a3,c3,-,w3⟩:=DataW.trod_int Try.underlying3 e3;obtain⟨a4,c4,-,w4⟩:=DataW.trod_int Try.underlying3 e4;obtain⟨a5,c5,-,w5⟩:=DataW.trod_int Try.underlying3 e5;obtain⟨a6,c6,-,w6⟩:=DataW.trod_int Try.underlying38 e6;simp only[List.cons.injEq,and_true]at c0 c1 c2 c3 c4 c5 c6;subst c0 c1 c2 c3 c4 c5 c6;exact⟨⟨a0,a1,a2,a3,a4,a5,a6⟩,rfl,(bounds_u32 w6).1,Int.lt_add_one_of_le (bounds_u32 w6).2⟩
theorem Io{fuel:Nat}{cs:List Value}{x:DataW H×List MemPlace}(h:DataW.trod enc Try.prog w base (fun _=>true) held fuel 42 cs=some x)(hw:∀n∈x.1.weights Try.prog 42,n<=reachBytes):
 ∃p:Ba,cs=Az p/\p.name.size<=140737488351232:=by
 obtain⟨xs,n,hfn,hx,hl,hxl,hf⟩:=DataW.trod_struct Try.underlying42 h;rw[Dy]at hl
 match cs,hl with
 |[v0,v1,v2],_=>
 match xs,hxl with
 |[y0,y1,y2],_=>
  have e0:DataW.trod enc Try.prog w base (fun _=>true) held n 9 [v0]=some y0:=hf 0 _ rfl;have e1:DataW.trod enc Try.prog w base (fun _=>true) held n 3 [v1]=some y1:=hf 1 _ rfl;have e2:DataW.trod enc Try.prog w base (fun _=>true) held n 3 [v2]=some y2:=hf 2 _ rfl;obtain⟨a0,c0,hd0,w0⟩:=DataW.trod_string Try.underlying9 e0;obtain⟨a1,c1,hd1,w1⟩:=DataW.trod_int Try.underlying3 e1;obtain⟨a2,c2,hd2,w2⟩:=DataW.trod_int Try.underlying3 e2;simp only[List.cons.injEq,and_true]at c0 c1 c2;subst c0 c1 c2;subst hx;have hws:∀ (j:Nat) (t:TypeId) (d:DataW H),[9,3,3][j]? =some t->[y0.1,y1.1,y2.1][j]? =some d->∀n∈d.weights Try.prog t,n<=reachBytes:=fun j t d ht hd n hn=>by
   refine hw n ?_;show n∈DataW.weights Try.prog 42 (.agg [y0.1,y1.1,y2.1]);rw[DataW.weights,Try.underlying42];exact DataW.weights_mem_each (ts:=[9,3,3]) ht hd n hn
  have s1:a0.size<=140737488351232:=by
   have:=hws 0 _ _ rfl rfl a0.data.toList.length (by rw[hd0];simp[DataW.weights]);simpa[reachBytes]using this
  exact⟨⟨a0,a1,a2⟩,rfl,s1⟩
theorem GM{fuel:Nat}{cs:List Value}{x:DataW H×List MemPlace}(h:DataW.trod enc Try.prog w base (fun _=>true) held fuel 50 cs=some x):∃t:Ty,cs=DH t/\True:=by
 obtain⟨xs,n,hfn,hx,hl,hxl,hf⟩:=DataW.trod_struct Try.underlying50 h;rw[DR]at hl
 match cs,hl with
 |[v0,v1],_=>
 match xs,hxl with
 |[y0,y1],_=>
  have e0:DataW.trod enc Try.prog w base (fun _=>true) held n 3 [v0]=some y0:=hf 0 _ rfl;have e1:DataW.trod enc Try.prog w base (fun _=>true) held n 3 [v1]=some y1:=hf 1 _ rfl;obtain⟨a0,c0,-,w0⟩:=DataW.trod_int Try.underlying3 e0;obtain⟨a1,c1,-,w1⟩:=DataW.trod_int Try.underlying3 e1;simp only[List.cons.injEq,and_true]at c0 c1;subst c0 c1;exact⟨⟨a0,a1⟩,rfl,trivial⟩
def La(s:Sl):Prop:=0<=s.bits/\s.bits<4294967296
theorem JT{fuel:Nat}{cs:List Value}{x:DataW H×List MemPlace}(h:DataW.trod enc Try.prog w base (fun _=>true) held fuel 55 cs=some x):∃s:Sl,cs=Eu s/\La s:=by
 obtain⟨xs,n,hfn,hx,hl,hxl,hf⟩:=DataW.trod_struct Try.underlying55 h;rw[DQ]at hl
 match cs,hl with
 |[v0,v1,v2,v3,v4],_=>
 match xs,hxl with
 |[y0,y1,y2,y3],_=>
  have e0:DataW.trod enc Try.prog w base (fun _=>true) held n 50 [v0,v1]=some y0:=hf 0 _ rfl;have e1:DataW.trod enc Try.prog w base (fun _=>true) held n 4 [v2]=some y1:=hf 1 _ rfl;have e2:DataW.trod enc Try.prog w base (fun _=>true) held n 38 [v3]=some y2:=hf 2 _ rfl;have e3:DataW.trod enc Try.prog w base (fun _=>true) held n 3 [v4]=some y3:=hf 3 _ rfl;obtain⟨t,ht,-⟩:=GM e0;obtain⟨a1,c1,-⟩:=DataW.trod_bool Try.underlying4 e1;obtain⟨a2,c2,-,w2⟩:=DataW.trod_int Try.underlying38 e2;obtain⟨a3,c3,-,w3⟩:=DataW.trod_int Try.underlying3 e3;obtain⟨K,P⟩:=t;simp only[DH,List.cons.injEq,and_true]at ht c1 c2 c3;obtain⟨rfl,rfl⟩:=ht;subst c1 c2 c3;exact⟨⟨⟨K,P⟩,a1,a2,a3⟩,rfl,(bounds_u32 w2).1,Int.lt_add_one_of_le (bounds_u32 w2).2⟩
theorem CK{α:Type}[Inhabited α]{f:α->List Value}{k bytes:Nat}{t e:TypeId}{Good:α->Prop}(hk:0<k)(hf:∀x,(f x).length=k)(ht:Try.prog.underlying t=some (.slice e))(hce:Try.prog.cellsOf e=k)(hby:Try.prog.bytesOf e=bytes)(hb0:0<bytes)
 (hop:∀ {fuel:Nat} {cs:List Value} {x:DataW H×List MemPlace},DataW.trod enc Try.prog w base (fun _=>true) held fuel e cs=some x->(∀n∈x.1.weights Try.prog e,n<=reachBytes)->∃a:α,cs=f a/\Good a)
 {fuel:Nat} {v:Value} {x:DataW H×List MemPlace} (h:DataW.trod enc Try.prog w base (fun _=>true) held fuel t [v]=some x) (hw:∀n∈x.1.weights Try.prog t,n<=reachBytes):
 ∃l:List α,AI k f w v l/\l.length*bytes<=140737488351232/\∀a∈l,Good a:=by
 rcases DataW.trod_slice ht h with⟨hcs,hx⟩|⟨a,len,cap,elems,rest,m,hm,hcs,hx,_,hl,_,hel,hread,_,_⟩
 ·simp only[List.cons.injEq,and_true]at hcs;subst hcs;exact⟨[],⟨none,0,rfl,.inl rfl⟩,sM,fun a h=>by cases h⟩
 ·simp only[List.cons.injEq,and_true]at hcs;subst hcs;subst hx;have Cj:∀i,i<len->∃q:α,(∀j,j<k->w.cell? (a.add (i*k+j))=(f q)[j]?)/\Good q:=by
   intro i hi;have h1:=hread i hi;rw[hce]at h1;have hie:i<elems.length:=oM;rw[List.getElem?_eq_getElem hie]at h1;obtain⟨cs',h2,h3⟩:=Option.bind_eq_some_iff.1 h1;obtain⟨_,hlen3,hcell⟩:=World.cells?_some h2;obtain⟨q,hcs,hok⟩:=hop h3 (fun n hn=>hw n (by
    rw[DataW.weights,ht]
    exact List.mem_cons_of_mem _ (List.mem_append_left _ (Cl (List.mem_map.2 ⟨elems[i],List.getElem_mem hie,rfl⟩) n hn))))
   refine⟨q,fun j hj=>?_,hok⟩;have:=hcell j hj;rw[Go.Deep.add_add,hcs]at this;exact this
  obtain⟨g,hg⟩:=Go.Deep.choose_lt Cj;have hTl:((List.range len).map g).length=len:=sM;have hbig:len*bytes<=140737488351232:=by
   have:=hw _ (by rw[DataW.weights,ht];exact List.mem_cons_self);rw[hby]at this;simp only[List.length_map,reachBytes]at this;have hln:elems.length=len:=oM;simp only[hln]at this;exact Nat.le_trans (Nat.mul_le_mul_right _ (Nat.le_add_right _ _)) this
  refine⟨(List.range len).map g,?_,by rw[hTl];exact hbig,?_⟩
  ·refine⟨some a,cap,by rw[hTl],?_⟩;by_cases hl0:len=0
   ·left;simp[hl0]
   ·obtain⟨b,off,spot⟩:=a;have hne:0<(f (g 0)).length:=by rw[hf];exact hk
    have hspot:spot=none:=by
     have:=(hg 0 oM).1 0 hk;rw[List.getElem?_eq_getElem hne]at this;simpa[Addr.add]using World.cell?_spot this
    subst hspot;refine .inr ⟨b,off,rfl,fun i hi j hj=>?_⟩;have hi':i<len:=by rw[hTl]at hi;exact hi
    obtain⟨q,-⟩:=hg i hi';have e:((List.range len).map g)[i]=g i:=sM;have hj2:j<(f (g i)).length:=by simpa[e]using hj
    have hj3:j<k:=by rw[←hf (g i)];exact hj2
    have q':=q j hj3;rw[F4,←Nat.add_assoc]at q';rw[q',List.getElem?_eq_getElem hj2];congr 1;simp[e]
  ·intro q hq;obtain⟨i,hi,rfl⟩:=List.mem_map.1 hq;exact(hg i (List.mem_range.1 hi)).2
instance:Inhabited Ab:=⟨⟨0,0,0,0,0,0,0⟩⟩
instance:Inhabited Ty:=⟨⟨0,0⟩⟩
instance:Inhabited Sl:=⟨⟨⟨0,0⟩,false,0,0⟩⟩
instance:Inhabited Ba:=⟨⟨⟨#[]⟩,0,0⟩⟩
theorem Hk{r:Reach}{b0:Nat}{v:Value}{d:DataW H}{pl:List MemPlace}(hv:Value.okWide Try.prog w r b0 27 v)(h:DataW.Trod enc Try.prog w base (fun _=>true) held 27 v d pl)(hw:∀n∈d.weights Try.prog 27,n<=reachBytes):
 ∃ (v0 v1 v2 v3:Value) (c:Cd),v=.agg #[v0,v1,v2,v3]/\CY w v0 v1 v2 v3 c/\Bl c/\c.sign.length*32<=140737488351232/\c.regs.length*16<=140737488351232/\c.slots.length*32<=140737488351232/\c.list.length*56<=140737488351232:=by
 obtain⟨cs,rfl,hsz⟩:=okWide_struct Try.underlying27 hv;obtain⟨fuel,hf0⟩:=h;obtain⟨xs,n,hfn,hx,hl,hxl,hf⟩:=DataW.trod_struct Try.underlying27 hf0;rw[FX]at hl;obtain⟨cl,hcl⟩:∃cl,(Value.agg cs).cells.toList=cl:=⟨_,rfl⟩
 rw[hcl]at hl hf;have hcs:cs.toList=cl:=by rw[←hcl];simp[Value.cells]
 match cl,hl with
 |[v0,v1,v2,v3],_=>
 match xs,hxl with
 |[y0,y1,y2,y3],_=>
  have e0:DataW.trod enc Try.prog w base (fun _=>true) held n 22 [v0]=some y0:=hf 0 _ rfl;have e1:DataW.trod enc Try.prog w base (fun _=>true) held n 23 [v1]=some y1:=hf 1 _ rfl;have e2:DataW.trod enc Try.prog w base (fun _=>true) held n 24 [v2]=some y2:=hf 2 _ rfl;have e3:DataW.trod enc Try.prog w base (fun _=>true) held n 25 [v3]=some y3:=hf 3 _ rfl;have hd:d=.agg [y0.1,y1.1,y2.1,y3.1]:=congrArg Prod.fst hx;have hws:∀ (j:Nat) (t:TypeId) (d:DataW H),[22,23,24,25][j]? =some t->[y0.1,y1.1,y2.1,y3.1][j]? =some d->∀n∈d.weights Try.prog t,n<=reachBytes:=fun j t d' ht hd' n hn=>by
   refine hw n ?_;rw[hd];show n∈DataW.weights Try.prog 27 (.agg [y0.1,y1.1,y2.1,y3.1]);rw[DataW.weights,Try.underlying27];exact DataW.weights_mem_each (ts:=[22,23,24,25]) ht hd' n hn
  obtain⟨l0,r0,s0,g0⟩:=CK (Good:=fun p:Ba=>p.name.size<=140737488351232) dE D7 Try.underlying22 Dy F9 dE (fun h hw=>Io h hw) e0 (hws 0 _ _ rfl rfl);obtain⟨l1,r1,s1,g1⟩:=CK (Good:=fun _:Ty=>True) dE F3 Try.underlying23 DR FV dE (fun h _=>GM h) e1 (hws 1 _ _ rfl rfl);obtain⟨l2,r2,s2,g2⟩:=CK (Good:=La) dE F2 Try.underlying24 DQ FU dE (fun h _=>JT h) e2 (hws 2 _ _ rfl rfl);obtain⟨l3,r3,s3,g3⟩:=CK (Good:=Kh) dE Bg Try.underlying25 DP FT dE (fun h _=>In h) e3 (hws 3 _ _ rfl rfl);refine⟨v0,v1,v2,v3,⟨l0,l1,l2,l3⟩,?_,⟨r0,r1,r2,r3⟩,⟨by show l0.length<=_;omega,g0,by show l1.length<=_;omega,by show l2.length<=_;omega,by show l3.length<=_;omega,g2,g3⟩,s0,s1,s2,s3⟩;rw[Value.agg.injEq];apply Array.toList_inj.1;exact hcs
end
end
end Go.Proofs.Ytchbjcldkcfffaa
