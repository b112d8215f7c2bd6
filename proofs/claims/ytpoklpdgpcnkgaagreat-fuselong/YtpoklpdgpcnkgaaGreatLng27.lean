import Derived.Test.YtpoklpdgpcnkgaaGreatLng1
import Derived.Test.YtpoklpdgpcnkgaaGreatLng17
import Derived.Test.YtpoklpdgpcnkgaaGreatLng20
import Derived.Deep.DeepCutAuto
namespace Go.Proofs.YtpoklpdgpcnkgaaGreat
open Go.RowKit Go.Proofs.Tryz
set_option linter.all false
set_option maxRecDepth 100000
set_option maxHeartbeats 16000000
theorem Lj{T T':Nat->Prop}(w:World)(u v:Value)(L:List (List Int))(hu:Gh T w u L)(hv:Gh T' w v L)(hL:L.length<=1048576)(hl:∀l∈L,l.length<=1048576):
 Calls prog 35 #[u,v] w fun e w'=>e=.returned (.bool true)/\Below w.heap.size w w':=by
 obtain⟨p,c,rfl,hcu⟩:=hu.cellsOf;obtain⟨p',c',rfl,hcv⟩:=hv.cellsOf;obtain⟨N,hN⟩:=gA (L.length)
 rw[hN]at hL |-;have HCU:Hid (∀i (hi:i<L.length),∃b o q d,p=some ⟨b,o,none⟩/\w.cell? ⟨b,o+i,none⟩=some (.slice q (L[i]).length d)/\Bh w q (L[i]).length (fun j=>.int .u32 (Cy L[i] j))):=hcu;have HCV:Hid (∀i (hi:i<L.length),∃b o q d,p'=some ⟨b,o,none⟩/\w.cell? ⟨b,o+i,none⟩=some (.slice q (L[i]).length d)/\Bh w q (L[i]).length (fun j=>.int .u32 (Cy L[i] j))):=hcv;have HN:Hid (L.length=N/\∀l∈L,l.length<=1048576):=⟨hN,hl⟩
 clear hu hv hcu hcv hN hl;go_enter func35,ntmps35;go_wp2
 go_loopw [5] (fun iv wr=>∃j:Nat,j<=N/\iv=.int .i64 j/\Hid (Below w.heap.size w wr)) (fun iv _=>N-(intOf iv).toNat)
 case atStart=>exact⟨0,gI _,rfl,BT _⟩
 case round=>
  obtain⟨j,hj,rfl,HB⟩:=hrel;by_cases hlt:j<N
  .have hjL:j<L.length:=by rw[HN.1];exact hlt
   obtain⟨b,o,q,d,rfl,h1,h2⟩:=HCU.out j hjL;obtain⟨b',o',q',d',rfl,h1',h2'⟩:=HCV.out j hjL;have hln:=HN.2 _ (gD hjL);obtain⟨M,hM⟩:=gA ((L[j]).length)
   obtain⟨Y,hY⟩:=gA (Cy L[j])
   rw[hM]at h1 h2 h1' h2' hln;simp only[hY]at h2 h2';have k1:=kc HB.out h1;have k2:=kc HB.out h1';have HRU:=A8 (h2.below HB.out);have HRV:=A8 (h2'.below HB.out);clear h1 h1' h2 h2' hM hY;go_wp2;refine wp_region_held_drew (S:=(fun x=>x.cell? ⟨b,o+j,none⟩=some (.slice q M d)/\x.cell? ⟨b',o'+j,none⟩=some (.slice q' M d'))) kR ?_ (fun yH=>?_)
   ·((try dsimp only);go_keep)
   refine Tf 0 1 2 3 4 5 ?_;refine Tc 6 7 8 ?_;refine Tb 9 10 ?_;refine wpAnyH_done kR ?_ _;go_wp2;rename World=>W0
   go_loopw [6] (fun iv wr2=>∃k:Nat,k<=M/\iv=.int .i64 k/\Hid (Below W0.heap.size W0 wr2)) (fun iv _=>M-(intOf iv).toNat)
   case atStart=>exact⟨0,gI _,rfl,AQ _⟩
   case round=>
    obtain⟨k,hk,rfl,HB2⟩:=hrel;have m1:=kc HB2.out k1;have m2:=kc HB2.out k2;by_cases hlt2:k<M
    .rcases HRU.out with e|⟨ub,uo,hue,hur⟩
     .omega
     rcases HRV.out with e|⟨vb,vo,hve,hvr⟩
     .omega
     have n1:=kc HB2.out (hur k hlt2);have n2:=kc HB2.out (hvr k hlt2);subst hue hve;clear hur hvr HRU HRV;go_wp2;refine wp_region_held_drew (S:=(fun x=>x.cell? ⟨b,o+j,none⟩=some (.slice (some ⟨ub,uo,none⟩) M d)/\x.cell? ⟨b',o'+j,none⟩=some (.slice (some ⟨vb,vo,none⟩) M d')/\x.cell? ⟨ub,uo+k,none⟩=some (.int .u32 (Y k))/\x.cell? ⟨vb,vo+k,none⟩=some (.int .u32 (Y k)))) kR ?_ (fun yH=>?_)
     ·((try dsimp only);go_keep)
     refine Tf 0 1 2 3 4 5 ?_;refine Tf 6 7 8 9 10 11 ?_;refine Tc 12 13 14 ?_;refine wpAnyH_done kR ?_ _;go_wp2;go_roundw
     case rel=>exact⟨k+1,oM,gN,bel HB2.out (AQ _)⟩
     case measure=>simp[intOf];omega
    .go_wp2;go_roundw
     case rel=>exact⟨j+1,oM,gN,bel HB.out HB2.out⟩
     case measure=>simp[intOf];omega
  .go_wp2;go_ret;exact⟨rfl,HB.out⟩
def Hb(l:List Hd)(n:Nat):List (List Int):=(l.take n).map fun h=>h.pats++[h.whole]
theorem Tw{l:List Hd}{j:Nat}(h:j<l.length):Hb l (j+1)=Hb l j++[l[j].pats++[l[j].whole]]:=by
 unfold Hb;rw[List.take_succ_eq_append_getElem h,List.map_append];rfl
theorem Wq{w:World}{B g c':Nat}{l:List Int}{sv:Value}(h:w.ownsRow B 43 1 (.slice (some ⟨g,0,none⟩) l.length c') l.length (Hf l))(hs:∀b,sv.ownBlock=some b->b<B):Jy w sv (some ⟨g,0,none⟩) l:=by
 have h1:=JS h;rcases h1 with e|⟨b,o,e,hc⟩
 .exact .inl (List.eq_nil_of_length_eq_zero e)
 .simp only[Option.some.injEq,Addr.mk.injEq]at e;obtain⟨rfl,rfl,-⟩:=e;refine .inr ⟨g,0,rfl,fun e=>?_,hc⟩;have h2:=hs g e;have h3:=(h.lt g rfl).1;omega
theorem Oz(v0 v1 v2 v3 u:Value)(X:List Cl)(hX:X.length<=4096)(n:Nat)(hn:n<=X.length)(hP:∀x∈X,(∀y∈x.h.pats,AB y)/\x.h.pats.length<=4096/\0<=x.h.whole/\x.h.whole<=2147483647)(w:World)(h:UT w u X):
 Calls prog 36 #[.agg #[v0,v1,v2,v3,u],.int .i64 (n:Int)] w fun e w'=>∃sv,e=.returned sv/\Gh (fun b=>b<w.heap.size) w' sv (Hb (X.map (·.h)) n)/\Below w.heap.size w w':=by
 have KS:Hid (∀ (v:World) (k:Nat) (hk:k<X.length),Below w.heap.size w v->Calls prog 52 #[.agg #[v0,v1,v2,v3,u],.int .i64 (k:Int)] v fun e w'=>∃p q,e=.returned (.tuple #[.slice p X[k].h.pats.length q,.int .i64 X[k].h.whole,.int .i64 0])/\w'.ownsRow v.heap.size 43 1 (.slice p X[k].h.pats.length q) X[k].h.pats.length (Hf X[k].h.pats)/\Below v.heap.size v w'):=fun v k hk hb=>
  (P2 v0 v1 v2 v3 u X oM k hk (hP _ (gD hk)).1 (hP _ (gD hk)).2.1 v (h.below hb)).mono fun e w' ⟨p,q,h1,_,h3,_,h5⟩=>⟨p,q,h1,h5,h3⟩
 have HP:=A8 hP;have HN:=A8 hn;obtain⟨W0,hW0⟩:∃W,w.alloc (.cells #[v0,v1,v2,v3,u] 77)=W:=⟨_,rfl⟩
 have HW0:Hid (Below w.heap.size w W0/\W0.heap.size=w.heap.size+1):=by rw[<-hW0];exact⟨A0 _ _,sM⟩
 have hbx:W0.rowIs w.heap.size 77 5 (f5 v0 v1 v2 v3 u):=by rw[<-hW0];exact World.rowIs_alloc w _ _ _ (Fp _ _ _ _ _)
 have HBX:=A8 hbx;have hn0:n<=4096:=oM;clear h hP hn hbx;go_enter func36,ntmps36;go_upto_block 0 with fail;try rw[hW0]
 clear hW0;go_wp2_with fail
 go_loopw [5,6] (fun ov iv wr=>∃ (Xs:List Cu) (pp:Option Addr) (qq:Nat),Xs.length<=n/\iv=.int .i64 (Xs.length:Int)/\ov=.slice pp Xs.length qq/\Hid (Below W0.heap.size W0 wr/\Xs.map (·.l)=Hb (X.map (·.h)) Xs.length/\N7 W0.heap.size wr (.slice pp Xs.length qq) Xs)) (fun _ iv _=>n-(intOf iv).toNat)
 case atStart=>exact⟨[],none,0,gI _,rfl,rfl,BT _,rfl,N7.nil _ _⟩
 case round=>
  obtain⟨Xs,pp,qq,hj,rfl,rfl,HR⟩:=hrel;obtain⟨hb,hm,hvs⟩:=HR.out;obtain⟨j,hje⟩:=gA (Xs.length)
  by_cases hlt:j<n
  .have hjX:j<X.length:=by have:=HN.out;omega
   have hrow:=HBX.of_block (hb.block _ HBX.lt);have x0:wr.cell? ⟨w.heap.size,0,none⟩=some v0:=hrow.cell (i:=0) dE;have x1:wr.cell? ⟨w.heap.size,1,none⟩=some v1:=hrow.cell (i:=1) dE;have x2:wr.cell? ⟨w.heap.size,2,none⟩=some v2:=hrow.cell (i:=2) dE;have x3:wr.cell? ⟨w.heap.size,3,none⟩=some v3:=hrow.cell (i:=3) dE;have x4:wr.cell? ⟨w.heap.size,4,none⟩=some u:=hrow.cell (i:=4) dE;have hbw:Below w.heap.size w wr:=HW0.1.trans (hb.mono HW0.1.size);have KJ:=A8 (KS.out wr j hjX hbw);obtain⟨hp1,hp2,hp3,hp4⟩:=HP.out _ (gD hjX);have hsu:Hb (X.map (·.h)) (j+1)=Hb (X.map (·.h)) j++[X[j].h.pats++[X[j].h.whole]]:=by
    rw[Tw (by simpa using hjX)];simp
   obtain⟨⟨px,qx,⟨pats,wh⟩⟩,hx⟩:∃x,X[j]=x:=⟨_,rfl⟩
   simp only[hx]at KJ hp1 hp2 hp3 hp4 hsu;have HSU:=A8 hsu;obtain⟨M,hM⟩:=gA (pats.length)
   have HM:=A8 hM;have HB:=A8 hb;have HMM:=A8 hm;have HVS:=A8 hvs;have HJE:=A8 hje;rw[hje]at hj |-;have t0:(j:Int)<(n:Int):=oM;have t5:IntKind.i64.wrap ((j:Int)+1)=((j+1:Nat):Int):=by rw[IntKind.wrap_i64];omega
   have t6:IntKind.u32.wrap wh=wh:=by rw[IntKind.wrap_u32];omega
   clear hrow hb hm hvs hje hsu hx hp1 hM;go_upto_region 6 with(go_at_call 52;(with_reducible refine KJ.out.mono ?_);rintro e w5 ⟨ps,qs,rfl,how,hb5⟩;have HOW:=A8 how;have HB5:=A8 hb5;clear how hb5 x0 x1 x2 x3 x4)
   obtain⟨g,c',w8,hap,hb8,ho8,-⟩:=F5 (V:=w5) underlying70 Gt rfl dE HOW.out HB5.size #[.int .u32 wh] rfl Zgd (by unfold maxLen;have:=HM.out;omega) (by have:=HM.out;omega) 70;have hbB:Below wr.heap.size wr w8:=HB5.trans hb8;have ho9:w8.ownsRow wr.heap.size 43 1 (.slice (some ⟨g,0,none⟩) (pats++[wh]).length c') (pats++[wh]).length (Hf (pats++[wh])):=by
    rw[FC,List.length_append];exact ho8
   have hV8:=HVS.below hbB;have hpa:Jy w8 (.slice pp Xs.length qq) (some ⟨g,0,none⟩) (pats++[wh]):=Wq ho9 (fun b e=>(HVS.own.lt b e).2);have hg1:wr.heap.size<=g:=(ho9.lt g rfl).1;have hsz:W0.heap.size<=wr.heap.size:=HB.size;obtain⟨g2,c2,w9,hap2,hb9,hv9⟩:=hV8.push (gH hsz hbB.size) (by have:=HJE.out;omega) ⟨some ⟨g,0,none⟩,c',pats++[wh]⟩ hpa (fun b o s e=>by simp only[Option.some.injEq,Addr.mk.injEq]at e;omega) 71;simp only[List.length_append,List.length_singleton,HJE.out]at hap2;have hM':=HM.out;rw[hM']at hap hap2;have HAP:=A8 hap;have HAP2:=A8 hap2;have HNX:Hid (Below W0.heap.size W0 w9/\(Xs++[(⟨some ⟨g,0,none⟩,c',pats++[wh]⟩:Cu)]).map (·.l)=Hb (X.map (·.h)) (Xs++[(⟨some ⟨g,0,none⟩,c',pats++[wh]⟩:Cu)]).length/\N7 W0.heap.size w9 (.slice (some ⟨g2,0,none⟩) (Xs++[(⟨some ⟨g,0,none⟩,c',pats++[wh]⟩:Cu)]).length c2) (Xs++[(⟨some ⟨g,0,none⟩,c',pats++[wh]⟩:Cu)])):=by
    refine⟨HB.trans ((hbB.mono hsz).trans hb9),?_,?_⟩
    .rw[List.length_append,List.length_singleton,HJE.out,HSU.out,List.map_append,HMM.out,HJE.out];rfl
    .rw[List.length_append,List.length_singleton];exact hv9
   clear hap hap2 hb8 ho8 hbB ho9 hV8 hpa hg1 hsz hb9 hv9;rw[hM'];go_wp2_with(first
    |(at_builtin;refine Au rF _ _ _ rF _ _ _ rF rF HAP.out ?_)
    |(at_builtin;refine Au rF _ _ _ rF _ _ _ rF rF HAP2.out ?_))
   go_roundw
   case rel=>
    refine⟨Xs++[(⟨some ⟨g,0,none⟩,c',pats++[wh]⟩:Cu)],_,_,?_,?_,?_,HNX.out⟩
    .rw[List.length_append,List.length_singleton,HJE.out];omega
    .rw[List.length_append,List.length_singleton,HJE.out];go_num
    .rw[List.length_append,List.length_singleton,HJE.out]
   case measure=>simp[intOf];omega
  .have hje2:j=n:=oM;have e1:¬ (j:Int)<(n:Int):=oM;have hvt:=hvs.vs;rw[hm,hje,hje2]at hvt;have HVT:=A8 hvt;have HBE:Hid (Below w.heap.size w wr):=HW0.1.trans (hb.mono HW0.1.size);rw[hje];have HJ2:=A8 hje2;clear hvt hvs hm hb HR hlt hje hje2;go_wp2;go_ret;refine⟨_,rfl,?_,HBE.out⟩;rw[HJ2.out];exact HVT.mono (fun b _ e=>by have:=HW0.2;omega)
end Go.Proofs.YtpoklpdgpcnkgaaGreat
