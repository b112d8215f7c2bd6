import Derived.Test.YtnlgkkbmbijndaaGreatEnco15
import Derived.Test.YtnlgkkbmbijndaaGreatEnco6
import Derived.Deep.AppendLies
import Derived.Test.YtnlgkkbmbijndaaGreatEnco13
import Derived.Deep.DeepCutAuto
import Derived.Lib.AppendStr
import Derived.Test.YtnlgkkbmbijndaaGreatEnco1
namespace Go.Proofs.YtnlgkkbmbijndaaGreat
open Go.RowKit Go.Proofs.Tryz
set_option linter.all false
set_option maxRecDepth 100000
set_option maxHeartbeats 16000000
theorem CL{B:Nat}{V:World}{e t:TypeId}{z:Value}{sz by':Nat}(ht:prog.underlying t=some (.slice e))(hi:(prog.info? e).map (fun i=>(i.zero,i.size,i.bytes))=some (some z,sz,by'))(hzs:z.cells.size=sz)(hsz:0<sz){p:Option Addr}{n q:Nat}{xs:List Value}(h:V.ownsRow B e sz (.slice p n q) n xs)(hB:B<=V.heap.size)
 (cs:Array Value) (hcs:cs.size=sz) (h1:∀u∈cs.toList,u.oneCell'=true) (hn:n+1<=maxLen) (hb:(n+1)*by'<=140737488355328) (ty:TypeId):
 ∃g c' w',(Builtin.append_ #[t,t] ty #[.slice p n q,.slice (some ⟨V.heap.size,0,none⟩) 1 1]).run prog (V.alloc (.cells cs e))=.ok (.slice (some ⟨g,0,none⟩) (n+1) c') w'/\Below B V w'/\w'.ownsRow B e sz (.slice (some ⟨g,0,none⟩) (n+1) c') (n+1) (xs++cs.toList)/\(∀b,b<V.heap.size->(Value.slice p n q).ownBlock≠some b->w'.heap[b]? =V.heap[b]?)/\((Value.slice p n q).ownBlock=some g\/V.heap.size<g):=by
 obtain⟨i0,hi0,hz0,hz1,hz2⟩:=info_parts hi;have hb0:Below V.heap.size V (V.alloc (.cells cs e)):=A5 _ _;have hs:(V.alloc (.cells cs e)).heap.size=V.heap.size+1:=sM;have h0:=AH h hb0;obtain⟨g,cap,w3,hr,hown,hgrow,hat,hlt⟩:=run_append_lies (P:=prog) (V.alloc (.cells cs e)) t ty B e i0 _ sz by' ht hi0 hz0 hz1 hz2 hzs hsz (.slice p n q) n xs h0 ⟨V.heap.size,0,none⟩ 1 1 cs.toList (by simp[hcs])
  (World.news_of_block (cs:=cs) (t:=e) (fr:=(0,0)) (heap_alloc_new V _)) h1 dE hn hb oM _ rfl
 refine⟨g,cap,w3,hr,(hb0.mono hB).grown hgrow oM (fun q e=>(h0.lt q e).1),hown,fun b hb hne=>?_,?_⟩
 .rw[hgrow.block b oM (Ne.symm hne)];exact hb0.block b hb
 .rcases hat with e|e
  .exact .inl e
  .exact .inr oM
theorem A6{p:Prop}(h:p):Hid p:=h
def GM(l:List Nat):List Value:=l.map fun(b:Nat)=>.int .u8 (b:Int)
theorem Ng(l:List Nat)(b:Nat):GM (l++[b])=GM l++[.int .u8 (b:Int)]:=by unfold GM;rw[List.map_append];rfl
structure Bc(E WB:Nat)(l:List Nat)(v:Value)(w:World):Prop where
 b:w.rowIs WB 51 1 (fun _=>v)
 o:w.ownsRow E 5 1 v l.length (GM l)
 ge:E<=WB
 le:E<=w.heap.size
theorem Bc.below{E WB:Nat}{l:List Nat}{v:Value}{w w':World}(h:Bc E WB l v w)(k:Below w.heap.size w w'):Bc E WB l v w':=⟨h.b.of_block (k.block _ h.b.lt),AH h.o k,h.ge,gH h.le k.size⟩
def Ba(WB:Nat)(v:Value)(w:World)(v':Value)(w':World):Prop:=w.heap.size<=w'.heap.size/\∀b,b<w.heap.size->b≠WB->v.ownBlock≠some b->w'.heap[b]? =w.heap[b]?/\v'.ownBlock≠some b
theorem Ba.refl(WB:Nat)(v:Value)(w:World):Ba WB v w v w:=⟨gF _,fun b _ _ h=>⟨rfl,h⟩⟩
theorem Ba.trans{WB:Nat}{v v' v'':Value}{w w' w'':World}(h:Ba WB v w v' w')(k:Ba WB v' w' v'' w''):Ba WB v w v'' w'':=
 ⟨gH h.1 k.1,fun b h1 h2 h3=>by
  obtain⟨a1,a2⟩:=h.2 b h1 h2 h3;obtain⟨b1,b2⟩:=k.2 b (Nat.lt_of_lt_of_le h1 h.1) h2 a2
  exact⟨b1.trans a1,b2⟩⟩
theorem Ba.below{E WB:Nat}{l:List Nat}{v v':Value}{w w1 w':World}(hm:Bc E WB l v w)(k:Below w.heap.size w w1)(h:Ba WB v w1 v' w'):Ba WB v w v' w':=
 ⟨gH k.size h.1,fun b h1 h2 h3=>by
  obtain⟨a1,a2⟩:=h.2 b (Nat.lt_of_lt_of_le h1 k.size) h2 h3
  exact⟨a1.trans (k.block b h1),a2⟩⟩
theorem Gw:(prog.info? 5).map (fun i=>(i.zero,i.size,i.bytes))=some (some (.int .u8 0),1,1):=kR
theorem Fv{w:World}{B:Nat}{t t':TypeId}{k n n' b:Nat}{v:Value}{xs:List Value}{f:Nat->Value}(h:w.ownsRow B t k v n xs)(h':w.rowIs b t' n' f)(ht:t≠t'):v.ownBlock≠some b:=by
 intro hb;rcases h.2 with⟨rfl,_⟩|⟨g,cap,cur,rfl,_,hg,_⟩
 .exact absurd (show(none:Option Nat)=some b from hb) sM
 obtain⟨c,hc,-⟩:=h';have e1:g=b:=Option.some.inj hb;rw[e1,hc]at hg;simp only[Option.some.injEq,Obj.cells.injEq]at hg;exact ht hg.2.1.symm
theorem Bc.app{E WB:Nat}{l:List Nat}{v:Value}{w:World}(h:Bc E WB l v w)(hl:l.length<=100000000)(b:Nat):
 ∃p q g c' w',v=.slice p l.length q/\(Builtin.append_ #[49,49] 49 #[.slice p l.length q,.slice (some ⟨w.heap.size,0,none⟩) 1 1]).run prog (w.alloc (.cells #[.int .u8 (b:Int)] 5))=.ok (.slice (some ⟨g,0,none⟩) (l.length+1) c') w'/\w'.cell? ⟨WB,0,none⟩=some (.slice p l.length q)/\w'.frozen? ⟨WB,0,none⟩=false/\Below E w (w'.setCell ⟨WB,0,none⟩ (.slice (some ⟨g,0,none⟩) (l.length+1) c'))/\Bc E WB (l++[b]) (.slice (some ⟨g,0,none⟩) (l.length+1) c') (w'.setCell ⟨WB,0,none⟩ (.slice (some ⟨g,0,none⟩) (l.length+1) c'))/\Ba WB v w (.slice (some ⟨g,0,none⟩) (l.length+1) c') (w'.setCell ⟨WB,0,none⟩ (.slice (some ⟨g,0,none⟩) (l.length+1) c')):=by
 obtain⟨p,q,rfl⟩:=At h.o;obtain⟨g,c',w',h1,h2,h3,h4,h5⟩:=CL (t:=49) (e:=5) underlying49 Gw rF dE h.o h.le #[.int .u8 (b:Int)] rfl Nn mL oM 49;have hb':=h.b.of_block (h4 _ h.b.lt (Fv h.o h.b dE));refine⟨p,q,g,c',w',rfl,h1,hb'.cell (i:=0) dE,hb'.frozen 0,h2.setCell h.ge _,⟨(hb'.set 0 _).congr fun j hj=>?_,?_,h.ge,by simpa using gH h.le h2.size⟩,by simpa using h2.size,fun k k1 k2 k3=>⟨(gE k2).trans (h4 k k1 k3),fun e=>?_⟩⟩
 .have:j=0:=oM;subst this;rfl
 .rw[List.length_append,Ng];exact RN
 .have e1:g=k:=Option.some.inj e;rcases h5 with q|q
  .exact k3 (by rw[q,e1])
  .omega
theorem Cs(E WB:Nat)(l:List Nat)(v:Value)(w:World)(h:Bc E WB l v w)(hl:l.length<=100000000)(n:Nat)(hn:n<256):
 Calls prog 80 #[.pointer (some ⟨WB,0,none⟩),.int .i64 (n:Int)] w fun e w'=>e=.returned (.tuple #[])/\Below E w w'/\∃v',Bc E WB (l++[n]) v' w'/\Ba WB v w v' w':=by
 obtain⟨p,q,g,c',w',rfl,hrun,c0,f0,hb,hW,hO⟩:=h.app hl n;have b0:w.cell? ⟨WB,0,none⟩=some (.slice p l.length q):=h.b.cell (i:=0) dE;have b0':(w.alloc (.cells #[.int .u8 (n:Int)] 5)).cell? ⟨WB,0,none⟩=some (.slice p l.length q):=kc (A5 _ _) b0;have hwr:IntKind.u8.wrap (n:Int)=(n:Int):=by rw[IntKind.wrap_u8'];omega
 have HRUN:=A6 (hrun);have HB:=A6 (hb);have HW:=A6 hW;have HO:=A6 hO;clear hrun hb hW h hO;go_enter func80,ntmps80;go_wp2_with(at_builtin;refine AF rF _ _ _ rF _ _ _ rF rF HRUN.out ?_);first|go_end0|refine bodyPost_ret (results_none rfl _ _ _) rfl ?_
 exact⟨rfl,HB.out,_,HW.out,HO.out⟩
theorem Bm(E WB:Nat)(l:List Nat)(v:Value)(w:World)(h:Bc E WB l v w)(n:Nat)(hn:n<9223372036854775808)(hl:l.length+(Ak n).length<=100000000):
 Calls prog 79 #[.pointer (some ⟨WB,0,none⟩),.int .i64 (n:Int)] w fun e w'=>e=.returned (.tuple #[])/\Below E w w'/\∃v',Bc E WB (l++Ak n) v' w'/\Ba WB v w v' w':=by
 have HK:Hid (∀ (m:List Nat) (v:Value) (u:World) (k:Nat),Bc E WB m v u->m.length<=100000000->k<256->Calls prog 80 #[.pointer (some ⟨WB,0,none⟩),.int .i64 (k:Int)] u fun e w'=>e=.returned (.tuple #[])/\Below E u w'/\∃v',Bc E WB (m++[k]) v' w'/\Ba WB v u v' w'):=fun m v u k a b c=>Cs E WB m v u a b k c;have HS:Hid (Below E w w/\∃v',Bc E WB l v' w/\Ba WB v w v' w):=⟨Below.refl E w,v,h,Ba.refl _ _ _⟩
 clear h;go_enter func79,ntmps79;go_wp2_with fail
 go_loopw [1] (fun nv wx=>∃ (k:Nat) (m:List Nat),nv=.int .i64 (k:Int)/\Hid (k<9223372036854775808/\m++Ak k=l++Ak n)/\Hid (Below E w wx/\∃v',Bc E WB m v' wx/\Ba WB v w v' wx)) (fun nv _=>(intOf nv).toNat)
 case atStart=>exact⟨n,l,rfl,⟨hn,rfl⟩,HS.out⟩
 case round=>
  clear HS;obtain⟨k,m,rfl,HE,HJ⟩:=hrel;obtain⟨hk,he⟩:=HE.out;obtain⟨hb,v2,hW,hO⟩:=HJ.out;have HO:=A6 hO;clear hO;have hml:m.length+(Ak k).length=l.length+(Ak n).length:=by rw[<-List.length_append,he,List.length_append]
  by_cases hlt:k<128
  .have e1:¬ (128:Int)<=(k:Int):=oM;have KS:=A6 (HK.out m v2 wr k hW oM oM);have HN:Hid (m++[k]=l++Ak n):=by
    show m++[k]=l++Ak n;rw[<-he,BP hlt]
   have HB:Hid (Below E w wr):=hb;clear hW hb hml HE HJ he;go_wp2_with(go_at_call 80;(with_reducible refine KS.out.mono ?_);rintro e9 w4 ⟨rfl,hb4,hf4⟩;have HB4:=A6 (hb4);have HF4:=A6 (hf4);clear hb4 hf4);first|go_end0|refine bodyPost_ret (results_none rfl _ _ _) rfl ?_|(simp only[Exit.inBlock,Exit.then];refine bodyPost_ret (results_none rfl _ _ _) rfl ?_)
   refine⟨rfl,HB.trans HB4.out,?_⟩;rw[<-HN.out];obtain⟨v5,a1,a2⟩:=HF4.out;exact⟨v5,a1,HO.trans a2⟩
  .have e1:(128:Int)<=(k:Int):=oM;obtain⟨Q,hQ⟩:∃q,k%128+128=q:=⟨_,rfl⟩
   have KS:=A6 (HK.out m v2 wr Q hW oM oM);have HN:Hid ((m++[Q])++Ak (k/128)=l++Ak n):=by
    show(m++[Q])++Ak (k/128)=l++Ak n;rw[<-he,Ch hlt,hQ];simp
   have HB:Hid (Below E w wr):=hb;have t1:((k:Int).tmod 128)=((k%128:Nat):Int):=by rw[Int.tmod_eq_emod_of_nonneg oM];rfl
   have t2:IntKind.i64.wrap ((k:Int)%128+128)=(Q:Int):=by rw[IntKind.wrap_i64];omega
   have t3:((k:Int).tdiv 128)=((k/128:Nat):Int):=by rw[Int.tdiv_eq_ediv_of_nonneg oM];rfl
   have HK2:Hid (k/128<9223372036854775808):=by show k/128<_;omega
   clear hW hb hml HE HJ he hQ;go_wp2_with(go_at_call 80;(with_reducible refine KS.out.mono ?_);rintro e9 w4 ⟨rfl,hb4,hf4⟩;have HB4:=A6 (hb4);have HF4:=A6 (hf4);clear hb4 hf4);go_roundw
   case rel=>
    obtain⟨v5,a1,a2⟩:=HF4.out;exact⟨k/128,_,by first|rfl|simp,⟨HK2.out,HN.out⟩,HB.trans HB4.out,v5,a1,HO.trans a2⟩
   case measure=>simp[intOf];omega
theorem E4(E WB:Nat)(l:List Nat)(v:Value)(w:World)(h:Bc E WB l v w)(n:Nat)(hn:n<18446744073709551616)(c:Nat)(hc:c<=1000)(hl:l.length+c<=100000000):
 Calls prog 18 #[.pointer (some ⟨WB,0,none⟩),.int .u64 (n:Int),.int .i64 (c:Int)] w fun e w'=>e=.returned (.tuple #[])/\Below E w w'/\∃v',Bc E WB (l++AK c n) v' w'/\Ba WB v w v' w':=by
 have HS:Hid (Below E w w/\∃v',Bc E WB l v' w/\Ba WB v w v' w):=⟨Below.refl E w,v,h,Ba.refl _ _ _⟩
 clear h;go_enter func18,ntmps18;go_upto_block 0 with fail;go_wp2_with fail
 go_loopw [1,7] (fun nv iv wx=>∃ (k j:Nat) (m:List Nat),j<=c/\nv=.int .u64 (k:Int)/\iv=.int .i64 (j:Int)/\Hid (k<18446744073709551616/\m++AK (c-j) k=l++AK c n)/\Hid (Below E w wx/\∃v',Bc E WB m v' wx/\Ba WB v w v' wx)) (fun _ iv _=>c-(intOf iv).toNat)
 case atStart=>exact⟨n,0,l,gI _,rfl,rfl,⟨hn,rfl⟩,HS.out⟩
 case round=>
  clear HS;obtain⟨k,j,m,hj,rfl,rfl,HE,HJ⟩:=hrel;obtain⟨hk,he⟩:=HE.out;obtain⟨hb,v2,hW,hO⟩:=HJ.out;have HO:=A6 hO;clear hO;have hml:m.length+(c-j)=l.length+c:=by
   have:=congrArg List.length he;rw[List.length_append,List.length_append,AN,AN]at this;exact this
  by_cases hlt:j<c
  .have e1:(j:Int)<(c:Int):=oM;obtain⟨p,q,g,c',w',rfl,hrun,c0,f0,hb2,hW2,hO2⟩:=hW.app oM (k%256);have HO2:=A6 (HO.trans hO2);clear hO2;have b0:wr.cell? ⟨WB,0,none⟩=some (.slice p m.length q):=hW.b.cell (i:=0) dE;obtain⟨Q,hQ⟩:∃q,k%256=q:=⟨_,rfl⟩
   rw[hQ]at hrun hW2;have b0':(wr.alloc (.cells #[.int .u8 (Q:Int)] 5)).cell? ⟨WB,0,none⟩=some (.slice p m.length q):=kc (A5 _ _) b0;have hwr:IntKind.u8.wrap (k:Int)=(Q:Int):=by rw[IntKind.wrap_u8'];omega
   have hN:(m++[Q])++AK (c-(j+1)) (k/256)=l++AK c n:=by
    rw[<-he,<-hQ,show c-j=(c-(j+1))+1 by omega];show _=m++(k%256::AK (c-(j+1)) (k/256));simp
   have HN:=A6 (hN);have HRUN:=A6 (hrun);have HB2:=A6 (hb.trans hb2);have HW2:=A6 (hW2);have wj:IntKind.i64.wrap ((j:Int)+1)=((j+1:Nat):Int):=by rw[IntKind.wrap_i64];omega
   have HK2:Hid (k/256<18446744073709551616):=by show k/256<_;omega
   clear hN hrun hb hb2 hW hW2 hml HE HJ he hQ;go_wp2_with(at_builtin;refine AF rF _ _ _ rF _ _ _ rF rF HRUN.out ?_);go_roundw
   case rel=>exact⟨k/256,j+1,_,oM,by first|rfl|simp,gN,⟨HK2.out,HN.out⟩,HB2.out,_,HW2.out,HO2.out⟩
   case measure=>simp[intOf];omega
  .have e1:¬ (j:Int)<(c:Int):=oM;have hjc:c-j=0:=oM;rw[hjc]at he;have HN:Hid (m=l++AK c n):=by
    show m=l++AK c n;rw[<-he];exact(List.append_nil m).symm
   have HQ:Hid (Below E w wr/\∃v',Bc E WB m v' wr/\Ba WB v w v' wr):=HJ.out;clear hb hW hml HE HJ he hlt;go_wp2;first|go_end0|refine bodyPost_ret (results_none rfl _ _ _) rfl ?_|(simp only[Exit.inBlock,Exit.then];refine bodyPost_ret (results_none rfl _ _ _) rfl ?_)
   refine⟨rfl,HQ.1,?_⟩;rw[<-HN.out];exact HQ.2
theorem Hf:∀ (k n:Nat),n<128^(k+1)->(Ak n).length<=k+1
 |0,n,h=>by rw[BP (by simpa using h)];simp
 |k+1,n,h=>by
  by_cases q:n<128
  .rw[BP q];simp
  .rw[Ch q,List.length_cons];have:=Hf k (n/128) (by rw[Nat.pow_succ]at h;omega);omega
theorem Al{n:Nat}(h:n<9223372036854775808):(Ak n).length<=9:=Hf 8 n (Nat.lt_of_lt_of_eq h dE)
theorem QU(w:World)(cs:Array Value)(t:TypeId):(w.alloc (.cells cs t)).rowIs w.heap.size t cs.size (fun j=>cs[j]!):=World.rowIs_alloc w cs t (fun j=>cs[j]!) (fun i hi=>by simp[hi])
theorem FM(E WB:Nat)(l:List Nat)(v:Value)(w:World)(h:Bc E WB l v w)(t:Ty)(ht:Fu t)(hl:l.length+20<=100000000):
 Calls prog 43 #[.pointer (some ⟨WB,0,none⟩),.agg #[.int .i64 t.kind,.int .i64 t.par]] w fun e w'=>e=.returned (.tuple #[])/\Below E w w'/\∃v',Bc E WB (l++BL t) v' w'/\Ba WB v w v' w':=by
 obtain⟨kd,pr⟩:=t;obtain⟨t1,t2,t3,t4,t5⟩:=ht;simp only at t1 t2 t3 t4 t5 |-;obtain⟨K,hK⟩:∃K:Nat,kd=(K:Int):=⟨kd.toNat,oM⟩
 obtain⟨P,hP⟩:∃P:Nat,pr=(P:Int):=⟨pr.toNat,oM⟩
 subst hK hP;have hET:BL ⟨(K:Int),(P:Int)⟩=[K]++(if K=3 then Ak P else []):=by
  unfold BL Bt;simp only[Int.toNat_natCast];by_cases q:K=3
  .simp[q]
  .simp[q]
 have HET:=A6 hET;have hp9:=Al (n:=P) oM;obtain⟨V,hV⟩:=gA (w.alloc (.cells #[.int .i64 (K:Int),.int .i64 (P:Int)] 62))
 have hb0:Below w.heap.size w V:=by rw[<-hV];exact A5 _ _
 have hs0:V.heap.size=w.heap.size+1:=by rw[<-hV];simp
 obtain⟨X,hX⟩:=gA (w.heap.size)
 have x0:V.cell? ⟨X,0,none⟩=some (.int .i64 (K:Int)):=by rw[<-hV,<-hX];simp[go_sem]
 have x1:V.cell? ⟨X,1,none⟩=some (.int .i64 (P:Int)):=by rw[<-hV,<-hX];simp[go_sem]
 have h0:=h.below hb0;have HXN:Hid (X<V.heap.size/\X≠WB/\v.ownBlock≠some X):=⟨oM,by have:=h.b.lt;omega,fun e=>by have:=(h.o.lt _ e).2;omega⟩
 have KS:=A6 (Cs E WB l v V h0 oM K oM);have KN:=A6 (fun(m:List Nat) (v:Value) (u:World) (a:Bc E WB m v u) (b:m.length+(Ak P).length<=100000000)=>Bm E WB m v u a P oM b);have HBE:Hid (Below E w V):=hb0.mono h.le;have HOV:Hid (∀v' w',Ba WB v V v' w'->Ba WB v w v' w'):=fun v' w' q=>Ba.below h hb0 q;have hll:(l++[K]).length+(Ak P).length<=100000000:=by rw[List.length_append,List.length_singleton];omega
 clear h h0 hb0 hs0 hET;go_enter func43,ntmps43;go_upto_region 1 with fail;try rw[hV]
 try rw[hX]
 clear hV hX;go_upto_region 2 with(go_at_call 80;(with_reducible refine KS.out.mono ?_);rintro e9 w4 ⟨rfl,hb4,v4,hm4,ho4⟩;have HB4:=A6 hb4;have HM4:=A6 hm4;have HO4:=A6 ho4;clear hb4 hm4 ho4)
 have hX4:w4.heap[X]? =V.heap[X]? :=(HO4.2 X HXN.1 HXN.2.1 HXN.2.2).1;have y0:=(gC hX4 (a:=⟨X,0,none⟩)).trans x0;have y1:=(gC hX4 (a:=⟨X,1,none⟩)).trans x1;by_cases q:K=3
 .have q3:((K:Int)==3)=true:=by rw[q];rfl
  have HT:Hid (l++BL ⟨(K:Int),(P:Int)⟩=(l++[K])++Ak P):=by
   show l++BL ⟨(K:Int),(P:Int)⟩=_;rw[HET.out,if_pos q,List.append_assoc]
  have KN4:=A6 (KN.out _ _ _ HM4.out hll);clear hX4 q HET;go_wp2_with(go_at_call 79;(with_reducible refine KN4.out.mono ?_);rintro e9 w5 ⟨rfl,hb5,v5,hm5,ho5⟩;have HB5:=A6 hb5;have HM5:=A6 hm5;have HO5:=A6 ho5;clear hb5 hm5 ho5);first|go_end0|refine bodyPost_ret (results_none rfl _ _ _) rfl ?_
  refine⟨rfl,(HBE.trans HB4.out).trans HB5.out,v5,?_,HOV.out _ _ (HO4.trans HO5.out)⟩;rw[HT.out];exact HM5.out
 .have q3:((K:Int)==3)=false:=sO;have HT:Hid (l++BL ⟨(K:Int),(P:Int)⟩=l++[K]):=by
   show l++BL ⟨(K:Int),(P:Int)⟩=_;rw[HET.out,if_neg q,List.append_nil]
  clear hX4 q HET;go_wp2;first|go_end0|refine bodyPost_ret (results_none rfl _ _ _) rfl ?_
  refine⟨rfl,HBE.trans HB4.out,v4,?_,HOV.out _ _ HO4.out⟩;rw[HT.out];exact HM4.out
theorem Ct{t:Ty}(h:Fu t):(BL t).length<=10:=by
 obtain⟨h1,h2,h3,h4,-⟩:=h;have:=Al (n:=t.par.toNat) oM;unfold BL Bt;rw[List.length_append];split
 .simp;omega
 .simp
theorem Lq(E WB:Nat)(l:List Nat)(v:Value)(w:World)(h:Bc E WB l v w)(s:Sl)(hs:Hg s)(hl:l.length+40<=100000000):
 Calls prog 45 #[.pointer (some ⟨WB,0,none⟩),.agg #[.int .i64 s.ty.kind,.int .i64 s.ty.par,.bool s.keep,.int .u32 s.bits,.int .i64 s.int_]] w fun e w'=>e=.returned (.tuple #[])/\Below E w w'/\∃v',Bc E WB (l++C5 s) v' w'/\Ba WB v w v' w':=by
 obtain⟨⟨kd,pr⟩,kp,bt,it⟩:=s;obtain⟨ht,s2,s3,s4,s5,s6,s7⟩:=hs;simp only at ht s2 s3 s4 s5 s6 s7 |-;have hty:=Ct ht;have KT:=A6 (fun(m:List Nat) (v:Value) (u:World) (a:Bc E WB m v u) (b:m.length+20<=100000000)=>FM E WB m v u a ⟨kd,pr⟩ ht b);simp only at KT;obtain⟨B,hB⟩:∃B:Nat,bt=(B:Int):=⟨bt.toNat,oM⟩
 obtain⟨I,hI⟩:∃I:Nat,it=(I:Int):=⟨it.toNat,oM⟩
 subst hB hI;have hi9:=Al (n:=I) oM;have HET:Hid (C5 ⟨⟨kd,pr⟩,kp,(B:Int),(I:Int)⟩=[if kp=true then 1 else 0]++(BL ⟨kd,pr⟩++(if kd=2 then Ak I else AK 4 B))):=by
  show C5 ⟨⟨kd,pr⟩,kp,(B:Int),(I:Int)⟩=_;unfold C5;simp only[Int.toNat_natCast]
 obtain⟨Z,hZ⟩:∃z,(if kp=true then 1 else 0:Nat)=z:=⟨_,rfl⟩
 have hZ1:Z<=1:=by rw[<-hZ];split<;>omega
 rw[hZ]at HET;obtain⟨T,hT⟩:∃t,BL ⟨kd,pr⟩=t:=⟨_,rfl⟩
 rw[hT]at HET KT hty;obtain⟨V,hV⟩:=gA (w.alloc (.cells #[.int .i64 kd,.int .i64 pr,.bool kp,.int .u32 (B:Int),.int .i64 (I:Int)] 66))
 have hb0:Below w.heap.size w V:=by rw[<-hV];exact A5 _ _
 have hs0:V.heap.size=w.heap.size+1:=by rw[<-hV];simp
 obtain⟨X,hX⟩:=gA (w.heap.size)
 have x0:V.cell? ⟨X,0,none⟩=some (.int .i64 kd):=by rw[<-hV,<-hX];simp[go_sem]
 have x1:V.cell? ⟨X,1,none⟩=some (.int .i64 pr):=by rw[<-hV,<-hX];simp[go_sem]
 have x2:V.cell? ⟨X,2,none⟩=some (.bool kp):=by rw[<-hV,<-hX];simp[go_sem]
 have x3:V.cell? ⟨X,3,none⟩=some (.int .u32 (B:Int)):=by rw[<-hV,<-hX];simp[go_sem]
 have x4:V.cell? ⟨X,4,none⟩=some (.int .i64 (I:Int)):=by rw[<-hV,<-hX];simp[go_sem]
 have HXC:Hid (∀u:World,u.heap[X]? =V.heap[X]? ->u.cell? ⟨X,0,none⟩=some (.int .i64 kd)/\u.cell? ⟨X,1,none⟩=some (.int .i64 pr)/\u.cell? ⟨X,3,none⟩=some (.int .u32 (B:Int))/\u.cell? ⟨X,4,none⟩=some (.int .i64 (I:Int))):=fun u hu=>⟨(gC hu (a:=⟨X,0,none⟩)).trans x0,(gC hu (a:=⟨X,1,none⟩)).trans x1,(gC hu (a:=⟨X,3,none⟩)).trans x3,(gC hu (a:=⟨X,4,none⟩)).trans x4⟩
 have h0:=h.below hb0;have HXN:Hid (X<V.heap.size/\X≠WB/\v.ownBlock≠some X):=⟨oM,by have:=h.b.lt;omega,fun e=>by have:=(h.o.lt _ e).2;omega⟩
 have KS:=A6 (Cs E WB l v V h0 oM Z oM);have KN:=A6 (fun(m:List Nat) (v:Value) (u:World) (a:Bc E WB m v u) (b:m.length+(Ak I).length<=100000000)=>Bm E WB m v u a I oM b);have KF:Hid (∀ (m:List Nat) (v:Value) (u:World),Bc E WB m v u->m.length+4<=100000000->Calls prog 18 #[.pointer (some ⟨WB,0,none⟩),.int .u64 (B:Int),.int .i64 4] u fun e w'=>e=.returned (.tuple #[])/\Below E u w'/\∃v',Bc E WB (m++AK 4 B) v' w'/\Ba WB v u v' w'):=fun m v u a b=>E4 E WB m v u a B oM 4 oM b;have HBE:Hid (Below E w V):=hb0.mono h.le;have HOV:Hid (∀v' w',Ba WB v V v' w'->Ba WB v w v' w'):=fun v' w' q=>Ba.below h hb0 q;have hl1:(l++[Z]).length+20<=100000000:=by rw[List.length_append,List.length_singleton];omega
 have hl2:((l++[Z])++T).length+(Ak I).length<=100000000:=by rw[List.length_append,List.length_append,List.length_singleton];omega
 have hl3:((l++[Z])++T).length+4<=100000000:=by rw[List.length_append,List.length_append,List.length_singleton];omega
 have wB:IntKind.u64.wrap (B:Int)=(B:Int):=by unfold IntKind.wrap;simp[IntKind.signed,IntKind.bits];omega
 clear h h0 hb0 hs0 hT ht s2 s3 s4 s5 s6 s7 hi9 hty;go_enter func45,ntmps45;go_upto_region 1 with fail;try rw[hV]
 try rw[hX]
 clear hV hX;go_upto_if 6 with fail;go_cut [4] (fun kv wx=>kv=.int .i64 (Z:Int)/\wx=V)
 case first=>
  cases kp with
  |true=>
   obtain rfl:1=Z:=hZ;go_wp2;go_meet;exact⟨rfl,rfl⟩
  |false=>
   obtain rfl:0=Z:=hZ;go_wp2;go_meet;exact⟨rfl,rfl⟩
 case rest=>
  obtain⟨rfl,rfl⟩:=hcut;clear hZ;go_upto_region 5 with(go_at_call 80;(with_reducible refine KS.out.mono ?_);rintro e9 w4 ⟨rfl,hb4,v4,hm4,ho4⟩;have HB4:=A6 hb4;have HM4:=A6 hm4;have HO4:=A6 ho4;clear hb4 hm4 ho4)
  obtain⟨hX4,hv4⟩:=HO4.out.2 X HXN.out.1 HXN.out.2.1 HXN.out.2.2;obtain⟨y0,y1,y3,y4⟩:=HXC.out w4 hX4;have KT4:=A6 (KT.out _ _ _ HM4.out hl1);clear x0 x1 x2 x3 x4;go_upto_region 6 with(go_at_call 43;(with_reducible refine KT4.out.mono ?_);rintro e9 w5 ⟨rfl,hb5,v5,hm5,ho5⟩;have HB5:=A6 hb5;have HM5:=A6 hm5;have HO5:=A6 ho5;clear hb5 hm5 ho5)
  obtain⟨hX5,hv5⟩:=HO5.2 X (Nat.lt_of_lt_of_le HXN.1 HO4.1) HXN.2.1 hv4;clear y0 y1 y3 y4;obtain⟨y0,y1,y3,y4⟩:=HXC.out w5 (hX5.trans hX4);by_cases q:kd=2
  .have q3:(kd==2)=true:=by simpa using q
   have HT:Hid (l++C5 ⟨⟨kd,pr⟩,kp,(B:Int),(I:Int)⟩=((l++[Z])++T)++Ak I):=by
    show l++C5 _=_;rw[HET.out,if_pos q];simp
   have KN5:=A6 (KN.out _ _ _ HM5.out hl2);clear hX4 hX5 hv4 hv5 q HET;go_wp2_with(go_at_call 79;(with_reducible refine KN5.out.mono ?_);rintro e9 w6 ⟨rfl,hb6,v6,hm6,ho6⟩;have HB6:=A6 hb6;have HM6:=A6 hm6;have HO6:=A6 ho6;clear hb6 hm6 ho6);exact Ro
  .have q3:(kd==2)=false:=by simpa using q
   have HT:Hid (l++C5 ⟨⟨kd,pr⟩,kp,(B:Int),(I:Int)⟩=((l++[Z])++T)++AK 4 B):=by
    show l++C5 _=_;rw[HET.out,if_neg q];simp
   have KF5:=A6 (KF.out _ _ _ HM5.out hl3);clear hX4 hX5 hv4 hv5 q HET;go_wp2_with(go_at_call 18;(with_reducible refine KF5.out.mono ?_);rintro e9 w6 ⟨rfl,hb6,v6,hm6,ho6⟩;have HB6:=A6 hb6;have HM6:=A6 hm6;have HO6:=A6 ho6;clear hb6 hm6 ho6);exact Ro
theorem F2{s:Sl}(h:Hg s):(C5 s).length<=20:=by
 have h1:=Ct h.1;obtain⟨-,h3,h4,-⟩:=h;have h2:=Al (n:=s.int_.toNat) oM;have h5:(if s.ty.kind=2 then Ak s.int_.toNat else AK 4 s.bits.toNat).length<=9:=by
  split
  .exact h2
  .rw[AN];omega
 unfold C5;rw[List.length_append,List.length_append,List.length_singleton];omega
theorem B9{α:Type}{e:α->List Nat}{m:Nat}:∀ (l:List α),(∀x∈l,(e x).length<=m)->(l.flatMap e).length<=m*l.length
 |[],_=>by simp
 |a::l,h=>by
  rw[List.flatMap_cons,List.length_append,List.length_cons,Nat.mul_succ];have h1:=h a sM;have h2:=B9 l (fun x hx=>h x (List.mem_cons_of_mem _ hx));omega
theorem BA{α:Type}(e:α->List Nat){l:List α}{k:Nat}(h:k<l.length):(l.take (k+1)).flatMap e=(l.take k).flatMap e++e l[k]:=by
 rw[List.take_succ_eq_append_getElem h,List.flatMap_append];simp
theorem J1(E WB:Nat)(l:List Nat)(v:Value)(w:World)(h:Bc E WB l v w)(rs:List Ty)(hrs:∀x∈rs,Fu x)(hn:rs.length<=16384)(p:Option Addr)(q:Nat)(hr:∀u,Below E w u->B4 2 Ey u (.slice p rs.length q) rs)(hl:l.length+1000000<=100000000):
 Calls prog 42 #[.pointer (some ⟨WB,0,none⟩),.slice p rs.length q,.func (.func 43) #[.pointer (some ⟨WB,0,none⟩)] #[]] w fun e w'=>e=.returned (.tuple #[])/\Below E w w'/\∃v',Bc E WB (l++An BL rs) v' w'/\Ba WB v w v' w':=by
 obtain⟨N,hN⟩:=gA (rs.length)
 have hnl:=Al (n:=N) oM;have HLN:Hid (∀k,((l++Ak N)++(rs.take k).flatMap BL).length+100<=100000000):=fun k=>by
  have h1:=B9 (e:=BL) (m:=10) (rs.take k) (fun x hx=>Ct (hrs x (List.mem_of_mem_take hx)));rw[List.length_take]at h1;rw[List.length_append,List.length_append];have h2:min k rs.length<=16384:=oM;omega
 have HFM:=A6 (fun(k:Nat) (hk:k<rs.length)=>BA BL hk);have HEL:Hid (An BL rs=Ak N++rs.flatMap BL):=by show An BL rs=_;unfold An;rw[hN]
 have KW:=A6 (fun(m:List Nat) (v:Value) (u:World) (a:Bc E WB m v u) (x:Ty) (hx:Fu x) (b:m.length+100<=100000000)=>FM E WB m v u a x hx oM);have KN:=A6 (Bm E WB l v w h N oM oM);have HRW:Hid (∀u,Below E w u->B4 2 Ey u (.slice p N q) rs):=fun u hu=>by rw[<-hN];exact hr u hu
 have HOK:=A6 hrs;have HN:=A6 hN;rw[hN]at hn |-;clear hr hrs h hN;go_enter func42,ntmps42;go_upto_block 0 with(go_at_call 79;(with_reducible refine KN.out.mono ?_);rintro e9 w4 ⟨rfl,hb4,v4,hm4,ho4⟩;have HJ0:Hid (Below E w w4/\∃v',Bc E WB ((l++Ak N)++(rs.take 0).flatMap BL) v' w4/\Ba WB v w v' w4):=⟨hb4,v4,Qk,ho4⟩;clear hb4 hm4 ho4)
 go_wp2_with fail
 go_loopw [14] (fun iv wx=>∃k:Nat,k<=N/\iv=.int .i64 (k:Int)/\Hid (Below E w wx/\∃v',Bc E WB ((l++Ak N)++(rs.take k).flatMap BL) v' wx/\Ba WB v w v' wx)) (fun iv _=>N-(intOf iv).toNat)
 case atStart=>exact⟨0,gI _,rfl,HJ0.out⟩
 case round=>
  clear HJ0;obtain⟨k,hk,rfl,HJ⟩:=hrel;by_cases hlt:k<N
  .have hkl:k<rs.length:=by have:=HN.out;omega
   obtain⟨hb,v2,hm,ho⟩:=HJ.out;obtain⟨rb,ro,rfl,hcl⟩:=(HRW.out wr hb).at hkl;have hx:=HOK.out rs[k] (gD hkl);have hfm:=HFM.out k hkl;obtain⟨x,hxe⟩:=gA (rs[k])
   rw[hxe]at hcl hx hfm;obtain⟨V,hV⟩:=gA (wr.alloc (.cells #[.int .i64 (x.kind),.int .i64 (x.par)] 62))
   have hbV:Below wr.heap.size wr V:=by rw[<-hV];exact A5 _ _
   have y0:=hcl.at 0 (v:=.int .i64 (x.kind)) rfl;rw[Nat.add_zero]at y0;have y1:=hcl.at 1 (v:=.int .i64 (x.par)) rfl;have z0:V.cell? ⟨wr.heap.size,0,none⟩=some (.int .i64 (x.kind)):=by rw[<-hV];simp[go_sem]
   have z1:V.cell? ⟨wr.heap.size,1,none⟩=some (.int .i64 (x.par)):=by rw[<-hV];simp[go_sem]
   have llb:rb<wr.heap.size:=Ae y0;have n9:¬rb=wr.heap.size:=oM;have KX:=A6 (KW.out _ v2 V (hm.below hbV) x hx (HLN.out k));have HFM':=A6 hfm;have HBV:Hid (Below E w V):=hb.trans (hbV.mono hm.le);have HOV:Hid (∀v' w',Ba WB v2 V v' w'->Ba WB v w v' w'):=fun v' w' z=>ho.trans (Ba.below hm hbV z);have i1:(0:Int)<=(k:Int):=oM;have i2:(k:Int)<(N:Int):=oM;have wi:IntKind.i64.wrap ((k:Int)+1)=((k+1:Nat):Int):=by rw[IntKind.wrap_i64];omega
   clear hb hm ho hcl hx hfm hxe hbV llb HJ;go_wp2_with(go_at_call 43;(with_reducible refine KX.out.mono ?_);rintro e9 w5 ⟨rfl,hb5,v5,hm5,ho5⟩;have HQ:Hid (Below E w w5/\∃v',Bc E WB ((l++Ak N)++(rs.take (k+1)).flatMap BL) v' w5/\Ba WB v w v' w5):=⟨HBV.out.trans hb5,v5,Ql,HOV.out _ _ ho5⟩;clear hb5 hm5 ho5);exact PA
  .have e1:¬ (k:Int)<(N:Int):=oM;have hall:rs.take k=rs:=List.take_of_length_le Pn;have HQ:Hid (Below E w wr/\∃v',Bc E WB (l++An BL rs) v' wr/\Ba WB v w v' wr):=by
    exact Q9
   exact Q1
theorem J0(E WB:Nat)(l:List Nat)(v:Value)(w:World)(h:Bc E WB l v w)(rs:List Sl)(hrs:∀x∈rs,Hg x)(hn:rs.length<=4096)(p:Option Addr)(q:Nat)(hr:∀u,Below E w u->B4 5 F8 u (.slice p rs.length q) rs)(hl:l.length+1000000<=100000000):
 Calls prog 44 #[.pointer (some ⟨WB,0,none⟩),.slice p rs.length q,.func (.func 45) #[.pointer (some ⟨WB,0,none⟩)] #[]] w fun e w'=>e=.returned (.tuple #[])/\Below E w w'/\∃v',Bc E WB (l++An C5 rs) v' w'/\Ba WB v w v' w':=by
 obtain⟨N,hN⟩:=gA (rs.length)
 have hnl:=Al (n:=N) oM;have HLN:Hid (∀k,((l++Ak N)++(rs.take k).flatMap C5).length+100<=100000000):=fun k=>by
  have h1:=B9 (e:=C5) (m:=20) (rs.take k) (fun x hx=>F2 (hrs x (List.mem_of_mem_take hx)));rw[List.length_take]at h1;rw[List.length_append,List.length_append];have h2:min k rs.length<=4096:=oM;omega
 have HFM:=A6 (fun(k:Nat) (hk:k<rs.length)=>BA C5 hk);have HEL:Hid (An C5 rs=Ak N++rs.flatMap C5):=by show An C5 rs=_;unfold An;rw[hN]
 have KW:=A6 (fun(m:List Nat) (v:Value) (u:World) (a:Bc E WB m v u) (x:Sl) (hx:Hg x) (b:m.length+100<=100000000)=>Lq E WB m v u a x hx oM);have KN:=A6 (Bm E WB l v w h N oM oM);have HRW:Hid (∀u,Below E w u->B4 5 F8 u (.slice p N q) rs):=fun u hu=>by rw[<-hN];exact hr u hu
 have HOK:=A6 hrs;have HN:=A6 hN;rw[hN]at hn |-;clear hr hrs h hN;go_enter func44,ntmps44;go_upto_block 0 with(go_at_call 79;(with_reducible refine KN.out.mono ?_);rintro e9 w4 ⟨rfl,hb4,v4,hm4,ho4⟩;have HJ0:Hid (Below E w w4/\∃v',Bc E WB ((l++Ak N)++(rs.take 0).flatMap C5) v' w4/\Ba WB v w v' w4):=⟨hb4,v4,Qk,ho4⟩;clear hb4 hm4 ho4)
 go_wp2_with fail
 go_loopw [14] (fun iv wx=>∃k:Nat,k<=N/\iv=.int .i64 (k:Int)/\Hid (Below E w wx/\∃v',Bc E WB ((l++Ak N)++(rs.take k).flatMap C5) v' wx/\Ba WB v w v' wx)) (fun iv _=>N-(intOf iv).toNat)
 case atStart=>exact⟨0,gI _,rfl,HJ0.out⟩
 case round=>
  clear HJ0;obtain⟨k,hk,rfl,HJ⟩:=hrel;by_cases hlt:k<N
  .have hkl:k<rs.length:=by have:=HN.out;omega
   obtain⟨hb,v2,hm,ho⟩:=HJ.out;obtain⟨rb,ro,rfl,hcl⟩:=(HRW.out wr hb).at hkl;have hx:=HOK.out rs[k] (gD hkl);have hfm:=HFM.out k hkl;obtain⟨x,hxe⟩:=gA (rs[k])
   rw[hxe]at hcl hx hfm;obtain⟨V,hV⟩:=gA (wr.alloc (.cells #[.int .i64 (x.ty.kind),.int .i64 (x.ty.par),.bool (x.keep),.int .u32 (x.bits),.int .i64 (x.int_)] 66))
   have hbV:Below wr.heap.size wr V:=by rw[<-hV];exact A5 _ _
   have y0:=hcl.at 0 (v:=.int .i64 (x.ty.kind)) rfl;rw[Nat.add_zero]at y0;have y1:=hcl.at 1 (v:=.int .i64 (x.ty.par)) rfl;have y2:=hcl.at 2 (v:=.bool (x.keep)) rfl;have y3:=hcl.at 3 (v:=.int .u32 (x.bits)) rfl;have y4:=hcl.at 4 (v:=.int .i64 (x.int_)) rfl;have z0:V.cell? ⟨wr.heap.size,0,none⟩=some (.int .i64 (x.ty.kind)):=by rw[<-hV];simp[go_sem]
   have z1:V.cell? ⟨wr.heap.size,1,none⟩=some (.int .i64 (x.ty.par)):=by rw[<-hV];simp[go_sem]
   have z2:V.cell? ⟨wr.heap.size,2,none⟩=some (.bool (x.keep)):=by rw[<-hV];simp[go_sem]
   have z3:V.cell? ⟨wr.heap.size,3,none⟩=some (.int .u32 (x.bits)):=by rw[<-hV];simp[go_sem]
   have z4:V.cell? ⟨wr.heap.size,4,none⟩=some (.int .i64 (x.int_)):=by rw[<-hV];simp[go_sem]
   have llb:rb<wr.heap.size:=Ae y0;have n9:¬rb=wr.heap.size:=oM;have KX:=A6 (KW.out _ v2 V (hm.below hbV) x hx (HLN.out k));have HFM':=A6 hfm;have HBV:Hid (Below E w V):=hb.trans (hbV.mono hm.le);have HOV:Hid (∀v' w',Ba WB v2 V v' w'->Ba WB v w v' w'):=fun v' w' z=>ho.trans (Ba.below hm hbV z);have i1:(0:Int)<=(k:Int):=oM;have i2:(k:Int)<(N:Int):=oM;have wi:IntKind.i64.wrap ((k:Int)+1)=((k+1:Nat):Int):=by rw[IntKind.wrap_i64];omega
   clear hb hm ho hcl hx hfm hxe hbV llb HJ;go_wp2_with(go_at_call 45;(with_reducible refine KX.out.mono ?_);rintro e9 w5 ⟨rfl,hb5,v5,hm5,ho5⟩;have HQ:Hid (Below E w w5/\∃v',Bc E WB ((l++Ak N)++(rs.take (k+1)).flatMap C5) v' w5/\Ba WB v w v' w5):=⟨HBV.out.trans hb5,v5,Ql,HOV.out _ _ ho5⟩;clear hb5 hm5 ho5);exact PA
  .have e1:¬ (k:Int)<(N:Int):=oM;have hall:rs.take k=rs:=List.take_of_length_le Pn;have HQ:Hid (Below E w wr/\∃v',Bc E WB (l++An C5 rs) v' wr/\Ba WB v w v' wr):=by
    exact Q9
   exact Q1
structure Bq(E RB:Nat)(s:ByteArray)(A:Nat)(w:World):Prop where
 b:w.rowIs RB 75 2 (fun k=>if k=0 then .string s else .int .i64 (A:Int))
 ge:E<=RB
theorem Bq.c0{E RB:Nat}{s:ByteArray}{A:Nat}{w:World}(h:Bq E RB s A w):w.cell? ⟨RB,0,none⟩=some (.string s):=h.b.cell (i:=0) dE
theorem Bq.c1{E RB:Nat}{s:ByteArray}{A:Nat}{w:World}(h:Bq E RB s A w):w.cell? ⟨RB,1,none⟩=some (.int .i64 (A:Int)):=h.b.cell (i:=1) dE
theorem Bq.below{E RB:Nat}{s:ByteArray}{A:Nat}{w w':World}(h:Bq E RB s A w)(k:Below w.heap.size w w'):Bq E RB s A w':=⟨h.b.of_block (k.block _ h.b.lt),h.ge⟩
theorem Bq.set{E RB:Nat}{s:ByteArray}{A:Nat}{w:World}(h:Bq E RB s A w)(A':Nat):Bq E RB s A' (w.setCell ⟨RB,1,none⟩ (.int .i64 (A':Int))):=⟨(h.b.set 1 _).congr fun j hj=>by
 rcases(show j=0\/j=1 by omega)with rfl|rfl<;>rfl,h.ge⟩
def AZ(RB:Nat)(w w':World):Prop:=w.heap.size<=w'.heap.size/\∀b,b<w.heap.size->b≠RB->w'.heap[b]? =w.heap[b]?
theorem AZ.refl(RB:Nat)(w:World):AZ RB w w:=⟨gF _,fun _ _ _=>rfl⟩
theorem AZ.trans{RB:Nat}{w w' w'':World}(h:AZ RB w w')(k:AZ RB w' w''):AZ RB w w'':=⟨gH h.1 k.1,fun b h1 h2=>(k.2 b (Nat.lt_of_lt_of_le h1 h.1) h2).trans (h.2 b h1 h2)⟩
theorem AZ.of{RB:Nat}{w w':World}(k:Below w.heap.size w w'):AZ RB w w':=⟨k.size,fun b h1 _=>k.block b h1⟩
theorem AZ.set(RB:Nat)(w:World)(o:Nat)(v:Value):AZ RB w (w.setCell ⟨RB,o,none⟩ v):=⟨sM,fun b _ h=>gE h⟩
def AY(er:Int)(at_:Nat):Ending:=.panicked [{v:=.iface 72 (.agg #[.int .i64 er,.int .i64 (at_:Int)]),recovered:=false}]
theorem FK(E RB:Nat)(s:ByteArray)(A n:Nat)(w:World)(h:Bq E RB s A w)(hA:A<=s.size)(hs:s.size<=140737488355328)(hn:n<=140737488355328)(hc:s.size<A+n):
 Calls prog 83 #[.pointer (some ⟨RB,0,none⟩),.int .i64 (n:Int)] w fun e w'=>e=AY 242 A/\Below w.heap.size w w':=by
 have c0:=h.c0;have c1:=h.c1;obtain⟨N,hN⟩:=gA (s.size)
 have wS:IntKind.i64.wrap ((N:Int)-(A:Int))=((N-A:Nat):Int):=by rw[IntKind.wrap_i64];omega
 have q1:((N-A:Nat):Int)<(n:Int):=oM;have HB:Hid (Below w.heap.size w w.drew):=(Below.refl _ _).drew;unfold AY;clear h;go_enter func83,ntmps83;go_upto_region 1 with fail;refine rG (fun v=>v.cell? ⟨RB,0,none⟩=some (.string s)/\v.cell? ⟨RB,1,none⟩=some (.int .i64 (A:Int))) fun hJ=>?_;refine wpAnyH_take (i:=0) (v:=?_) A7 kR kR kR A8 (Or.inl ⟨rF,?_⟩) A9 ?_
 rotate_left 1
 ·(intro wS hSw;(try dsimp only at hSw);go_simp;try(with_reducible rfl))
 try simp only[Act.put,List.setIfInBounds_toArray,List.set_cons_zero,List.set_cons_succ]
 refine wpAnyH_take (i:=1) (v:=?_) A7 kR kR kR A8 (Or.inl ⟨rF,?_⟩) A9 ?_
 rotate_left 1
 ·(intro wS hSw;(try dsimp only at hSw);go_simp;try(with_reducible rfl))
 try simp only[Act.put,List.setIfInBounds_toArray,List.set_cons_zero,List.set_cons_succ]
 refine wpAnyH_take (i:=2) (v:=?_) A7 kR kR kR A8 (Or.inl ⟨rF,?_⟩) A9 ?_
 rotate_left 1
 ·(intro wS hSw;(try dsimp only at hSw);go_simp;try(with_reducible rfl))
 try simp only[Act.put,List.setIfInBounds_toArray,List.set_cons_zero,List.set_cons_succ]
 refine wpAnyH_take (i:=3) (v:=?_) A7 kR kR kR A8 (Or.inl ⟨rF,?_⟩) A9 ?_
 rotate_left 1
 ·(intro wS hSw;(try dsimp only at hSw);go_simp;try(with_reducible rfl))
 try simp only[Act.put,List.setIfInBounds_toArray,List.set_cons_zero,List.set_cons_succ]
 refine wpAnyH_take (i:=4) (v:=?_) A7 kR kR kR A8 (Or.inl ⟨rF,?_⟩) A9 ?_
 rotate_left 1
 ·(intro wS hSw;(try dsimp only at hSw);go_simp;try(with_reducible rfl))
 try simp only[Act.put,List.setIfInBounds_toArray,List.set_cons_zero,List.set_cons_succ]
 refine wpAnyH_take (i:=5) (v:=?_) A7 kR kR kR A8 (Or.inl ⟨rF,?_⟩) A9 ?_
 rotate_left 1
 ·(intro wS hSw;(try dsimp only at hSw);go_simp;try(with_reducible rfl))
 try simp only[Act.put,List.setIfInBounds_toArray,List.set_cons_zero,List.set_cons_succ]
 refine wpAnyH_take (i:=6) (v:=?_) A7 kR kR kR A8 (Or.inl ⟨rF,?_⟩) A9 ?_
 rotate_left 1
 ·(intro wS hSw;(try dsimp only at hSw);go_simp;try(with_reducible rfl))
 try simp only[Act.put,List.setIfInBounds_toArray,List.set_cons_zero,List.set_cons_succ]
 refine wpAnyH_take (i:=7) (v:=?_) A7 kR kR kR A8 (Or.inl ⟨rF,?_⟩) A9 ?_
 rotate_left 1
 ·(intro wS hSw;(try dsimp only at hSw);go_simp;try(with_reducible rfl))
 try simp only[Act.put,List.setIfInBounds_toArray,List.set_cons_zero,List.set_cons_succ]
 refine wpAnyH_take (i:=8) (v:=?_) A7 kR kR kR A8 (Or.inl ⟨rF,?_⟩) A9 ?_
 rotate_left 1
 ·(intro wS hSw;(try dsimp only at hSw);go_simp;try(with_reducible rfl))
 try simp only[Act.put,List.setIfInBounds_toArray,List.set_cons_zero,List.set_cons_succ]
 refine wpAnyH_take (i:=9) (v:=?_) A7 kR kR kR A8 (Or.inl ⟨rF,?_⟩) A9 ?_
 rotate_left 1
 ·(intro wS hSw;(try dsimp only at hSw);go_simp;try(with_reducible rfl))
 try simp only[Act.put,List.setIfInBounds_toArray,List.set_cons_zero,List.set_cons_succ]
 refine wpAnyH_take (i:=10) (v:=?_) A7 kR kR kR A8 (Or.inl ⟨rF,?_⟩) A9 ?_
 rotate_left 1
 ·(intro wS hSw;(try dsimp only at hSw);go_simp;try(with_reducible rfl))
 try simp only[Act.put,List.setIfInBounds_toArray,List.set_cons_zero,List.set_cons_succ]
 refine wpAnyH_take (i:=11) (v:=?_) A7 kR kR kR A8 (Or.inl ⟨rF,?_⟩) A9 ?_
 rotate_left 1
 ·(intro wS hSw;(try dsimp only at hSw);go_simp;try(with_reducible rfl))
 try simp only[Act.put,List.setIfInBounds_toArray,List.set_cons_zero,List.set_cons_succ]
 refine wpAnyH_done kR ?_ _;go_wp2;exact⟨rfl,rfl,HB.out⟩
theorem GL(E RB:Nat)(s:ByteArray)(A n:Nat)(w:World)(h:Bq E RB s A w)(hs:s.size<=140737488355328)(hc:A+n<=s.size)(hE:E<=w.heap.size):
 Calls prog 83 #[.pointer (some ⟨RB,0,none⟩),.int .i64 (n:Int)] w fun e w'=>e=.returned (.string (s.extract A (A+n)))/\Below E w w'/\Bq E RB s (A+n) w'/\AZ RB w w':=by
 have c0:=h.c0;have c1:=h.c1;obtain⟨N,hN⟩:=gA (s.size)
 have wS:IntKind.i64.wrap ((N:Int)-(A:Int))=((N-A:Nat):Int):=by rw[IntKind.wrap_i64];omega
 have q1:¬ ((N-A:Nat):Int)<(n:Int):=oM;have wA:IntKind.i64.wrap ((A:Int)+(n:Int))=((A+n:Nat):Int):=by rw[IntKind.wrap_i64];omega
 have hd:Below w.heap.size w w.drew:=(Below.refl _ _).drew;have HM:Hid (Bq E RB s A w.drew):=h.below hd;obtain⟨P,hP⟩:=gA (A+n)
 have wB:IntKind.i64.wrap ((P:Int)-(n:Int))=(A:Int):=by rw[IntKind.wrap_i64];omega
 have i1:(0:Int)<=(A:Int):=oM;have i2:(A:Int)<=(P:Int):=oM;have i3:(P:Int)<=(N:Int):=oM;have i4:(0:Int)<=(P:Int):=oM;have i5:A<=P:=oM;have i6:P<=N:=oM;rw[hP]at wA |-;have d1:=HM.c1;have fz:w.drew.frozen? ⟨RB,1,none⟩=false:=HM.b.frozen 1;obtain⟨W,hW⟩:=gA (w.drew.setCell ⟨RB,1,none⟩ (.int .i64 (P:Int)))
 have hm2:Bq E RB s P W:=by rw[<-hW];exact HM.set P
 have ho2:AZ RB w W:=by rw[<-hW];exact(AZ.of hd).trans (AZ.set _ _ _ _)
 have hb2:Below E w W:=by rw[<-hW];exact(hd.mono hE).setCell h.ge _
 have x0:=hm2.c0;have x1:=hm2.c1;have hd2:Below W.heap.size W W.drew:=(Below.refl _ _).drew;have HR:Hid (Below E w W.drew/\Bq E RB s P W.drew/\AZ RB w W.drew):=⟨hb2.drew,hm2.below hd2,ho2.trans (AZ.of hd2)⟩
 have HW:=A6 hW;clear h hd hd2 HM hm2 ho2 hb2 hW hP;go_enter func83,ntmps83;go_upto_region 1 with fail;refine rG (fun v=>v.cell? ⟨RB,0,none⟩=some (.string s)/\v.cell? ⟨RB,1,none⟩=some (.int .i64 (A:Int))) fun hJ=>?_;refine wpAnyH_take (i:=0) (v:=?_) A7 kR kR kR A8 (Or.inl ⟨rF,?_⟩) A9 ?_
 rotate_left 1
 ·(intro wS hSw;(try dsimp only at hSw);go_simp;try(with_reducible rfl))
 try simp only[Act.put,List.setIfInBounds_toArray,List.set_cons_zero,List.set_cons_succ]
 refine wpAnyH_take (i:=1) (v:=?_) A7 kR kR kR A8 (Or.inl ⟨rF,?_⟩) A9 ?_
 rotate_left 1
 ·(intro wS hSw;(try dsimp only at hSw);go_simp;try(with_reducible rfl))
 try simp only[Act.put,List.setIfInBounds_toArray,List.set_cons_zero,List.set_cons_succ]
 refine wpAnyH_take (i:=2) (v:=?_) A7 kR kR kR A8 (Or.inl ⟨rF,?_⟩) A9 ?_
 rotate_left 1
 ·(intro wS hSw;(try dsimp only at hSw);go_simp;try(with_reducible rfl))
 try simp only[Act.put,List.setIfInBounds_toArray,List.set_cons_zero,List.set_cons_succ]
 refine wpAnyH_take (i:=3) (v:=?_) A7 kR kR kR A8 (Or.inl ⟨rF,?_⟩) A9 ?_
 rotate_left 1
 ·(intro wS hSw;(try dsimp only at hSw);go_simp;try(with_reducible rfl))
 try simp only[Act.put,List.setIfInBounds_toArray,List.set_cons_zero,List.set_cons_succ]
 refine wpAnyH_take (i:=4) (v:=?_) A7 kR kR kR A8 (Or.inl ⟨rF,?_⟩) A9 ?_
 rotate_left 1
 ·(intro wS hSw;(try dsimp only at hSw);go_simp;try(with_reducible rfl))
 try simp only[Act.put,List.setIfInBounds_toArray,List.set_cons_zero,List.set_cons_succ]
 refine wpAnyH_take (i:=5) (v:=?_) A7 kR kR kR A8 (Or.inl ⟨rF,?_⟩) A9 ?_
 rotate_left 1
 ·(intro wS hSw;(try dsimp only at hSw);go_simp;try(with_reducible rfl))
 try simp only[Act.put,List.setIfInBounds_toArray,List.set_cons_zero,List.set_cons_succ]
 refine wpAnyH_take (i:=6) (v:=?_) A7 kR kR kR A8 (Or.inl ⟨rF,?_⟩) A9 ?_
 rotate_left 1
 ·(intro wS hSw;(try dsimp only at hSw);go_simp;try(with_reducible rfl))
 try simp only[Act.put,List.setIfInBounds_toArray,List.set_cons_zero,List.set_cons_succ]
 refine wpAnyH_take (i:=7) (v:=?_) A7 kR kR kR A8 (Or.inl ⟨rF,?_⟩) A9 ?_
 rotate_left 1
 ·(intro wS hSw;(try dsimp only at hSw);go_simp;try(with_reducible rfl))
 try simp only[Act.put,List.setIfInBounds_toArray,List.set_cons_zero,List.set_cons_succ]
 refine wpAnyH_take (i:=8) (v:=?_) A7 kR kR kR A8 (Or.inl ⟨rF,?_⟩) A9 ?_
 rotate_left 1
 ·(intro wS hSw;(try dsimp only at hSw);go_simp;try(with_reducible rfl))
 try simp only[Act.put,List.setIfInBounds_toArray,List.set_cons_zero,List.set_cons_succ]
 refine wpAnyH_take (i:=9) (v:=?_) A7 kR kR kR A8 (Or.inl ⟨rF,?_⟩) A9 ?_
 rotate_left 1
 ·(intro wS hSw;(try dsimp only at hSw);go_simp;try(with_reducible rfl))
 try simp only[Act.put,List.setIfInBounds_toArray,List.set_cons_zero,List.set_cons_succ]
 refine wpAnyH_take (i:=10) (v:=?_) A7 kR kR kR A8 (Or.inl ⟨rF,?_⟩) A9 ?_
 rotate_left 1
 ·(intro wS hSw;(try dsimp only at hSw);go_simp;try(with_reducible rfl))
 try simp only[Act.put,List.setIfInBounds_toArray,List.set_cons_zero,List.set_cons_succ]
 refine wpAnyH_take (i:=11) (v:=?_) A7 kR kR kR A8 (Or.inl ⟨rF,?_⟩) A9 ?_
 rotate_left 1
 ·(intro wS hSw;(try dsimp only at hSw);go_simp;try(with_reducible rfl))
 try simp only[Act.put,List.setIfInBounds_toArray,List.set_cons_zero,List.set_cons_succ]
 refine wpAnyH_done kR ?_ _;go_upto_region 4 with fail;rw[<-World.setCell_drew,HW.out];clear c0 c1 d1 fz HW;refine rG (fun v=>v.cell? ⟨RB,0,none⟩=some (.string s)/\v.cell? ⟨RB,1,none⟩=some (.int .i64 (P:Int))) fun hJ=>?_;refine wpAnyH_take (i:=0) (v:=?_) A7 kR kR kR A8 (Or.inl ⟨rF,?_⟩) A9 ?_
 rotate_left 1
 ·(intro wS hSw;(try dsimp only at hSw);go_simp;try(with_reducible rfl))
 try simp only[Act.put,List.setIfInBounds_toArray,List.set_cons_zero,List.set_cons_succ]
 refine wpAnyH_take (i:=1) (v:=?_) A7 kR kR kR A8 (Or.inl ⟨rF,?_⟩) A9 ?_
 rotate_left 1
 ·(intro wS hSw;(try dsimp only at hSw);go_simp;try(with_reducible rfl))
 try simp only[Act.put,List.setIfInBounds_toArray,List.set_cons_zero,List.set_cons_succ]
 refine wpAnyH_take (i:=2) (v:=?_) A7 kR kR kR A8 (Or.inl ⟨rF,?_⟩) A9 ?_
 rotate_left 1
 ·(intro wS hSw;(try dsimp only at hSw);go_simp;try(with_reducible rfl))
 try simp only[Act.put,List.setIfInBounds_toArray,List.set_cons_zero,List.set_cons_succ]
 refine wpAnyH_take (i:=3) (v:=?_) A7 kR kR kR A8 (Or.inl ⟨rF,?_⟩) A9 ?_
 rotate_left 1
 ·(intro wS hSw;(try dsimp only at hSw);go_simp;try(with_reducible rfl))
 try simp only[Act.put,List.setIfInBounds_toArray,List.set_cons_zero,List.set_cons_succ]
 refine wpAnyH_take (i:=4) (v:=?_) A7 kR kR kR A8 (Or.inl ⟨rF,?_⟩) A9 ?_
 rotate_left 1
 ·(intro wS hSw;(try dsimp only at hSw);go_simp;try(with_reducible rfl))
 try simp only[Act.put,List.setIfInBounds_toArray,List.set_cons_zero,List.set_cons_succ]
 refine wpAnyH_take (i:=5) (v:=?_) A7 kR kR kR A8 (Or.inl ⟨rF,?_⟩) A9 ?_
 rotate_left 1
 ·(intro wS hSw;(try dsimp only at hSw);go_simp;try(with_reducible rfl))
 try simp only[Act.put,List.setIfInBounds_toArray,List.set_cons_zero,List.set_cons_succ]
 refine wpAnyH_take (i:=6) (v:=?_) A7 kR kR kR A8 (Or.inl ⟨rF,?_⟩) A9 ?_
 rotate_left 1
 ·(intro wS hSw;(try dsimp only at hSw);go_simp;try(with_reducible rfl))
 try simp only[Act.put,List.setIfInBounds_toArray,List.set_cons_zero,List.set_cons_succ]
 refine wpAnyH_take (i:=7) (v:=?_) A7 kR kR kR A8 (Or.inl ⟨rF,?_⟩) A9 ?_
 rotate_left 1
 ·(intro wS hSw;(try dsimp only at hSw);go_simp;try(with_reducible rfl))
 try simp only[Act.put,List.setIfInBounds_toArray,List.set_cons_zero,List.set_cons_succ]
 refine wpAnyH_take (i:=8) (v:=?_) A7 kR kR kR A8 (Or.inl ⟨rF,?_⟩) A9 ?_
 rotate_left 1
 ·(intro wS hSw;(try dsimp only at hSw);go_simp;try(with_reducible rfl))
 try simp only[Act.put,List.setIfInBounds_toArray,List.set_cons_zero,List.set_cons_succ]
 refine wpAnyH_take (i:=9) (v:=?_) A7 kR kR kR A8 (Or.inl ⟨rF,?_⟩) A9 ?_
 rotate_left 1
 ·(intro wS hSw;(try dsimp only at hSw);go_simp;try(with_reducible rfl))
 try simp only[Act.put,List.setIfInBounds_toArray,List.set_cons_zero,List.set_cons_succ]
 refine wpAnyH_take (i:=10) (v:=?_) A7 kR kR kR A8 (Or.inl ⟨rF,?_⟩) A9 ?_
 rotate_left 1
 ·(intro wS hSw;(try dsimp only at hSw);go_simp;try(with_reducible rfl))
 try simp only[Act.put,List.setIfInBounds_toArray,List.set_cons_zero,List.set_cons_succ]
 refine wpAnyH_take (i:=11) (v:=?_) A7 kR kR kR A8 (Or.inl ⟨rF,?_⟩) A9 ?_
 rotate_left 1
 ·(intro wS hSw;(try dsimp only at hSw);go_simp;try(with_reducible rfl))
 try simp only[Act.put,List.setIfInBounds_toArray,List.set_cons_zero,List.set_cons_succ]
 refine wpAnyH_take (i:=12) (v:=?_) A7 kR kR kR A8 (Or.inl ⟨rF,?_⟩) A9 ?_
 rotate_left 1
 ·(intro wS hSw;(try dsimp only at hSw);go_simp;try(with_reducible rfl))
 try simp only[Act.put,List.setIfInBounds_toArray,List.set_cons_zero,List.set_cons_succ]
 refine wpAnyH_take (i:=13) (v:=?_) A7 kR kR kR A8 (Or.inl ⟨rF,?_⟩) A9 ?_
 rotate_left 1
 ·(intro wS hSw;(try dsimp only at hSw);go_simp;try(with_reducible rfl))
 try simp only[Act.put,List.setIfInBounds_toArray,List.set_cons_zero,List.set_cons_succ]
 refine wpAnyH_take (i:=14) (v:=?_) A7 kR kR kR A8 (Or.inl ⟨rF,?_⟩) A9 ?_
 rotate_left 1
 ·(intro wS hSw;(try dsimp only at hSw);go_simp;try(with_reducible rfl))
 try simp only[Act.put,List.setIfInBounds_toArray,List.set_cons_zero,List.set_cons_succ]
 refine wpAnyH_take (i:=15) (v:=?_) A7 kR kR kR A8 (Or.inl ⟨rF,?_⟩) A9 ?_
 rotate_left 1
 ·(intro wS hSw;(try dsimp only at hSw);go_simp;try(with_reducible rfl))
 try simp only[Act.put,List.setIfInBounds_toArray,List.set_cons_zero,List.set_cons_succ]
 refine wpAnyH_done kR ?_ _;go_wp2;refine bodyPost_ret (by simp[results,results83,go_sem, *];try rfl) rfl ?_;exact⟨rfl,HR.out⟩
def AV{α:Type}(E RB:Nat)(s:ByteArray)(w:World)(val:α->Value)(q:Except (Int×Nat) (α×List Nat×Nat))(e:Ending)(w':World):Prop:=
 match q with
 | .error (er,at_)=>e=AY er at_/\Below E w w'/\AZ RB w w'
 | .ok (x,l',A')=>e=.returned (val x)/\Below E w w'/\AZ RB w w'/\Bq E RB s A' w'/\A'<=s.size/\l'=(Aa s).drop A'
theorem G4{s:ByteArray}{A:Nat}(h:s.size<=A):(Aa s).drop A=[]:=List.drop_eq_nil_of_le (by rw[AD];exact h)
theorem H2{s:ByteArray}{A:Nat}(h:A<s.size):(Aa s).drop A=s[A].toNat::(Aa s).drop (A+1):=by
 have h1:A<(Aa s).length:=by rw[AD];exact h
 rw[List.drop_eq_getElem_cons h1];congr 1;simp[Aa];rfl
theorem NA{s:ByteArray}{A:Nat}(h:A<s.size):∃t:ByteArray,s.extract A (A+1)=t/\∃ (ht:t.size=1),t[0].toNat=s[A].toNat:=by
 refine⟨_,rfl,?_,?_⟩
 .simp;omega
 .simp[ByteArray.getElem_extract]
theorem DM(E RB:Nat)(s:ByteArray)(A lo hi:Nat)(w:World)(h:Bq E RB s A w)(hA:A<=s.size)(hs:s.size<=140737488355328)(hE:E<=w.heap.size):
 Calls prog 85 #[.pointer (some ⟨RB,0,none⟩),.int .i64 (lo:Int),.int .i64 (hi:Int)] w (AV E RB s w (fun(b:Nat)=>.int .i64 (b:Int)) (Bl lo hi ((Aa s).drop A) A)):=by
 have c1:=h.c1;by_cases hlt:A<s.size
 .rw[H2 hlt];obtain⟨t,hte,ht,hb⟩:=NA hlt;have KT:Calls prog 83 #[.pointer (some ⟨RB,0,none⟩),.int .i64 1] w fun e w'=>e=.returned (.string (s.extract A (A+1)))/\Below E w w'/\Bq E RB s (A+1) w'/\AZ RB w w':=GL E RB s A 1 w h hs oM hE;rw[hte]at KT;have KT':=A6 KT;obtain⟨B,hB⟩:=gA (s[A].toNat)
  rw[hB]at hb |-;have hB2:B<256:=by rw[<-hB];exact s[A].toNat_lt
  have wB:IntKind.i64.wrap (B:Int)=(B:Int):=by rw[IntKind.wrap_i64];omega
  have HA1:Hid (A+1<=s.size):=by show A+1<=s.size;omega
  by_cases q:B<lo\/hi<B
  .have HP:Hid (Bl lo hi (B::(Aa s).drop (A+1)) A=.error (243,A)):=by show(if B<lo\/hi<B then _ else _)=_;rw[if_pos q]
   rw[HP.out];unfold AV AY;simp only;clear hB hte h KT HP hlt;by_cases q1:B<lo
   .have e1:(B:Int)<(lo:Int):=oM;exact Rl
   .have e1:¬ (B:Int)<(lo:Int):=oM;have e2:(hi:Int)<(B:Int):=oM;exact Rl
  .have HP:Hid (Bl lo hi (B::(Aa s).drop (A+1)) A=.ok (B,(Aa s).drop (A+1),A+1)):=by show(if B<lo\/hi<B then _ else _)=_;rw[if_neg q]
   rw[HP.out];unfold AV;simp only;have e1:¬ (B:Int)<(lo:Int):=oM;have e2:¬ (hi:Int)<(B:Int):=oM;clear hB hte h KT HP hlt q;go_enter func85,ntmps85;go_wp2_with(go_at_call 83;(with_reducible refine KT'.out.mono ?_);rintro e9 w4 ⟨rfl,hb4,hm4,ho4⟩;have HB4:=A6 hb4;have HM4:=A6 hm4;have HO4:=A6 ho4;clear hb4 hm4 ho4);refine bodyPost_ret (by simp[results,results85,go_sem, *];try rfl) rfl ?_;exact⟨rfl,HB4.out,HO4.out,HM4.out,HA1.out,trivial⟩
 .rw[G4 oM];have KT:Hid (Calls prog 83 #[.pointer (some ⟨RB,0,none⟩),.int .i64 1] w fun e w'=>e=AY 242 A/\Below w.heap.size w w'):=FK E RB s A 1 w h hA hs oM oM;have HEW:=A6 hE;unfold Bl AV AY;unfold AY at KT;simp only;clear h hlt;go_enter func85,ntmps85;exact Rv
section
open Go.Lib (strCells run_append_own_string run_append_room_string run_append_grow_string)
theorem HY{P:Program}{w w':World}{ops:Array Oper}{rest:List Oper}{o:Oper}{a:Act}{Q:Exit->Act->World->Prop}(hgd:o.guard=none)(s x:Operand)(t u:TypeId)
 (ho:o.op=.call {callee:=.builtin .append,args:=#[s,x],argTypes:=#[t,u]}) (v v2 v':Value) (hs:a.eval s=v) (hx:a.eval x=v2) (hr:(Builtin.append_ #[t,u] o.type #[v,v2]).run P w=.ok v' w')
 (h:wpList P ops Q rest (a.put o.dst v') w'):wpList P ops Q (o::rest) a w:=
 wpList_plain hgd fun _ hK=>by
  exact Ry
theorem II{P:Program}{w w':World}{o:Oper}{a:Act}{K:Act->World->Prop}{Q:Exit->Act->World->Prop}(s x:Operand)(t u:TypeId)
 (ho:o.op=.call {callee:=.builtin .append,args:=#[s,x],argTypes:=#[t,u]}) (v v2 v':Value) (hs:a.eval s=v) (hx:a.eval x=v2) (hr:(Builtin.append_ #[t,u] o.type #[v,v2]).run P w=.ok v' w')
 (h:K (a.put o.dst v') w') (y':Bool) (hy:y'=true):if y'=true then Oper.wp P o a w K Q else K (a.put o.dst undef) w:=by
 rw[if_pos hy];exact QD
theorem On(s:ByteArray):strCells s=GM (Aa s):=by unfold strCells GM Aa;rw[List.map_map];rfl
theorem M5{B:Nat}{V:World}{v:Value}{n:Nat}{xs:List Value}(h:V.ownsRow B 5 1 v n xs)(hB:B<=V.heap.size)(s:ByteArray)(hn:n+s.size<=200000000)(ty:TypeId):
 ∃v' w',(Builtin.append_ #[49,9] ty #[v,.string s]).run prog V=.ok v' w'/\w'.ownsRow B 5 1 v' (n+s.size) (xs++strCells s)/\V.grownBy w' v.ownBlock/\(v'.ownBlock=none\/v'.ownBlock=v.ownBlock\/v'.ownBlock=some V.heap.size):=by
 obtain⟨i0,hi0,hz0,hz1,hz2⟩:=info_parts Gw;have ht:prog.underlying 49=some (.slice 5):=underlying49;have hu:prog.underlying 9=some .string:=underlying9;have hmx:n+s.size<=maxLen:=mL;obtain⟨v',w',hr,ho,hg,hnn⟩:=run_append_own_string (P:=prog) V B _ _ ty _ i0 ht hu hi0 hz0 hz1 hz2 v n xs h s hmx oM hB;refine⟨v',w',hr,ho,hg,?_⟩;rcases h.2 with⟨rfl,rfl⟩|⟨g,cap,cur,rfl,hbg,hgc,hnc,hcm,hcs,htake⟩
 .by_cases hm:s.size=0
  .left;rw[hnn.2 ⟨rfl,hm⟩];rfl
  .have h2:=run_append_nil_string (P:=prog) V _ _ ty _ i0 (.int .u8 0) ht hu hi0 hz0 s oM oM (by rw[hz2];omega);rw[hr]at h2;injection h2 with h3 h4;right;right;rw[h3];rfl
 .by_cases hroom:n+s.size<=cap
  .have h2:=run_append_room_string (P:=prog) V _ _ ty _ i0 ht hu hi0 hz1 g n cap cur hgc s hroom oM;rw[hr]at h2;injection h2 with h3 h4;right;left;rw[h3];rfl
  .have holds:∀j u,xs[j]? =some u->V.cell? ((⟨g,0,none⟩:Addr).add j)=some u:=h.cells (g:=g) rfl;have h2:=run_append_grow_string (P:=prog) V _ _ ty _ i0 (.int .u8 0) ht hu hi0 hz0 ⟨g,0,none⟩ n cap xs (by rw[hz1];exact h.1) holds s oM oM (by rw[hz2];exact growslice_fits oM oM);rw[hr]at h2;injection h2 with h3 h4;right;right;rw[h3];rfl
theorem Bc.appS{E WB:Nat}{l:List Nat}{v:Value}{w:World}(h:Bc E WB l v w)(s:ByteArray)(hl:l.length+s.size<=100000000):
 ∃p q p' q' n' w',v=.slice p l.length q/\(Builtin.append_ #[49,9] 49 #[.slice p l.length q,.string s]).run prog w=.ok (.slice p' n' q') w'/\w'.cell? ⟨WB,0,none⟩=some (.slice p l.length q)/\w'.frozen? ⟨WB,0,none⟩=false/\Below E w (w'.setCell ⟨WB,0,none⟩ (.slice p' n' q'))/\Bc E WB (l++Aa s) (.slice p' n' q') (w'.setCell ⟨WB,0,none⟩ (.slice p' n' q'))/\Ba WB v w (.slice p' n' q') (w'.setCell ⟨WB,0,none⟩ (.slice p' n' q'))/\w.grownBy w' v.ownBlock:=by
 obtain⟨p,q,rfl⟩:=At h.o;obtain⟨v',w',h1,h3,h4,h5⟩:=M5 h.o h.le s oM 49;obtain⟨p',q',rfl⟩:=At h3;have hb':=h.b.of_block (h4.block _ h.b.lt (fun e=>Fv h.o h.b dE e.symm));have h2:Below E w w':=(Below.refl E w).grown h4 h.le (fun q e=>(h.o.lt q e).1);refine⟨p,q,p',q',_,w',rfl,h1,hb'.cell (i:=0) dE,hb'.frozen 0,h2.setCell h.ge _,⟨(hb'.set 0 _).congr fun j hj=>?_,?_,h.ge,by simpa using gH h.le h2.size⟩,⟨by simpa using h2.size,fun k k1 k2 k3=>⟨(gE k2).trans (h4.block k k1 (Ne.symm k3)),fun e=>?_⟩⟩,h4⟩
 .have:j=0:=oM;subst this;rfl
 .rw[List.length_append,AD,show GM (l++Aa s)=GM l++GM (Aa s) by unfold GM;rw[List.map_append],<-On];exact RN
 .rcases h5 with q9|q9|q9
  .rw[q9]at e;exact absurd e sM
  .exact k3 (q9.symm.trans e)
  .rw[q9]at e;have:=Option.some.inj e;omega
theorem Ed{p:Be}(h:Eg p):(AS p).length<=90:=by
 obtain⟨h1,h2,h3,h4,h5⟩:=h;have a1:=Al (n:=p.len.toNat) oM;have a2:=Al (n:=p.name.size) oM;unfold AS EW Bt;rw[List.length_append,List.length_append,List.length_append,AD,if_pos rfl,List.length_singleton];omega
theorem Ni(E WB:Nat)(l:List Nat)(v:Value)(w:World)(h:Bc E WB l v w)(x:Be)(hs:Eg x)(hl:l.length+100<=100000000):
 Calls prog 41 #[.pointer (some ⟨WB,0,none⟩),.agg #[.string x.name,.int .i64 x.kind,.int .i64 x.len]] w fun e w'=>e=.returned (.tuple #[])/\Below E w w'/\∃v',Bc E WB (l++AS x) v' w'/\Ba WB v w v' w':=by
 obtain⟨nm,kd,ln⟩:=x;obtain⟨s1,s2,s3,s4,s5⟩:=hs;simp only at s1 s2 s3 s4 s5 |-;obtain⟨K,hK⟩:∃B:Nat,kd=(B:Int):=⟨kd.toNat,oM⟩
 obtain⟨I,hI⟩:∃I:Nat,ln=(I:Int):=⟨ln.toNat,oM⟩
 subst hK hI;have hi9:=Al (n:=I) oM;have hn9:=Al (n:=nm.size) oM;have hbn:=AD nm;have HET:Hid (AS ⟨nm,(K:Int),(I:Int)⟩=[K]++((Ak nm.size++Aa nm)++Ak I)):=by
  show AS ⟨nm,(K:Int),(I:Int)⟩=_;unfold AS EW Bt;simp only[Int.toNat_natCast,if_true]
 obtain⟨V,hV⟩:=gA (w.alloc (.cells #[.string nm,.int .i64 (K:Int),.int .i64 (I:Int)] 59))
 have hb0:Below w.heap.size w V:=by rw[<-hV];exact A5 _ _
 have hs0:V.heap.size=w.heap.size+1:=by rw[<-hV];simp
 obtain⟨X,hX⟩:=gA (w.heap.size)
 have x0:V.cell? ⟨X,0,none⟩=some (.string nm):=by rw[<-hV,<-hX];simp[go_sem]
 have x1:V.cell? ⟨X,1,none⟩=some (.int .i64 (K:Int)):=by rw[<-hV,<-hX];simp[go_sem]
 have x2:V.cell? ⟨X,2,none⟩=some (.int .i64 (I:Int)):=by rw[<-hV,<-hX];simp[go_sem]
 have HXC:Hid (∀u:World,u.heap[X]? =V.heap[X]? ->u.cell? ⟨X,0,none⟩=some (.string nm)/\u.cell? ⟨X,1,none⟩=some (.int .i64 (K:Int))/\u.cell? ⟨X,2,none⟩=some (.int .i64 (I:Int))):=fun u hu=>⟨(gC hu (a:=⟨X,0,none⟩)).trans x0,(gC hu (a:=⟨X,1,none⟩)).trans x1,(gC hu (a:=⟨X,2,none⟩)).trans x2⟩
 have h0:=h.below hb0;have HXN:Hid (X<V.heap.size/\X≠WB/\v.ownBlock≠some X):=⟨oM,by have:=h.b.lt;omega,fun e=>by have:=(h.o.lt _ e).2;omega⟩
 have KS:=A6 (Cs E WB l v V h0 oM K oM);have KN:=A6 (fun(m:List Nat) (v:Value) (u:World) (a:Bc E WB m v u) (n:Nat) (hn:n<9223372036854775808) (b:m.length+(Ak n).length<=100000000)=>Bm E WB m v u a n hn b);have HBE:Hid (Below E w V):=hb0.mono h.le;have HOV:Hid (∀v' w',Ba WB v V v' w'->Ba WB v w v' w'):=fun v' w' q=>Ba.below h hb0 q;have hl1:(l++[K]).length+(Ak nm.size).length<=100000000:=by rw[List.length_append,List.length_singleton];omega
 have hl2:((l++[K])++Ak nm.size).length+nm.size<=100000000:=by rw[List.length_append,List.length_append,List.length_singleton];omega
 have hl3:(((l++[K])++Ak nm.size)++Aa nm).length+(Ak I).length<=100000000:=by rw[List.length_append,List.length_append,List.length_append,List.length_singleton];omega
 have hm1:nm.size<9223372036854775808:=oM;have hm2:I<9223372036854775808:=oM;have HT:Hid (l++AS ⟨nm,(K:Int),(I:Int)⟩=((((l++[K])++Ak nm.size)++Aa nm)++Ak I)):=by
  show l++AS _=_;rw[HET.out];simp
 clear h h0 hb0 hs0 s1 s2 s3 s4 s5 hi9 hn9 hbn HET hl;go_enter func41,ntmps41;go_upto_region 1 with fail;try rw[hV]
 try rw[hX]
 clear hV hX;go_upto_region 2 with(go_at_call 80;(with_reducible refine KS.out.mono ?_);rintro e9 w4 ⟨rfl,hb4,v4,hm4,ho4⟩;have HB4:=A6 hb4;have HM4:=A6 hm4;have HO4:=A6 ho4;clear hb4 hm4 ho4)
 obtain⟨hX4,hv4⟩:=HO4.out.2 X HXN.out.1 HXN.out.2.1 HXN.out.2.2;clear x0 x1 x2;obtain⟨x0,x1,x2⟩:=HXC.out w4 hX4;have KN4:=A6 (KN.out _ _ _ HM4.out nm.size hm1 hl1);go_upto_region 3 with(go_at_call 79;(with_reducible refine KN4.out.mono ?_);rintro e9 w5 ⟨rfl,hb5,v5,hm5,ho5⟩;have HB5:=A6 hb5;have HM5:=A6 hm5;have HO5:=A6 ho5;clear hb5 hm5 ho5)
 obtain⟨hX5,hv5⟩:=HO5.2 X (Nat.lt_of_lt_of_le HXN.1 HO4.1) HXN.2.1 hv4;clear x0 x1 x2;obtain⟨x0,x1,x2⟩:=HXC.out w5 (hX5.trans hX4);have hbd:Below w5.heap.size w5 w5.drew:=(Below.refl _ _).drew;have HM5D:=A6 (HM5.below hbd);obtain⟨p,q,p',q',n',w6,hv6,hrun,c6,f6,hb6,hm6,ho6,hg6⟩:=HM5D.appS nm hl2;subst hv6;have b0:w5.cell? ⟨WB,0,none⟩=some (.slice p ((l++[K])++Ak nm.size).length q):=HM5.b.cell (i:=0) dE;obtain⟨L5,hL5⟩:∃n,((l++[K])++Ak nm.size).length=n:=⟨_,rfl⟩
 rw[hL5]at b0 c6 hrun;have HRUN:=A6 hrun;have HXL:Hid (X<w5.heap.size):=Nat.lt_of_lt_of_le (Nat.lt_of_lt_of_le HXN.1 HO4.1) HO5.1;have h6X:w6.heap[X]? =V.heap[X]? :=(hg6.block X (by simpa using HXL.out) (Ne.symm hv5)).trans ((hbd.block X HXL.out).trans (hX5.trans hX4));have HB6:Hid (Below E w5 (w6.setCell ⟨WB,0,none⟩ (.slice p' n' q'))):=(hbd.mono HM5.le).trans hb6;have HM6:=A6 hm6;have HO6:=A6 (Ba.below HM5.out hbd ho6);obtain⟨y0,y1,y2⟩:=HXC.out w6 h6X;have nXW:¬X=WB:=HXN.2.1;have nWX:¬WB=X:=fun r=>nXW r.symm;have hX6:(w6.setCell ⟨WB,0,none⟩ (.slice p' n' q')).heap[X]? =V.heap[X]? :=(gE nXW).trans h6X;have KN6:=A6 (KN.out _ _ _ HM6.out I hm2 hl3);obtain⟨W6,hW6⟩:∃W,w6.setCell ⟨WB,0,none⟩ (.slice p' n' q')=W:=⟨_,rfl⟩
 have HW6:=A6 hW6;rw[hW6]at HB6 HM6 HO6 hX6 KN6;have HX6:=A6 hX6;clear hrun hbd hm6 ho6 hb6 hg6 h6X hX4 hX5 hv4 hv5 hX6 hW6 hL5 HM5D;go_cut [] (fun wx=>wx=W6)
 case first=>
  refine rG (fun v=>v.cell? ⟨X,0,none⟩=some (.string nm)) fun hJ=>?_;refine wpAnyH_take (i:=0) (v:=?_) A7 kR kR kR A8 (Or.inl ⟨rF,?_⟩) A9 ?_
  rotate_left 1
  ·(intro wS hSw;(try dsimp only at hSw);go_simp;try(with_reducible rfl))
  try simp only[Act.put,List.setIfInBounds_toArray,List.set_cons_zero,List.set_cons_succ]
  refine wpAnyH_take (i:=1) (v:=?_) A7 kR kR kR A8 (Or.inl ⟨rF,?_⟩) A9 ?_
  rotate_left 1
  ·(intro wS hSw;(try dsimp only at hSw);go_simp;try(with_reducible rfl))
  try simp only[Act.put,List.setIfInBounds_toArray,List.set_cons_zero,List.set_cons_succ]
  refine wpAnyH_take (i:=2) (v:=?_) A7 kR kR kR A8 (Or.inl ⟨rF,?_⟩) A9 ?_
  rotate_left 1
  ·(intro wS hSw;(try dsimp only at hSw);go_simp;try(with_reducible rfl))
  try simp only[Act.put,List.setIfInBounds_toArray,List.set_cons_zero,List.set_cons_succ]
  refine wpAnyH_take (i:=3) (v:=?_) A7 kR kR kR A8 (Or.inl ⟨rF,?_⟩) A9 ?_
  rotate_left 1
  ·(intro wS hSw;(try dsimp only at hSw);go_simp;try(with_reducible rfl))
  try simp only[Act.put,List.setIfInBounds_toArray,List.set_cons_zero,List.set_cons_succ]
  refine wpAnyH_take (i:=5) (v:=?_) A7 kR kR kR A8 (Or.inl ⟨rF,?_⟩) A9 ?_
  rotate_left 1
  ·(intro wS hSw;(try dsimp only at hSw);go_simp;try(with_reducible rfl))
  try simp only[Act.put,List.setIfInBounds_toArray,List.set_cons_zero,List.set_cons_succ]
  clear hJ;refine wpAnyH_ready (rs:=[4,6]) kR sM ?_;refine Gk 4 (fun K hK=>?_) ?_
  .go_simp;refine AX hK fun hJ=>?_;clear hK K;clear hJ;refine AR 6 fun K hK=>?_;exact R8
  refine Gk 6 (fun K hK=>?_) AllReadyH.nil;go_simp;refine AX hK fun hJ=>?_;clear hK K;clear hJ;refine AR 4 fun K hK=>?_;exact R8
 case rest=>
  subst hcut;clear x0 x1 x2 y0 y1 y2 b0 c6 f6;obtain⟨x0,x1,x2⟩:=HXC.out _ HX6.out;go_wp2_with(go_at_call 79;(with_reducible refine KN6.out.mono ?_);rintro e9 w7 ⟨rfl,hb7,v7,hm7,ho7⟩;have HB7:=A6 hb7;have HM7:=A6 hm7;have HO7:=A6 ho7;clear hb7 hm7 ho7);first|go_end0|refine bodyPost_ret (results_none rfl _ _ _) rfl ?_
  refine⟨rfl,(((HBE.trans HB4.out).trans HB5.out).trans HB6.out).trans HB7.out,v7,?_,HOV.out _ _ (((HO4.trans HO5.out).trans HO6.out).trans HO7.out)⟩;rw[HT.out];exact HM7.out
end
theorem QQ{x y:Nat}(hx:x<2^63)(hy:y<2^63):bits .or .i64 (x:Int) (y:Int)=((x|||y:Nat):Int):=by
 have h:(BitVec.ofInt 64 (x:Int)|||BitVec.ofInt 64 (y:Int)).toNat=x|||y:=by
  rw[BitVec.toNat_or];simp only[BitVec.ofInt_natCast,BitVec.toNat_ofNat];rw[Nat.mod_eq_of_lt oM,Nat.mod_eq_of_lt oM]
 have h2:x|||y<2^63:=Nat.or_lt_two_pow hx hy
 show IntKind.i64.wrap (((BitVec.ofInt 64 (x:Int)|||BitVec.ofInt 64 (y:Int)).toNat:Nat):Int)=_;rw[h,IntKind.wrap_i64];omega
theorem Pc{n g k:Nat}(hn:n<128^k):n|||g*128^k=n+g*128^k:=by
 have e:(128:Nat)^k=2^(7*k):=by rw[Nat.pow_mul]
 rw[e]at hn |-;rw[Nat.or_comm,Nat.mul_comm g,<-Nat.two_pow_add_eq_or_of_lt hn,Nat.add_comm]
theorem PP{k:Nat}(h:k<=8):(128:Nat)^k*128<=2^63:=by
 rcases(show k=0\/k=1\/k=2\/k=3\/k=4\/k=5\/k=6\/k=7\/k=8 by omega)with rfl|rfl|rfl|rfl|rfl|rfl|rfl|rfl|rfl<;>decide
theorem Co(E RB:Nat)(s:ByteArray)(A:Nat)(w:World)(h:Bq E RB s A w)(hA:A<=s.size)(hs:s.size<=140737488355328)(hE:E<=w.heap.size):
 Calls prog 87 #[.pointer (some ⟨RB,0,none⟩)] w (AV E RB s w (fun(b:Nat)=>.int .i64 (b:Int)) (BJ ((Aa s).drop A) A)):=by
 have c1:=h.c1;obtain⟨N,hN⟩:=gA (s.size)
 have hd:Below w.heap.size w w.drew:=(Below.refl _ _).drew;obtain⟨V,hV⟩:=gA (w.drew)
 rw[hV]at hd;have hm:=h.below hd;have v0:=hm.c0;have v1:=hm.c1;have fz:V.frozen? ⟨RB,1,none⟩=false:=hm.b.frozen 1;have HERR:Hid (Below E w V/\AZ RB w V):=⟨hd.mono hE,AZ.of hd⟩
 have HOK:Hid (∀P:Nat,Below E w (V.setCell ⟨RB,1,none⟩ (.int .i64 (P:Int)))/\AZ RB w (V.setCell ⟨RB,1,none⟩ (.int .i64 (P:Int)))/\Bq E RB s P (V.setCell ⟨RB,1,none⟩ (.int .i64 (P:Int)))):=fun P=>⟨(hd.mono hE).setCell h.ge _,(AZ.of hd).trans (AZ.set _ _ _ _),hm.set P⟩
 clear h hm hd;go_enter func87,ntmps87;go_upto_region 2 with fail;refine rG (fun v=>v.cell? ⟨RB,1,none⟩=some (.int .i64 (A:Int))) fun hJ=>?_;refine wpAnyH_take (i:=0) (v:=?_) A7 kR kR kR A8 (Or.inl ⟨rF,?_⟩) A9 ?_
 rotate_left 1
 ·(intro wS hSw;(try dsimp only at hSw);go_simp;try(with_reducible rfl))
 try simp only[Act.put,List.setIfInBounds_toArray,List.set_cons_zero,List.set_cons_succ]
 refine wpAnyH_take (i:=1) (v:=?_) A7 kR kR kR A8 (Or.inl ⟨rF,?_⟩) A9 ?_
 rotate_left 1
 ·(intro wS hSw;(try dsimp only at hSw);go_simp;try(with_reducible rfl))
 try simp only[Act.put,List.setIfInBounds_toArray,List.set_cons_zero,List.set_cons_succ]
 refine wpAnyH_take (i:=2) (v:=?_) A7 kR kR kR A8 (Or.inl ⟨rF,?_⟩) A9 ?_
 rotate_left 1
 ·(intro wS hSw;(try dsimp only at hSw);go_simp;try(with_reducible rfl))
 try simp only[Act.put,List.setIfInBounds_toArray,List.set_cons_zero,List.set_cons_succ]
 refine wpAnyH_take (i:=3) (v:=?_) A7 kR kR kR A8 (Or.inl ⟨rF,?_⟩) A9 ?_
 rotate_left 1
 ·(intro wS hSw;(try dsimp only at hSw);go_simp;try(with_reducible rfl))
 try simp only[Act.put,List.setIfInBounds_toArray,List.set_cons_zero,List.set_cons_succ]
 refine wpAnyH_take (i:=4) (v:=?_) A7 kR kR kR A8 (Or.inl ⟨rF,?_⟩) A9 ?_
 rotate_left 1
 ·(intro wS hSw;(try dsimp only at hSw);go_simp;try(with_reducible rfl))
 try simp only[Act.put,List.setIfInBounds_toArray,List.set_cons_zero,List.set_cons_succ]
 refine wpAnyH_take (i:=5) (v:=?_) A7 kR kR kR A8 (Or.inl ⟨rF,?_⟩) A9 ?_
 rotate_left 1
 ·(intro wS hSw;(try dsimp only at hSw);go_simp;try(with_reducible rfl))
 try simp only[Act.put,List.setIfInBounds_toArray,List.set_cons_zero,List.set_cons_succ]
 refine wpAnyH_done kR ?_ _;rw[hV];clear c1 hV;go_wp2_with fail
 go_loopw [3,4,5] (fun nv sv av wx=>wx=V/\∃k n:Nat,k<=9/\A+k<=N/\nv=.int .i64 (n:Int)/\sv=.int .i64 ((7*k:Nat):Int)/\av=.int .i64 ((A+k:Nat):Int)/\Hid (n<128^k/\Ef ((Aa s).drop A) 0 0=Ef ((Aa s).drop (A+k)) k n)) (fun _ _ av _=>N-(intOf av).toNat)
 case atStart=>exact⟨rfl,0,0,oM,oM,rfl,rfl,rfl,dE,rfl⟩
 case round=>
  obtain⟨rfl,k,n,hk,hAk,rfl,rfl,rfl,HJ⟩:=hrel;obtain⟨hn,hR⟩:=HJ.out;obtain⟨P,hP⟩:=gA (A+k)
  rw[hP]at hR hAk |-;by_cases hlt:P<N
  .have hPs:P<s.size:=oM;rw[H2 hPs]at hR;obtain⟨B,hB⟩:=gA (s[P].toNat)
   rw[hB]at hR;have hB2:B<256:=by rw[<-hB];exact s[P].toNat_lt
   have i1:(0:Int)<=(P:Int):=oM;have i2:(P:Int)<(N:Int):=oM;rw[Ef]at hR;by_cases q:k=9\/(B=0/\0<k)
   .rw[if_pos q]at hR;have HP:Hid (BJ ((Aa s).drop A) A=.error (243,A)):=by show BJ _ _=_;unfold BJ;rw[hR]
    have HG:Hid (AV E RB s w (fun(b:Nat)=>.int .i64 (b:Int)) (BJ ((Aa s).drop A) A) (AY 243 A) wr):=by
     show AV _ _ _ _ _ _ _ _;rw[HP.out];exact⟨rfl,HERR.out⟩
    unfold AY at HG;by_cases q9:k=9
    .subst q9;clear q hR HJ hn HP;go_wp2;exact⟨rfl,HG.out⟩
    .obtain⟨hB0,hk0⟩:B=0/\0<k:=oM;subst hB0;have s1:((7*k:Nat):Int)≠63:=oM;have s2:(((7*k:Nat):Int)==63)=false:=sO;have s3:(0:Int)<((7*k:Nat):Int):=oM;clear q hR HJ hn HP;go_wp2;exact⟨rfl,HG.out⟩
   .rw[if_neg q]at hR;have hk8:k<=8:=oM;obtain⟨G,hG⟩:=gA (B%128)
    have hG1:G<128:=oM;have hpw:=PP hk8;obtain⟨T,hT⟩:=gA (G*128^k)
    have hT1:T<2^63:=by
     have h9:(G+1)*128^k<=128*128^k:=Nat.mul_le_mul_right _ oM;rw[Nat.add_mul,hT]at h9;have h8:0<128^k:=Nat.pow_pos dE;omega
    have hn1:n<2^63:=oM;obtain⟨M,hM⟩:=gA (n+T)
    have hor:bits .or .i64 (n:Int) (T:Int)=(M:Int):=by rw[QQ hn1 hT1,<-hT,Pc hn,hT,hM]
    have hM1:M<128^(k+1):=by
     have h9:(G+1)*128^k<=128*128^k:=Nat.mul_le_mul_right _ oM;rw[Nat.add_mul,hT]at h9;rw[Nat.pow_succ];omega
    have t1:((B:Int).tmod 128)=(G:Int):=by rw[Int.tmod_eq_emod_of_nonneg oM];omega
    have t1':((B:Int)%128)=(G:Int):=oM;have t2:IntKind.i64.wrap (G:Int)=(G:Int):=by rw[IntKind.wrap_i64];omega
    have t2':IntKind.u8.wrap (G:Int)=(G:Int):=by rw[IntKind.wrap_u8'];omega
    have s2:(((7*k:Nat):Int)==63)=false:=sO;have hsh:(G:Int)*2^(7*k)=(T:Int):=by
     rw[<-hT,show(128:Nat)^k=2^(7*k) by rw[Nat.pow_mul],Int.natCast_mul,Int.natCast_pow];rfl
    have t3:IntKind.i64.wrap (T:Int)=(T:Int):=by rw[IntKind.wrap_i64];omega
    have s4:(0:Int)<=((7*k:Nat):Int):=oM;have wP:IntKind.i64.wrap ((P:Int)+1)=((P+1:Nat):Int):=by rw[IntKind.wrap_i64];omega
    have wK:IntKind.i64.wrap (((7*k:Nat):Int)+7)=((7*(k+1):Nat):Int):=by rw[IntKind.wrap_i64];omega
    have hfree:k=0\/(0<k/\B≠0):=oM;have HFR:Hid (k=0\/(0<k/\B≠0)):=hfree;by_cases hb:B<128
    .rw[if_pos hb]at hR;have HP:Hid (BJ ((Aa s).drop A) A=.ok (M,(Aa s).drop (P+1),P+1)):=by
      show BJ _ _=_;unfold BJ;rw[hR];have e1:n+B*128^k=M:=by rw[<-hM,<-hT,<-hG,Nat.mod_eq_of_lt hb]
      simp only[e1,List.drop_drop];rw[show A+(k+1)=P+1 by omega]
     have HG:Hid (AV E RB s w (fun(b:Nat)=>.int .i64 (b:Int)) (BJ ((Aa s).drop A) A) (.returned (.int .i64 (M:Int))) (wr.setCell ⟨RB,1,none⟩ (.int .i64 ((P+1:Nat):Int)))):=by
      show AV _ _ _ _ _ _ _ _;rw[HP.out];exact⟨rfl,(HOK.out _).1,(HOK.out _).2.1,(HOK.out _).2.2,oM,rfl⟩
     have e2:(B:Int)<128:=oM;rcases hfree with k0|⟨k0,b0⟩
     .subst k0;have hTG:T=G:=by rw[<-hT];simp
      rw[hTG]at hor;clear q hR HJ hn HP hlt hM1 HFR hTG;go_wp2;refine bodyPost_ret (by simp[results,results87,go_sem, *];try rfl) rfl ?_;exact HG.out
     .have s3:(0:Int)<((7*k:Nat):Int):=oM;have b1:((B:Int)==0)=false:=sO;clear q hR HJ hn HP hlt hM1 HFR;go_wp2;refine bodyPost_ret (by simp[results,results87,go_sem, *];try rfl) rfl ?_;exact HG.out
    .rw[if_neg hb,hG,hT,hM]at hR;have hR':Ef ((Aa s).drop A) 0 0=Ef ((Aa s).drop (A+(k+1))) (k+1) M:=by rw[hR,show A+(k+1)=P+1 by omega]
     have HQ:Hid (M<128^(k+1)/\Ef ((Aa s).drop A) 0 0=Ef ((Aa s).drop (A+(k+1))) (k+1) M):=⟨hM1,hR'⟩
     have e2:¬ (B:Int)<128:=oM;have hPk:P+1=A+(k+1):=oM;rcases hfree with k0|⟨k0,b0⟩
     .subst k0;have hTG:T=G:=by rw[<-hT];simp
      rw[hTG]at hor;clear q hR hR' HJ hn hM1 HFR hTG;go_wp2;go_roundw
      case rel=>exact⟨trivial,1,M,oM,oM,rfl,by first|rfl|(go_num)|(simp),by first|(rw[<-hPk];go_num)|(simp;omega),HQ.out⟩
      case measure=>simp[intOf];omega
     .have s3:(0:Int)<((7*k:Nat):Int):=oM;have b1:((B:Int)==0)=false:=sO;clear q hR hR' HJ hn hM1 HFR;go_wp2;go_roundw
      case rel=>exact⟨trivial,k+1,M,oM,oM,rfl,by first|rfl|(go_num)|(simp),by first|(rw[<-hPk];go_num)|(simp;omega),HQ.out⟩
      case measure=>simp[intOf];omega
  .have e1:¬ (P:Int)<(N:Int):=oM;rw[G4 (s:=s) (A:=P) oM,Ef]at hR;have HP:Hid (BJ ((Aa s).drop A) A=.error (242,A)):=by show BJ _ _=_;unfold BJ;rw[hR]
   have HG:Hid (AV E RB s w (fun(b:Nat)=>.int .i64 (b:Int)) (BJ ((Aa s).drop A) A) (AY 242 A) wr):=by
    show AV _ _ _ _ _ _ _ _;rw[HP.out];exact⟨rfl,HERR.out⟩
   unfold AY at HG;clear hR HJ hn HP hlt;go_wp2;exact⟨rfl,HG.out⟩
theorem IZ(E WB:Nat)(l:List Nat)(v:Value)(w:World)(h:Bc E WB l v w)(rs:List Be)(hrs:∀x∈rs,Eg x)(hn:rs.length<=64)(p:Option Addr)(q:Nat)(hr:∀u,Below E w u->B4 3 Au u (.slice p rs.length q) rs)(hl:l.length+1000000<=100000000):
 Calls prog 40 #[.pointer (some ⟨WB,0,none⟩),.slice p rs.length q,.func (.func 41) #[.pointer (some ⟨WB,0,none⟩)] #[]] w fun e w'=>e=.returned (.tuple #[])/\Below E w w'/\∃v',Bc E WB (l++An AS rs) v' w'/\Ba WB v w v' w':=by
 obtain⟨N,hN⟩:=gA (rs.length)
 have hnl:=Al (n:=N) oM;have HLN:Hid (∀k,((l++Ak N)++(rs.take k).flatMap AS).length+100<=100000000):=fun k=>by
  have h1:=B9 (e:=AS) (m:=90) (rs.take k) (fun x hx=>Ed (hrs x (List.mem_of_mem_take hx)));rw[List.length_take]at h1;rw[List.length_append,List.length_append];have h2:min k rs.length<=64:=oM;omega
 have HFM:=A6 (fun(k:Nat) (hk:k<rs.length)=>BA AS hk);have HEL:Hid (An AS rs=Ak N++rs.flatMap AS):=by show An AS rs=_;unfold An;rw[hN]
 have KW:=A6 (fun(m:List Nat) (v:Value) (u:World) (a:Bc E WB m v u) (x:Be) (hx:Eg x) (b:m.length+100<=100000000)=>Ni E WB m v u a x hx oM);have KN:=A6 (Bm E WB l v w h N oM oM);have HRW:Hid (∀u,Below E w u->B4 3 Au u (.slice p N q) rs):=fun u hu=>by rw[<-hN];exact hr u hu
 have HOK:=A6 hrs;have HN:=A6 hN;rw[hN]at hn |-;clear hr hrs h hN;go_enter func40,ntmps40;go_upto_block 0 with(go_at_call 79;(with_reducible refine KN.out.mono ?_);rintro e9 w4 ⟨rfl,hb4,v4,hm4,ho4⟩;have HJ0:Hid (Below E w w4/\∃v',Bc E WB ((l++Ak N)++(rs.take 0).flatMap AS) v' w4/\Ba WB v w v' w4):=⟨hb4,v4,Qk,ho4⟩;clear hb4 hm4 ho4)
 go_wp2_with fail
 go_loopw [14] (fun iv wx=>∃k:Nat,k<=N/\iv=.int .i64 (k:Int)/\Hid (Below E w wx/\∃v',Bc E WB ((l++Ak N)++(rs.take k).flatMap AS) v' wx/\Ba WB v w v' wx)) (fun iv _=>N-(intOf iv).toNat)
 case atStart=>exact⟨0,gI _,rfl,HJ0.out⟩
 case round=>
  clear HJ0;obtain⟨k,hk,rfl,HJ⟩:=hrel;by_cases hlt:k<N
  .have hkl:k<rs.length:=by have:=HN.out;omega
   obtain⟨hb,v2,hm,ho⟩:=HJ.out;obtain⟨rb,ro,rfl,hcl⟩:=(HRW.out wr hb).at hkl;have hx:=HOK.out rs[k] (gD hkl);have hfm:=HFM.out k hkl;obtain⟨x,hxe⟩:=gA (rs[k])
   rw[hxe]at hcl hx hfm;obtain⟨V,hV⟩:=gA (wr.alloc (.cells #[.string (x.name),.int .i64 (x.kind),.int .i64 (x.len)] 59))
   have hbV:Below wr.heap.size wr V:=by rw[<-hV];exact A5 _ _
   have y0:=hcl.at 0 (v:=.string (x.name)) rfl;rw[Nat.add_zero]at y0;have y1:=hcl.at 1 (v:=.int .i64 (x.kind)) rfl;have y2:=hcl.at 2 (v:=.int .i64 (x.len)) rfl;have z0:V.cell? ⟨wr.heap.size,0,none⟩=some (.string (x.name)):=by rw[<-hV];simp[go_sem]
   have z1:V.cell? ⟨wr.heap.size,1,none⟩=some (.int .i64 (x.kind)):=by rw[<-hV];simp[go_sem]
   have z2:V.cell? ⟨wr.heap.size,2,none⟩=some (.int .i64 (x.len)):=by rw[<-hV];simp[go_sem]
   have llb:rb<wr.heap.size:=Ae y0;have n9:¬rb=wr.heap.size:=oM;have KX:=A6 (KW.out _ v2 V (hm.below hbV) x hx (HLN.out k));have HFM':=A6 hfm;have HBV:Hid (Below E w V):=hb.trans (hbV.mono hm.le);have HOV:Hid (∀v' w',Ba WB v2 V v' w'->Ba WB v w v' w'):=fun v' w' z=>ho.trans (Ba.below hm hbV z);have i1:(0:Int)<=(k:Int):=oM;have i2:(k:Int)<(N:Int):=oM;have wi:IntKind.i64.wrap ((k:Int)+1)=((k+1:Nat):Int):=by rw[IntKind.wrap_i64];omega
   clear hb hm ho hcl hx hfm hxe hbV llb HJ;go_wp2_with(go_at_call 41;(with_reducible refine KX.out.mono ?_);rintro e9 w5 ⟨rfl,hb5,v5,hm5,ho5⟩;have HQ:Hid (Below E w w5/\∃v',Bc E WB ((l++Ak N)++(rs.take (k+1)).flatMap AS) v' w5/\Ba WB v w v' w5):=⟨HBV.out.trans hb5,v5,Ql,HOV.out _ _ ho5⟩;clear hb5 hm5 ho5);exact PA
  .have e1:¬ (k:Int)<(N:Int):=oM;have hall:rs.take k=rs:=List.take_of_length_le Pn;have HQ:Hid (Below E w wr/\∃v',Bc E WB (l++An AS rs) v' wr/\Ba WB v w v' wr):=by
    exact Q9
   exact Q1
theorem Ks:∀op:Nat,op<38->1<=op->Ft op=decide (op=2\/op=29\/op=30\/op=31\/op=32\/op=33\/op=36):=by decide+kernel
theorem LN(op:Nat)(h1:1<=op)(h2:op<=37)(w:World):
 Calls prog 110 #[.int .i64 (op:Int)] w fun e w'=>e=.returned (.bool (Ft op))/\w'=w:=by
 have HN:=A6 (Ks op oM h1);by_cases q:op=2\/op=29\/op=30\/op=31\/op=32\/op=33\/op=36
 .have HT:Hid (Ft op=true):=by show Ft op=_;rw[HN.out];simp[q]
  rw[HT.out];clear HN HT;rcases q with rfl|rfl|rfl|rfl|rfl|rfl|rfl
  all_goals
   exact RG
 .have HT:Hid (Ft op=false):=by show Ft op=_;rw[HN.out];simp[q]
  rw[HT.out];have a1:((op:Int)==2)=false:=sO;have a2:((op:Int)==29)=false:=sO;have a3:((op:Int)==30)=false:=sO;have a4:((op:Int)==31)=false:=sO;have a5:((op:Int)==32)=false:=sO;have a6:((op:Int)==33)=false:=sO;have a7:((op:Int)==36)=false:=sO;clear HN HT q;exact RG
def CY(LB:Nat)(os:List Nat):List Value:=os.map fun o=>.pointer (some ⟨LB,o,none⟩)
theorem M9(LB:Nat)(a b:List Nat):CY LB (a++b)=CY LB a++CY LB b:=by simp[CY]
theorem Km:(prog.info? 154).map (fun i=>(i.zero,i.size,i.bytes))=some (some (.pointer none),1,8):=kR
theorem GU{E LB:Nat}{V:World}{p:Option Addr}{q:Nat}{os:List Nat}(h:V.ownsRow E 154 1 (.slice p os.length q) os.length (CY LB os))(hE:E<=V.heap.size){RB d:Nat}(ns:List Nat)(hn:∀j (hj:j<ns.length),V.cell? ⟨RB,j,none⟩=some (.pointer (some ⟨LB,ns[j],none⟩)))(hl:os.length+ns.length<=1000000)(ty:TypeId):
 ∃p' q' w',(Builtin.append_ #[152,152] ty #[.slice p os.length q,.slice (some ⟨RB,0,none⟩) ns.length d]).run prog V=.ok (.slice p' (os.length+ns.length) q') w'/\w'.ownsRow E 154 1 (.slice p' (os++ns).length q') (os++ns).length (CY LB (os++ns))/\Below E V w':=by
 obtain⟨i0,hi0,hz0,hz1,hz2⟩:=info_parts Km;obtain⟨v',w',hr,h2,h3,-,-⟩:=run_append_own_at (P:=prog) V E 152 ty 154 i0 _ 1 8 underlying152 hi0 hz0 hz1 hz2 rfl dE (.slice p os.length q) os.length (CY LB os) h ⟨RB,0,none⟩ ns.length d (CY LB ns) (by simp[CY]) (fun j u hu=>by
  have hj:j<ns.length:=by have:=(List.getElem?_eq_some_iff.1 hu).1;simpa[CY]using this
  have hadd:(⟨RB,0,none⟩:Addr).add j=⟨RB,j,none⟩:=by unfold Addr.add;split<;>simp_all
  rw[hadd,hn j hj]
  simpa[CY,hj]using hu) (by simp[CY,Value.oneCell']) mL oM hE
 obtain⟨p',q',rfl⟩:=At h2;refine⟨p',q',w',hr,?_,(Below.refl E V).grown h3 hE (fun b e=>(h.lt b e).1)⟩;rw[List.length_append,M9];exact h2
theorem FX{E LB:Nat}{V:World}{p:Option Addr}{q:Nat}{os:List Nat}(h:V.ownsRow E 154 1 (.slice p os.length q) os.length (CY LB os))(hE:E<=V.heap.size)(o:Nat)(hl:os.length+1<=1000000)(ty:TypeId):
 ∃p' q' w',(Builtin.append_ #[152,152] ty #[.slice p os.length q,.slice (some ⟨V.heap.size,0,none⟩) 1 1]).run prog (V.alloc (.cells #[.pointer (some ⟨LB,o,none⟩)] 154))=.ok (.slice p' (os.length+1) q') w'/\w'.ownsRow E 154 1 (.slice p' (os++[o]).length q') (os++[o]).length (CY LB (os++[o]))/\Below E V w':=by
 have hb0:Below V.heap.size V (V.alloc (.cells #[.pointer (some ⟨LB,o,none⟩)] 154)):=A5 _ _;obtain⟨p',q',w',h1,h2,h3⟩:=GU (LB:=LB) (AH h hb0) (gH hE hb0.size) (RB:=V.heap.size) (d:=1) [o] (fun j hj=>by
  have:j=0:=by simp only[List.length_cons,List.length_nil]at hj;omega
  subst this
  simp[go_sem]) hl ty
 exact⟨p',q',w',h1,h2,(hb0.mono hE).trans h3⟩
theorem KU(i:AB):(AJ i (Ad i.op)).length<=3:=by
 rw[Dx];have h1:=Db (Ad i.op).a i.a;have h2:=Db (Ad i.op).b i.b;have h3:=Db (Ad i.op).c i.c;simp only[List.length_append];omega
def Cz(i:AB):List Nat:=((if(Ad i.op).d != 0 then [1]else [])++[2,3,4].take (AJ i (Ad i.op)).length)++(if Ft i.op.toNat=true then [5]else [])
theorem Fm(X:Nat)(i:AB)(h1:1<=i.op)(h2:i.op<=37)(w:World)(hc:Aj w X 0 (BR i)):
 Calls prog 81 #[.pointer (some ⟨X,0,none⟩)] w fun e w'=>∃q d,e=.returned (.slice q (Cz i).length d)/\w'.ownsRow w.heap.size 154 1 (.slice q (Cz i).length d) (Cz i).length (CY X (Cz i))/\Below w.heap.size w w':=by
 obtain⟨E,hE⟩:=gA (w.heap.size)
 have HE:=A6 hE;simp only[hE];have HRL:=A6 (KU i);obtain⟨F,hF⟩:=gA (Cz i)
 rw[hF];have HF:Hid (((if(Ad i.op).d != 0 then [1]else [])++[2,3,4].take (AJ i (Ad i.op)).length)++(if Ft i.op.toNat=true then [5]else [])=F):=hF;clear hF;obtain⟨op,d,a,b,e,n,z⟩:=i;simp only at h1 h2 HRL HF;obtain⟨O,hO⟩:∃O:Nat,op=(O:Int):=⟨op.toNat,oM⟩
 subst hO;rw[Int.toNat_natCast]at HF;have HYY:Hid (∀v,Below E w v->v.cell? ⟨X,0,none⟩=some (.int .i64 (O:Int))/\v.cell? ⟨X,1,none⟩=some (.int .i64 d)/\v.cell? ⟨X,2,none⟩=some (.int .i64 a)/\v.cell? ⟨X,3,none⟩=some (.int .i64 b)/\v.cell? ⟨X,4,none⟩=some (.int .i64 e)/\v.cell? ⟨X,5,none⟩=some (.int .i64 n)/\v.cell? ⟨X,6,none⟩=some (.int .u32 z)):=fun v hv=>by
  rw[<-hE]at hv;have g:∀k x,(BR ⟨(O:Int),d,a,b,e,n,z⟩)[k]? =some x->v.cell? ⟨X,k,none⟩=some x:=fun k x hx=>by
   have h9:=hc.at k hx;rw[Nat.zero_add]at h9;exact kc hv h9
  exact⟨g 0 _ rfl,g 1 _ rfl,g 2 _ rfl,g 3 _ rfl,g 4 _ rfl,g 5 _ rfl,g 6 _ rfl⟩
 obtain⟨y0,y1,y2,y3,y4,y5,y6⟩:=HYY.out w (Below.refl _ _);have KS:=A6 (fun v=>N6 ⟨(O:Int),d,a,b,e,n,z⟩ v);have KR:=A6 (fun v=>KJ ⟨(O:Int),d,a,b,e,n,z⟩ v);have KH:=A6 (fun v=>LN O oM oM v);unfold Bo at KS KR;simp only at KS KR;obtain⟨rs,hrs⟩:=gA (AJ (⟨(O:Int),d,a,b,e,n,z⟩:AB) (Ad (O:Int)))
 simp only[hrs]at KR HRL HF;obtain⟨sb,hsb⟩:=gA (((Ad (O:Int)).d != 0))
 simp only[hsb]at KS HF;obtain⟨nb,hnb⟩:=gA (Ft O)
 simp only[hnb]at KH HF;obtain⟨P1,hP1⟩:∃P,(if sb=true then [1]else []:List Nat)=P:=⟨_,rfl⟩
 have HP1L:Hid (P1.length<=1):=by rw[<-hP1];show _<=_;split<;>simp
 have HP1:=A6 hP1;rw[hP1]at HF;obtain⟨P2,hP2⟩:∃P,P1++[2,3,4].take rs.length=P:=⟨_,rfl⟩
 have HP2:=A6 hP2;rw[hP2]at HF;have HP2L:Hid (P2.length<=4):=by
  rw[<-hP2,List.length_append,List.length_take];have:=HP1L.out;show _<=_;simp only[List.length_cons,List.length_nil];omega
 have HEW:Hid (E<=w.heap.size):=by rw[hE];exact gF _
 clear hc hE hrs hsb hnb hP1 hP2 h1 h2;go_enter func81,ntmps81;go_upto_if 8 with(go_at_call 108;(with_reducible refine(KS.out _).mono ?_);rintro e9 w4 ⟨rfl,hb4⟩;have HB4:Hid (Below E w w4):=(by have h9:=hb4;rw[HE.out]at h9;exact h9);clear hb4)
 go_cut [3] (fun lv wx=>∃ (q:Option Addr) (d':Nat),lv=.slice q P1.length d'/\Hid (Below E w wx/\E<=wx.heap.size/\wx.ownsRow E 154 1 (.slice q P1.length d') P1.length (CY X P1)))
 case first=>
  cases sb with
  |false=>
   obtain rfl:[]=P1:=HP1.out;go_wp2;go_meet;exact⟨none,0,rfl,HB4.out,gH HEW.out HB4.size,World.ownsRow_nil _ _ _ 1⟩
  |true=>
   obtain rfl:[1]=P1:=HP1.out;obtain⟨p',q',w5,r1,r2,r3⟩:=FX (E:=E) (LB:=X) (V:=w4) (p:=none) (q:=0) (os:=[]) (World.ownsRow_nil _ _ _ 1) (gH HEW.out HB4.size) 1 dE 152;have HR1:=A6 r1;have HR2:=A6 r2;have HR3:=A6 r3;clear r1 r2 r3;go_wp2_with(at_builtin;refine AF rF _ _ _ rF _ _ _ rF rF HR1.out ?_);go_meet;exact⟨p',q',rfl,HB4.trans HR3.out,gH (gH HEW.out HB4.size) HR3.size,HR2.out⟩
 case rest=>
  obtain⟨q5,d5,rfl,HC5⟩:=hcut;obtain⟨hb5,hE5,ho5⟩:=HC5.out;have HB5:=A6 hb5;have HE5:=A6 hE5;have HO5:=A6 ho5;obtain⟨u0,-⟩:=HYY.out wc hb5;have lLB:X<wc.heap.size:=Ae u0;have nLB:¬X=wc.heap.size:=oM;have k0:∀o,(wc.alloc o).cell? ⟨X,0,none⟩=some (.int .i64 (O:Int)):=fun o=>kc (A5 _ _) u0;clear HC5 hb5 hE5 ho5 y0 y1 y2 y3 y4 y5 y6 KS HB4;go_upto_region 4 with fail;refine rG (fun v=>v.cell? ⟨X,0,none⟩=some (.int .i64 (O:Int))) fun hJ=>?_;refine wpAnyH_take (i:=0) (v:=?_) A7 kR kR kR A8 (Or.inl ⟨rF,?_⟩) A9 ?_
  rotate_left 1
  ·(intro wS hSw;(try dsimp only at hSw);go_simp;try(with_reducible rfl))
  try simp only[Act.put,List.setIfInBounds_toArray,List.set_cons_zero,List.set_cons_succ]
  refine wpAnyH_take (i:=1) (v:=?_) A7 kR kR kR A8 (Or.inl ⟨rF,?_⟩) A9 ?_
  rotate_left 1
  ·(intro wS hSw;(try dsimp only at hSw);go_simp;try(with_reducible rfl))
  try simp only[Act.put,List.setIfInBounds_toArray,List.set_cons_zero,List.set_cons_succ]
  refine wpAnyH_take (i:=2) (v:=?_) A7 kR kR kR A8 (Or.inl ⟨rF,?_⟩) A9 ?_
  rotate_left 1
  ·(intro wS hSw;(try dsimp only at hSw);go_simp;try(with_reducible rfl))
  try simp only[Act.put,List.setIfInBounds_toArray,List.set_cons_zero,List.set_cons_succ]
  refine wpAnyH_take (i:=3) (v:=?_) A7 kR kR kR A8 (Or.inl ⟨rF,?_⟩) A9 ?_
  rotate_left 1
  ·(intro wS hSw;(try dsimp only at hSw);go_simp;try(with_reducible rfl))
  try simp only[Act.put,List.setIfInBounds_toArray,List.set_cons_zero,List.set_cons_succ]
  refine wpAnyH_take (i:=4) (v:=?_) A7 kR kR kR A8 (Or.inl ⟨rF,?_⟩) A9 ?_
  rotate_left 1
  ·(intro wS hSw;(try dsimp only at hSw);go_simp;try(with_reducible rfl))
  try simp only[Act.put,List.setIfInBounds_toArray,List.set_cons_zero,List.set_cons_succ]
  refine wpAnyH_take (i:=5) (v:=?_) A7 kR kR kR A8 (Or.inl ⟨rF,?_⟩) A9 ?_
  rotate_left 1
  ·(intro wS hSw;(try dsimp only at hSw);go_simp;try(with_reducible rfl))
  try simp only[Act.put,List.setIfInBounds_toArray,List.set_cons_zero,List.set_cons_succ]
  refine wpAnyH_take (i:=6) (v:=?_) A7 kR kR kR A8 (Or.inl ⟨rF,?_⟩) A9 ?_
  rotate_left 1
  ·(intro wS hSw;(try dsimp only at hSw);go_simp;try(with_reducible rfl))
  try simp only[Act.put,List.setIfInBounds_toArray,List.set_cons_zero,List.set_cons_succ]
  refine wpAnyH_take (i:=7) (v:=?_) A7 kR kR kR A8 (Or.inl ⟨rF,?_⟩) A9 ?_
  rotate_left 1
  ·(intro wS hSw;(try dsimp only at hSw);go_simp;try(with_reducible rfl))
  try simp only[Act.put,List.setIfInBounds_toArray,List.set_cons_zero,List.set_cons_succ]
  refine wpAnyH_take (i:=8) (v:=?_) A7 kR kR kR A8 (Or.inl ⟨rF,?_⟩) A9 ?_
  rotate_left 1
  ·(intro wS hSw;(try dsimp only at hSw);go_simp;try(with_reducible rfl))
  try simp only[Act.put,List.setIfInBounds_toArray,List.set_cons_zero,List.set_cons_succ]
  refine wpAnyH_take (i:=9) (v:=?_) A7 kR kR kR A8 (Or.inl ⟨rF,?_⟩) A9 ?_
  rotate_left 1
  ·(intro wS hSw;(try dsimp only at hSw);go_simp;try(with_reducible rfl))
  try simp only[Act.put,List.setIfInBounds_toArray,List.set_cons_zero,List.set_cons_succ]
  clear hJ;refine AR 10 fun K hK=>?_;go_simp;refine AX hK fun hJ=>?_;clear hK K;clear hJ;refine AR 11 fun K hK=>?_;go_simp;refine AX hK fun hJ=>?_;clear hK K;refine wpAnyH_done kR ?_ _;obtain⟨W6,hW6⟩:∃W,(wc.alloc (.cells #[.pointer (some ⟨X,2,none⟩),.pointer (some ⟨X,3,none⟩),.pointer (some ⟨X,4,none⟩)] 176)).drew=W:=⟨_,rfl⟩
  rw[hW6];have HB6:Hid (Below wc.heap.size wc W6):=by rw[<-hW6];exact bel (A5 _ _) (Below.refl _ _).drew
  have HX6:Hid (∀k (hk:k<3),W6.cell? ⟨wc.heap.size,k,none⟩=some (.pointer (some ⟨X,[2,3,4][k],none⟩))):=fun k hk=>by
   rw[<-hW6];rcases(show k=0\/k=1\/k=2 by omega)with rfl|rfl|rfl<;>simp[go_sem]
  have HBW:Hid (Below E w W6):=HB5.trans (HB6.mono HE5.out);obtain⟨y0,y1,y2,y3,y4,y5,y6⟩:=HYY.out W6 HBW.out;obtain⟨m,hm⟩:=gA (rs.length)
  have HNS:Hid (([2,3,4].take rs.length).length=m):=by show _=_;have:=HRL.out;rw[List.length_take];simp only[List.length_cons,List.length_nil];omega
  have HMM:Hid (m<=3):=by rw[<-hm];exact HRL.out
  have m3:(m:Int)<=3:=by have:=HMM.out;omega
  have m4:m<=3:=HMM.out;have m5:(0:Int)<=(m:Int):=oM;simp only[hm]at KR;clear hW6 hm u0 k0;go_upto_region 5 with fail;go_upto_region 6 with(first
   |(go_at_call 109;(with_reducible refine(KR.out _).mono ?_);rintro e9 w7 ⟨v7,rfl,ho7,hb7⟩;obtain⟨p7,q7,rfl⟩:=At ho7;have HB7:=A6 hb7;obtain⟨p',q',w8,r1,r2,r3⟩:=GU (LB:=X) (RB:=wc.heap.size) (d:=3) (AH HO5.out (bel HB6.out HB7.out)) (gH HE5.out (bel HB6.out HB7.out).size) ([2,3,4].take rs.length) (fun k hk=>by
    have h9:k<3:=by have:=HNS.out;have:=HMM.out;omega
    rw[List.getElem_take]
    exact kc HB7.out (HX6.out k h9)) (by have:=HNS.out;have:=HMM.out;have:=HP1L.out;omega) 152;rw[HP2.out]at r2;rw[HNS.out]at r1;have HR1:=A6 r1;have HR2:=A6 r2;have HR3:=A6 r3;clear r1 r2 r3 ho7 hb7)
   |(at_builtin;refine AF rF _ _ _ rF _ _ _ rF rF HR1.out ?_))
  have HBX:Hid (Below E w w8):=(HBW.trans (HB7.mono (gH HE5.out HB6.size))).trans HR3.out;have HEX:Hid (E<=w8.heap.size):=gH (gH HE5.out (bel HB6.out HB7.out).size) HR3.size;have hpl:P1.length+m=P2.length:=by rw[<-HP2.out,List.length_append,HNS.out]
  rw[hpl];clear hpl y0 y1 y2 y3 y4 y5 y6 HR1 HR3 HB7 KR HX6 HB6 HB5 HO5 HBW HE5;obtain⟨y0,y1,y2,y3,y4,y5,y6⟩:=HYY.out w8 HBX.out;go_upto_if 37 with(go_at_call 110;(with_reducible refine(KH.out _).mono ?_);rintro e9 w9 ⟨rfl,rfl⟩)
  cases nb with
  |false=>
   have HFF:Hid (F=P2):=by show _=_;rw[<-HF.out];simp
   go_wp2;refine bodyPost_ret (by simp[results,results81,go_sem, *];try rfl) rfl ?_;rw[HFF.out];exact⟨_,_,rfl,HR2.out,HBX.out⟩
  |true=>
   have HFF:Hid (F=P2++[5]):=by show _=_;rw[<-HF.out];simp
   obtain⟨p3,q3,w5,r1,r2,r3⟩:=FX (LB:=X) HR2.out HEX.out 5 (by have:=HP2L.out;omega) 152;rw[<-HFF.out]at r2;have HS1:=A6 r1;have HS2:=A6 r2;have HS3:=A6 r3;have HLN:Hid (F.length=P2.length+1):=by show _=_;rw[HFF.out];simp
   clear r1 r2 r3;go_wp2_with(at_builtin;refine AF rF _ _ _ rF _ _ _ rF rF HS1.out ?_);refine bodyPost_ret (by simp[results,results81,go_sem, *];try rfl) rfl ?_;exact⟨p3,q3,by rw[HLN.out],HS2.out,HBX.trans HS3.out⟩
theorem CH(E RB:Nat)(s:ByteArray)(A most:Nat)(w:World)(h:Bq E RB s A w)(hA:A<=s.size)(hs:s.size<=140737488355328)(hE:E<=w.heap.size):
 Calls prog 84 #[.pointer (some ⟨RB,0,none⟩),.int .i64 (most:Int)] w (AV E RB s w (fun(b:Nat)=>.int .i64 (b:Int)) (Bh most ((Aa s).drop A) A)):=by
 have c1:=h.c1;have KN:=Co E RB s A w h hA hs hE;unfold Bh;clear h;cases hq:BJ ((Aa s).drop A) A with
 |error er=>
  obtain⟨er,at_⟩:=er;rw[hq]at KN;have KN':=A6 KN;unfold AV AY at KN' |-;simp only at KN' |-;clear KN hq;go_enter func84,ntmps84;go_wp2_with(go_at_call 87;(with_reducible refine KN'.out.mono ?_);rintro e9 w4 ⟨rfl,hb4,ho4⟩;have HB4:=A6 hb4;have HO4:=A6 ho4;clear hb4 ho4);exact⟨rfl,rfl,HB4.out,HO4.out⟩
 |ok r=>
  obtain⟨n,l',A'⟩:=r;rw[hq]at KN;have KN':=A6 KN;clear KN hq;unfold AV at KN';simp only at KN';by_cases q:most<n
  .have e1:(most:Int)<(n:Int):=oM;have HG:Hid (∀w',Below E w w'->AZ RB w w'->AV E RB s w (fun(b:Nat)=>Value.int .i64 (b:Int)) (.error (2,A)) (AY 2 A) w'):=fun w' a b=>⟨rfl,a,b⟩
   unfold AY at HG;simp only;go_enter func84,ntmps84;go_wp2_with(go_at_call 87;(with_reducible refine KN'.out.mono ?_);rintro e9 w4 ⟨rfl,hb4,ho4,hm4,hl4,hd4⟩;have HB4:=A6 hb4;have HO4:=A6 ho4;clear hb4 ho4 hm4 hl4 hd4);exact⟨rfl,HG.out _ HB4.out HO4.out⟩
  .have e1:¬ (most:Int)<(n:Int):=oM;have HG:Hid (∀w',Below E w w'->AZ RB w w'->Bq E RB s A' w'->A'<=s.size->l'=(Aa s).drop A'->AV E RB s w (fun(b:Nat)=>Value.int .i64 (b:Int)) (.ok (n,l',A')) (.returned (.int .i64 (n:Int))) w'):=fun w' a b c d e=>⟨rfl,a,b,c,d,e⟩
   simp only;go_enter func84,ntmps84;go_wp2_with(go_at_call 87;(with_reducible refine KN'.out.mono ?_);rintro e9 w4 ⟨rfl,hb4,ho4,hm4,hl4,hd4⟩;have HR4:=A6 (HG.out _ hb4 ho4 hm4 hl4 hd4);clear hb4 ho4 hm4 hl4 hd4);refine bodyPost_ret (by simp[results,results84,go_sem, *];try rfl) rfl ?_;exact HR4.out
end Go.Proofs.YtnlgkkbmbijndaaGreat
