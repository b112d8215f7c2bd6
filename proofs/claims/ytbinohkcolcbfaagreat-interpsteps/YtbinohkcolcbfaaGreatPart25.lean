import Derived.Test.YtbinohkcolcbfaaGreatPart1
import Derived.Test.YtbinohkcolcbfaaGreatPart24
namespace Go.Proofs.YtbinohkcolcbfaaGreat
open Go.RowKit Go.Proofs.Tryz
set_option linter.unusedVariables false
set_option linter.unusedSimpArgs false
set_option maxRecDepth 100000
set_option maxHeartbeats 16000000
theorem Zud(n:Nat)(x:Int){j:Nat}(h:j<n):atL (List.replicate n x) j=x:=by simp[atL,h]
theorem Ztw(n:Nat)(x:Int)(hx:IsP x)(hn:n<=65536)(w:World):
 Calls prog 40 #[.int .i64 n,.int .i64 x] w fun e w'=>∃q cap,e=.returned (.tuple #[.slice q n cap,.int .i64 0])/\Zio w' q n (fun i=>.int .i64 (canon x))/\Below w.heap.size w w'/\∀b o s,q=some ⟨b,o,s⟩->w.heap.size<=b:=by
 obtain⟨i0,hi0,hz0,hz1,hz2⟩:=info_parts info_I;have h1:¬ ((n:Int)<0):=oM;have h2:(n:Int)<=65536:=oM;go_enter func40,ntmps40;go_wp2
 go_loopw [6,7] (fun ov iv wr=>Below w.heap.size w wr/\∃ (k:Nat) (v:Value),v=ov/\k<=n/\iv=.int .i64 k/\Hid (wr.ownsRow w.heap.size 3 1 v k (vals (fun i=>.int .i64 (canon x)) k))) (fun _ iv _=>n-(intOf iv).toNat)
 case atStart=>exact⟨bel0 w,0,_,rfl,Nat.zero_le _,rfl,World.ownsRow_nil _ _ _ _⟩
 case round=>
  obtain⟨hb,k,ov,rfl,hk,rfl,hown⟩:=hrel;by_cases hlt:k<n
  ·have i1:(0:Int)<=(k:Int):=oM;have i2:(k:Int)<(n:Int):=oM;have sz:=hb.size;have hob:Hid (∀j,ov.ownBlock=some j->w.heap.size<=j/\j<wr.heap.size):=hown.out.lt;go_wp2_with(first
    |(go_at_call 68;refine(Zpt _ hx.1 hx.2 _).mono ?_;rintro e w0 ⟨rfl,hw'⟩;obtain rfl:=hw'.symm)
    |(at_builtin;refine wpList_append_own _ rfl _ _ 82 rfl w.heap.size 3 i0 _ 1 8 underlying82 hi0 hz0 hz1 hz2 rfl dE ov k (vals (fun i=>.int .i64 (canon x)) k) rfl (hown.out.alloc _) ⟨wr.heap.size,0,none⟩ 1 1 [.int .i64 (canon x)] rfl rfl (World.news_of_block (cs:=#[.int .i64 (canon x)]) (t:=3) (fr:=(0,0)) (heap_alloc_new wr _)) Zfz mL oM sO ?_;intro v' w1 hown1 hgrow hnil;have HB:Below w.heap.size w w1:=Below.grown (hb.alloc sz _) hgrow sO (fun j e=>(hob.out j e).1);have HO:Hid (w1.ownsRow w.heap.size 3 1 v' (k+1) (vals (fun i=>.int .i64 (canon x)) k++[.int .i64 (canon x)])):=hown1;clear hown1 hgrow hnil))
   go_roundw
   case rel=>exact⟨HB,k+1,_,rfl,oM,gN,by rw[Zzt];exact HO⟩
   case measure=>simp[intOf];omega
  ·have:k=n:=oM;subst this;obtain⟨q,cap,rfl,hR,hg,-⟩:=Zya hown.out;have HR:Hid (Zio wr q k (fun i=>.int .i64 (canon x))):=hR;have HG:Hid (∀b o s,q=some ⟨b,o,s⟩->w.heap.size<=b):=hg;clear hR hg hown;go_wp2;go_returns;first|exact⟨_,_,rfl,HR.out,hb,HG.out⟩|exact⟨_,⟨_,rfl⟩,HR.out,hb,HG.out⟩
structure FW17(w:World)(v0 v1 v2 v3:Value)(tk tp:Int)(kp:Bool)(sb si:Int)(v:World):Prop where
 bel:Below w.heap.size w v
 c0:v.cell? ⟨w.heap.size,0,none⟩=some v0
 c1:v.cell? ⟨w.heap.size,1,none⟩=some v1
 c2:v.cell? ⟨w.heap.size,2,none⟩=some v2
 c3:v.cell? ⟨w.heap.size,3,none⟩=some v3
 s0:v.cell? ⟨w.heap.size+1,0,none⟩=some (.int .i64 tk)
 s1:v.cell? ⟨w.heap.size+1,1,none⟩=some (.int .i64 tp)
 s2:v.cell? ⟨w.heap.size+1,2,none⟩=some (.bool kp)
 s3:v.cell? ⟨w.heap.size+1,3,none⟩=some (.int .u32 sb)
 s4:v.cell? ⟨w.heap.size+1,4,none⟩=some (.int .i64 si)
 r0:v.cell? ⟨w.heap.size+1+1,0,none⟩=some (.slice none 0 0)
 r1:v.cell? ⟨w.heap.size+1+1,1,none⟩=some (.int .i64 0)
 f0:v.frozen? ⟨w.heap.size+1+1,0,none⟩=false
 f1:v.frozen? ⟨w.heap.size+1+1,1,none⟩=false
theorem FW17.next{w:World}{v0 v1 v2 v3:Value}{tk tp:Int}{kp:Bool}{sb si:Int}{v v':World}(h:FW17 w v0 v1 v2 v3 tk tp kp sb si v)(k:Below v.heap.size v v'):FW17 w v0 v1 v2 v3 tk tp kp sb si v':=
 ⟨Go.Proofs.YtbinohkcolcbfaaGreat.bel h.bel k,kc k h.c0,kc k h.c1,kc k h.c2,kc k h.c3,kc k h.s0,kc k h.s1,kc k h.s2,kc k h.s3,kc k h.s4,kc k h.r0,kc k h.r1,kf k h.r0 h.f0,kf k h.r1 h.f1⟩
theorem FW17.start(w:World)(v0 v1 v2 v3:Value)(tk tp:Int)(kp:Bool)(sb si:Int):FW17 w v0 v1 v2 v3 tk tp kp sb si (((w.alloc (.cells #[v0,v1,v2,v3] 27)).alloc (.cells #[.int .i64 tk,.int .i64 tp,.bool kp,.int .u32 sb,.int .i64 si] 72)).alloc (.cells #[.slice none 0 0,.int .i64 0] 84)):=by
 have k1:=Zhq (w.alloc (.cells #[v0,v1,v2,v3] 27)) (.cells #[.int .i64 tk,.int .i64 tp,.bool kp,.int .u32 sb,.int .i64 si] 72);have k2:=Zhq ((w.alloc (.cells #[v0,v1,v2,v3] 27)).alloc (.cells #[.int .i64 tk,.int .i64 tp,.bool kp,.int .u32 sb,.int .i64 si] 72)) (.cells #[.slice none 0 0,.int .i64 0] 84);refine⟨Go.Proofs.YtbinohkcolcbfaaGreat.bel (Zhq _ _) (Go.Proofs.YtbinohkcolcbfaaGreat.bel k1 k2),kc k2 (kc k1 ?_),kc k2 (kc k1 ?_),kc k2 (kc k1 ?_),kc k2 (kc k1 ?_),kc k2 ?_,kc k2 ?_,kc k2 ?_,kc k2 ?_,kc k2 ?_,?_,?_,?_,?_⟩
 all_goals simp[go_sem]
theorem Zvs(v0 v1 v2 v3:Value)(c:Cd)(hg:Good c)(s:Sl)(hs:Zjh s c.sign.length=true)(hb:IsP s.bits)(w:World)(hv:CdV w v0 v1 v2 v3 c):
 Calls prog 22 #[.agg #[v0,v1,v2,v3],slV s] w fun e w'=>∃p q,e=.returned (.agg #[.slice p (Ziy c s).pats.length q,.int .i64 (Ziy c s).whole])/\NumR w' p (Ziy c s).pats/\Below w.heap.size w w'/\∀b o s,p=some ⟨b,o,s⟩->w.heap.size<=b:=by
 have hw:=hg.width s.ty;have hmay:=hs;unfold Zjh at hmay;simp only[Bool.and_eq_true]at hmay;obtain⟨m1,m2⟩:=hmay;have hpl:s.ty.kind=3->isPl s.ty.par c.sign.length=true:=fun h3=>by
  unfold Zil at m1;rw[if_neg oM,if_pos h3]at m1;exact m1
 have hkd:s.ty.kind=1\/s.ty.kind=2\/s.ty.kind=3:=by
  unfold Zil at m1;by_cases h1:s.ty.kind=1\/s.ty.kind=2
  ·rcases h1 with h1|h1
   ·exact .inl h1
   ·exact .inr (.inl h1)
  ·rw[if_neg h1]at m1;by_cases h3:s.ty.kind=3
   ·exact .inr (.inr h3)
   ·rw[if_neg h3]at m1;exact absurd m1 dE
 have KW:=Zpy v0 v1 v2 v3 c hg s.ty hpl;unfold Znk at m2;obtain⟨⟨tk,tp⟩,kp,sb,si⟩:=s;unfold Ziy slV Zkf;unfold tyV at KW;simp only at hw hpl hkd KW m2 hb ⊢;have HT0:=FW17.start w v0 v1 v2 v3 tk tp kp sb si;by_cases h2:tk=2
 ·have hw0:Zhy c ⟨tk,tp⟩=0:=by unfold Zhy;simp[h2]
  rw[hw0];have h2b:(tk==2)=true:=by simpa using h2
  obtain⟨-,c0,c1,c2,c3,s0,s1,s2,s3,s4,r0,r1,f0,f1⟩:=HT0;clear KW m1 m2 hpl hkd h2;go_enter func22,ntmps22;go_wp2;refine bodyPost_ret (by simp[results,results22,go_sem];try rfl) rfl ?_;exact⟨none,0,rfl,.inl rfl,gG,fun b o s e=>by simp at e⟩
 ·have h2b:(tk==2)=false:=by simpa using h2
  rw[if_neg h2]at m2;simp only[Bool.and_eq_true,beq_iff_eq]at m2;have HSI:Hid (si=0):=m2.1;obtain⟨n,hn⟩:∃n:Nat,(if tk=3 then(lenOf c tp:Int)else 1)=(n:Int)/\Zhy c ⟨tk,tp⟩=n:=by
   unfold Zhy;simp only;rcases hkd with e|e|e
   ·exact⟨1,by simp[e],by simp[e]⟩
   ·exact absurd e h2
   ·exact⟨lenOf c tp,by simp[e],by simp[e]⟩
  rw[hn.1]at KW;rw[hn.2]at hw ⊢;have KFI:=Ztw n sb hb oM;have HKW:Hid (∀v,Below w.heap.size w v->Calls prog 41 #[.agg #[v0,v1,v2,v3],.agg #[.int .i64 tk,.int .i64 tp]] v fun e w'=>e=.returned (.int .i64 (n:Int))/\Below v.heap.size v w'):=fun v hb=>KW v (hv.below hb);have HKF:Hid (∀v,Calls prog 40 #[.int .i64 (n:Int),.int .i64 sb] v fun e w'=>∃q cap,e=.returned (.tuple #[.slice q n cap,.int .i64 0])/\Zio w' q n (fun i=>.int .i64 (canon sb))/\Below v.heap.size v w'/\∀b o s,q=some ⟨b,o,s⟩->v.heap.size<=b):=KFI;have HT:Hid (FW17 w v0 v1 v2 v3 tk tp kp sb si (((w.alloc (.cells #[v0,v1,v2,v3] 27)).alloc (.cells #[.int .i64 tk,.int .i64 tp,.bool kp,.int .u32 sb,.int .i64 si] 72)).alloc (.cells #[.slice none 0 0,.int .i64 0] 84))):=HT0;have hsb:IntKind.i64.wrap sb=sb:=by rw[IntKind.wrap_i64];have:=hb.1;have:=hb.2;omega
  obtain⟨-,c0,c1,c2,c3,s0,s1,s2,s3,s4,r0,r1,f0,f1⟩:=HT0;clear KW KFI m1 m2 hpl hkd h2 hn hs hv;go_enter func22,ntmps22;go_wp2;refine rG (fun v=>v.cell? ⟨w.heap.size,0,none⟩=some v0/\v.cell? ⟨w.heap.size,1,none⟩=some v1/\v.cell? ⟨w.heap.size,2,none⟩=some v2/\v.cell? ⟨w.heap.size,3,none⟩=some v3/\v.cell? ⟨w.heap.size+1,0,none⟩=some (.int .i64 tk)/\v.cell? ⟨w.heap.size+1,1,none⟩=some (.int .i64 tp)/\v.cell? ⟨w.heap.size+1,3,none⟩=some (.int .u32 sb)) fun hHeld=>?_;refine Tf 0 1 2 4 5 6 ?_;clear hHeld;refine ry1 3 fun K hK=>?_;go_simp;(go_at_call 41;(with_reducible refine(HKW.out _ (bel HT.out.bel (Zhs _))).mono ?_);rintro e w1 ⟨rfl,hb1⟩;have HB1:Hid (Below (((w.alloc (.cells #[v0,v1,v2,v3] 27)).alloc (.cells #[.int .i64 tk,.int .i64 tp,.bool kp,.int .u32 sb,.int .i64 si] 72)).alloc (.cells #[.slice none 0 0,.int .i64 0] 84)).heap.size (((w.alloc (.cells #[v0,v1,v2,v3] 27)).alloc (.cells #[.int .i64 tk,.int .i64 tp,.bool kp,.int .u32 sb,.int .i64 si] 72)).alloc (.cells #[.slice none 0 0,.int .i64 0] 84)) w1):=bel (Zhs _) hb1;clear hb1;obtain⟨-,c0,c1,c2,c3,s0,s1,s2,s3,s4,r0,r1,f0,f1⟩:=HT.out.next HB1.out);try(go_wp2_with fail)
  refine okK hK fun hHeld=>?_;clear hK K;clear hHeld;refine ry1 7 fun K hK=>?_;go_simp;(go_at_call 40;(with_reducible refine(HKF.out _).mono ?_);rintro e w2 ⟨pf,qf,rfl,hrf,hb2,hfr⟩;have HFR:Hid (∀b o s,pf=some ⟨b,o,s⟩->w1.heap.size<=b):=hfr;clear hfr;have HS1:Hid (w.heap.size+1+1<w1.heap.size):=Zhr r0;have HB2:Hid (Below (((w.alloc (.cells #[v0,v1,v2,v3] 27)).alloc (.cells #[.int .i64 tk,.int .i64 tp,.bool kp,.int .u32 sb,.int .i64 si] 72)).alloc (.cells #[.slice none 0 0,.int .i64 0] 84)).heap.size (((w.alloc (.cells #[v0,v1,v2,v3] 27)).alloc (.cells #[.int .i64 tk,.int .i64 tp,.bool kp,.int .u32 sb,.int .i64 si] 72)).alloc (.cells #[.slice none 0 0,.int .i64 0] 84)) w2):=bel HB1.out hb2;have HRF:Hid (Zio w2 pf n (fun i=>.int .i64 (canon sb))):=hrf;clear hb2 hrf c0 c1 c2 c3 s0 s1 s2 s3 s4 r0 r1 f0 f1;obtain⟨-,c0,c1,c2,c3,s0,s1,s2,s3,s4,r0,r1,f0,f1⟩:=HT.out.next HB2.out);try(go_wp2_with fail)
  refine okK hK fun hHeld=>?_;clear hK K;refine Tc 8 9 10 ?_;refine Tb 11 12 ?_;refine wpAnyH_done kR ?_ _;go_wp2;refine bodyPost_ret (by simp[results,results22,go_sem, *];try rfl) rfl ?_;have hbF:Below w.heap.size w ((w2.setCell ⟨w.heap.size+1+1,0,none⟩ (.slice pf n qf)).setCell ⟨w.heap.size+1+1,1,none⟩ (.int .i64 0)):=((bel HT.out.bel HB2.out).setCell Zfy _).setCell Zfy _;refine⟨pf,qf,by rw[List.length_replicate,HSI.out],?_,hbF,fun b o s e=>by have h3:=HFR.out b o s e;have h4:=HS1.out;omega⟩;show Zio _ _ _ _;rw[List.length_replicate];rcases HRF.out with h0|⟨b,o,rfl,h1⟩
  ·exact .inl h0
  ·refine .inr ⟨b,o,rfl,fun j hj=>?_⟩;have hne:b≠w.heap.size+1+1:=by have h3:=HFR.out b o none rfl;have h4:=HS1.out;omega
   rw[World.cell?_of_block (Below.heap_setCell _ _ _ _ hne),World.cell?_of_block (Below.heap_setCell _ _ _ _ hne),h1 j hj];simp only;rw[Zud _ _ hj]
theorem Zaat{B:Nat}{V:World}{e t:TypeId}{z:Value}{sz by':Nat}(ht:prog.underlying t=some (.slice e))(hi:(prog.info? e).map (fun i=>(i.zero,i.size,i.bytes))=some (some z,sz,by'))(hzs:z.cells.size=sz)(hsz:0<sz){p:Option Addr}{n q:Nat}{xs:List Value}(h:V.ownsRow B e sz (.slice p n q) n xs)(hB:B<=V.heap.size)
 (cs:Array Value) (hcs:cs.size=sz) (h1:∀u∈cs.toList,u.oneCell'=true) (hn:n+1<=maxLen) (hb:(n+1)*by'<=140737488355328) (ty:TypeId):
 ∃g c' w',(Builtin.append_ #[t,t] ty #[.slice p n q,.slice (some ⟨V.heap.size,0,none⟩) 1 1]).run prog (V.alloc (.cells cs e))=.ok (.slice (some ⟨g,0,none⟩) (n+1) c') w'/\Below B V w'/\w'.ownsRow B e sz (.slice (some ⟨g,0,none⟩) (n+1) c') (n+1) (xs++cs.toList)/\(∀b,b<V.heap.size->(Value.slice p n q).ownBlock≠some b->w'.heap[b]? =V.heap[b]?)/\((Value.slice p n q).ownBlock=some g\/V.heap.size<g):=by
 obtain⟨i0,hi0,hz0,hz1,hz2⟩:=info_parts hi;have hb0:Below V.heap.size V (V.alloc (.cells cs e)):=Zhq _ _;have hs:(V.alloc (.cells cs e)).heap.size=V.heap.size+1:=sM;have h0:=Ziu h hb0;obtain⟨g,cap,w3,hr,hown,hgrow,hat,hlt⟩:=run_append_lies (P:=prog) (V.alloc (.cells cs e)) t ty B e i0 _ sz by' ht hi0 hz0 hz1 hz2 hzs hsz (.slice p n q) n xs h0 ⟨V.heap.size,0,none⟩ 1 1 cs.toList (by simp[hcs])
  (World.news_of_block (cs:=cs) (t:=e) (fr:=(0,0)) (heap_alloc_new V _)) h1 dE hn hb oM _ rfl
 exact Zds
def NumA(v:World)(sv:Value)(p:Option Addr)(l:List Int):Prop:=l=[]\/∃b o,p=some ⟨b,o,none⟩/\sv.ownBlock≠some b/\∀j,j<l.length->v.cell? ⟨b,o+j,none⟩=some (.int .i64 (atL l j))
theorem NumA.num{v:World}{sv:Value}{p:Option Addr}{l:List Int}(h:NumA v sv p l):NumR v p l:=by
 rcases h with rfl|⟨b,o,e,-,h⟩
 ·exact .inl rfl
 ·exact .inr ⟨b,o,e,h⟩
theorem NumA.below{v v':World}{sv:Value}{p:Option Addr}{l:List Int}(h:NumA v sv p l)(k:Below v.heap.size v v'):NumA v' sv p l:=by
 rcases h with rfl|⟨b,o,e,hn,h⟩
 ·exact .inl rfl
 ·exact .inr ⟨b,o,e,hn,fun j hj=>kc k (h j hj)⟩
theorem NumR.apart{v:World}{sv:Value}{p:Option Addr}{l:List Int}(h:NumR v p l)(ha:∀b o s,p=some ⟨b,o,s⟩->sv.ownBlock≠some b):NumA v sv p l:=by
 rcases h with h|⟨b,o,e,h⟩
 ·exact .inl (List.length_eq_zero_iff.1 h)
 ·exact .inr ⟨b,o,e,ha b o none e,h⟩
theorem NumA.grow{V w':World}{p:Option Addr}{n q g c' m:Nat}{pp:Option Addr}{l:List Int}(h:NumA V (.slice p n q) pp l)(hk:∀b,b<V.heap.size->(Value.slice p n q).ownBlock≠some b->w'.heap[b]? =V.heap[b]?)(hg:(Value.slice p n q).ownBlock=some g\/V.heap.size<g):NumA w' (.slice (some ⟨g,0,none⟩) m c') pp l:=by
 exact Zcm
structure CsO(B:Nat)(v:World)(sv:Value)(X:List Cl):Prop where
 own:v.ownsRow B 84 2 sv X.length (flat clC X)
 nums:∀x∈X,NumA v sv x.p x.h.pats
theorem CsO.below{B:Nat}{v v':World}{sv:Value}{X:List Cl}(h:CsO B v sv X)(k:Below v.heap.size v v'):CsO B v' sv X:=⟨Ziu h.own k,fun x hx=>(h.nums x hx).below k⟩
theorem CsO.cs{B:Nat}{v:World}{sv:Value}{X:List Cl}(h:CsO B v sv X):CsV v sv X:=⟨Zny Zry h.own,fun x hx=>(h.nums x hx).num⟩
theorem CsO.nil(B:Nat)(v:World):CsO B v (.slice none 0 0) []:=⟨World.ownsRow_nil _ _ _ 2,fun x hx=>by cases hx⟩
theorem CsO.push{B:Nat}{V:World}{p:Option Addr}{q:Nat}{X:List Cl}(h:CsO B V (.slice p X.length q) X)(hB:B<=V.heap.size)(hX:X.length<=16384)(x:Cl)(hx:NumA V (.slice p X.length q) x.p x.h.pats)(ty:TypeId):
 ∃g c' w',(Builtin.append_ #[36,36] ty #[.slice p X.length q,.slice (some ⟨V.heap.size,0,none⟩) 1 1]).run prog (V.alloc (.cells #[.slice x.p x.h.pats.length x.q,.int .i64 x.h.whole] 84))=.ok (.slice (some ⟨g,0,none⟩) (X.length+1) c') w'/\Below B V w'/\CsO B w' (.slice (some ⟨g,0,none⟩) (X.length+1) c') (X++[x])/\(∀b,b<V.heap.size->(Value.slice p X.length q).ownBlock≠some b->w'.heap[b]? =V.heap[b]?):=by
 obtain⟨g,c',w',hr,hb,ho,hk,hg⟩:=Zaat (V:=V) underlying36 Ztt rfl dE h.own hB #[.slice x.p x.h.pats.length x.q,.int .i64 x.h.whole] rfl (fun u hu=>Zaef x u hu) mL oM ty;refine⟨g,c',w',hr,hb,⟨?_,fun y hy=>?_⟩,hk⟩
 ·rw[List.length_append,Zrj];exact ho
 ·rcases List.mem_append.1 hy with e|e
  ·exact(h.nums y e).grow hk hg
  ·simp only[List.mem_singleton]at e;subst e;exact hx.grow hk hg
def f5(a b c d e:Value)(j:Nat):Value:=if j=0 then a else if j=1 then b else if j=2 then c else if j=3 then d else e
theorem Zpw(a b c d e:Value):∀i,i<(#[a,b,c,d,e]:Array Value).size->(#[a,b,c,d,e]:Array Value)[i]? =some (f5 a b c d e i):=by
 intro i hi;have hi':i<5:=hi;obtain rfl|rfl|rfl|rfl|rfl:i=0\/i=1\/i=2\/i=3\/i=4:=oM
 all_goals rfl
structure NW(w:World)(v0 v1 v2 v3:Value)(R:Nat)(sv:Value)(X:List Cl)(v:World):Prop where
 cx:CX w v0 v1 v2 v3 v
 rb:v.rowIs (w.heap.size+1) 38 5 (f5 (.slice none 0 0) (.slice none 0 0) (.slice none 0 0) (.slice none 0 0) (.slice none 0 0))
 rr:v.rowIs R 38 5 (f5 v0 v1 v2 v3 sv)
 cs:CsO (R+1) v sv X
 hR:w.heap.size+1<R
 ap:∀x∈X,∀b o s,x.p=some ⟨b,o,s⟩->R<b
theorem NW.next{w:World}{v0 v1 v2 v3:Value}{R:Nat}{sv:Value}{X:List Cl}{v v':World}(h:NW w v0 v1 v2 v3 R sv X v)(k:Below v.heap.size v v'):NW w v0 v1 v2 v3 R sv X v':=
 ⟨h.cx.next k,h.rb.of_block (k.block _ h.rb.lt),h.rr.of_block (k.block _ h.rr.lt),h.cs.below k,h.hR,h.ap⟩
theorem NW.put{w:World}{v0 v1 v2 v3:Value}{R:Nat}{sv:Value}{X:List Cl}{v w':World}{g n c':Nat}{Y:List Cl}(h:NW w v0 v1 v2 v3 R sv X v)(hb:Below (R+1) v w')(hc:CsO (R+1) w' (.slice (some ⟨g,0,none⟩) n c') Y)(hap:∀x∈Y,∀b o s,x.p=some ⟨b,o,s⟩->R<b):
 w'.cell? ⟨R,4,none⟩=some sv/\w'.frozen? ⟨R,4,none⟩=false/\NW w v0 v1 v2 v3 R (.slice (some ⟨g,0,none⟩) n c') Y (w'.setCell ⟨R,4,none⟩ (.slice (some ⟨g,0,none⟩) n c')):=by
 have hR:=h.hR;have hr':w'.rowIs R 38 5 (f5 v0 v1 v2 v3 sv):=h.rr.of_block (hb.block R (Nat.lt_succ_self _));have ho:∀b,b≠R->(w'.setCell ⟨R,4,none⟩ (.slice (some ⟨g,0,none⟩) n c')).heap[b]? =w'.heap[b]? :=fun b hne=>Below.heap_setCell _ _ _ _ hne;have hgR:g≠R:=fun e=>by have:=(hc.own.lt g rfl).1;omega
 refine⟨hr'.cell (i:=4) dE,hr'.frozen 4,(h.cx.on (hb.mono oM)).on ((Below.refl _ _).setCell (by show w.heap.size+1<=R;omega) _),(h.rb.of_block (hb.block _ oM)).setOther (by show w.heap.size+1≠R;omega) _,(hr'.set 4 _).congr (fun j hj=>?_),⟨Ziv hc.own (fun b hbb=>ho b Zhh),fun x hx=>?_⟩,h.hR,hap⟩
 ·have hj':j<5:=hj;obtain rfl|rfl|rfl|rfl|rfl:j=0\/j=1\/j=2\/j=3\/j=4:=oM
  all_goals simp[f5]
 ·rcases hc.nums x hx with e|⟨b,o,e,hn,h1⟩
  ·exact .inl e
  ·refine .inr ⟨b,o,e,hn,fun j hj=>?_⟩;have hne:b≠R:=by have:=hap x hx b o none e;omega
   rw[World.cell?_of_block (ho b hne)];exact h1 j hj
theorem Zagk(v0 v1 v2 v3:Value)(c:Cd)(hk:CdOk c)(w:World)(hv:CdV w v0 v1 v2 v3 c)(hc:(Zik c).1≠0):
 Calls prog 7 #[.agg #[v0,v1,v2,v3]] w fun e w'=>e=.returned (.tuple #[.agg #[.slice none 0 0,.slice none 0 0,.slice none 0 0,.slice none 0 0,.slice none 0 0],.int .i64 (Zik c).1])/\Below w.heap.size w w':=by
 have KC:=Ztn v0 v1 v2 v3 c hk;obtain⟨E,hE⟩:∃E,(Zik c).1=E:=⟨_,rfl⟩
 obtain⟨F,hF⟩:∃E,(Zik c).2=E:=⟨_,rfl⟩
 rw[hE,hF]at KC;rw[hE]at hc ⊢;have HKC:Hid (∀v,Below w.heap.size w v->Calls prog 21 #[.agg #[v0,v1,v2,v3]] v fun e w'=>e=.returned (.tuple #[.int .i64 E,.int .i64 F])/\Below v.heap.size v w'):=fun v hb=>KC v (hv.below hb);have h1:(E==0)=false:=by simpa using hc
 have h2:(E != 0)=true:=by simpa using hc
 have HX0:Hid (CX w v0 v1 v2 v3 ((w.alloc (.cells #[v0,v1,v2,v3] 27)).alloc (.cells #[.slice none 0 0,.slice none 0 0,.slice none 0 0,.slice none 0 0,.slice none 0 0] 38))):=(CX.start w v0 v1 v2 v3).next (Zhq _ _);obtain⟨b1,b2,c0,c1,c2,c3⟩:=HX0.out;have q:∀j,j<5->((w.alloc (.cells #[v0,v1,v2,v3] 27)).alloc (.cells #[.slice none 0 0,.slice none 0 0,.slice none 0 0,.slice none 0 0,.slice none 0 0] 38)).cell? ⟨w.heap.size+1,j,none⟩=some (.slice none 0 0)/\((w.alloc (.cells #[v0,v1,v2,v3] 27)).alloc (.cells #[.slice none 0 0,.slice none 0 0,.slice none 0 0,.slice none 0 0,.slice none 0 0] 38)).frozen? ⟨w.heap.size+1,j,none⟩=false:=fun j hj=>by
  obtain rfl|rfl|rfl|rfl|rfl:j=0\/j=1\/j=2\/j=3\/j=4:=oM
  all_goals simp[go_sem]
 have HQ:Hid (∀v,Below ((w.alloc (.cells #[v0,v1,v2,v3] 27)).alloc (.cells #[.slice none 0 0,.slice none 0 0,.slice none 0 0,.slice none 0 0,.slice none 0 0] 38)).heap.size ((w.alloc (.cells #[v0,v1,v2,v3] 27)).alloc (.cells #[.slice none 0 0,.slice none 0 0,.slice none 0 0,.slice none 0 0,.slice none 0 0] 38)) v->∀j,j<5->v.cell? ⟨w.heap.size+1,j,none⟩=some (.slice none 0 0)/\v.frozen? ⟨w.heap.size+1,j,none⟩=false):=fun v hb j hj=>⟨kc hb (q j hj).1,kf hb (q j hj).1 (q j hj).2⟩
 clear KC hE hF hc q;go_enter func7,ntmps7;go_wp2_with(go_at_call 21;(with_reducible refine(HKC.out _ HX0.out.bel).mono ?_);rintro e w1 ⟨rfl,hb1⟩;have HB1:Hid (Below w.heap.size w w1):=bel HX0.out.bel hb1;obtain⟨q0,z0⟩:=HQ.out w1 hb1 0 dE;obtain⟨q1,z1⟩:=HQ.out w1 hb1 1 dE;obtain⟨q2,z2⟩:=HQ.out w1 hb1 2 dE;obtain⟨q3,z3⟩:=HQ.out w1 hb1 3 dE;obtain⟨q4,z4⟩:=HQ.out w1 hb1 4 dE;clear hb1);refine bodyPost_ret (by simp[results,results7,go_sem, *];try rfl) rfl ?_;refine⟨rfl,?_⟩;exact((((HB1.out.setCell Zfp _).setCell Zfp _).setCell Zfp _).setCell Zfp _).setCell Zfp _
theorem CsO.off{B:Nat}{v v':World}{sv:Value}{X:List Cl}{Z R:Nat}(h:CsO B v sv X)(hZ:Z<R)(hB:R<B)(ap:∀x∈X,∀b o s,x.p=some ⟨b,o,s⟩->R<b)(k:∀b,b≠Z->v'.heap[b]? =v.heap[b]?):CsO B v' sv X:=by
 refine⟨Ziv h.own (fun b hb=>k b (by have:=(h.own.lt b hb).1;omega)),fun x hx=>?_⟩;rcases h.nums x hx with e|⟨b,o,e,hn,h1⟩
 ·exact .inl e
 ·have:=ap x hx b o none e;exact .inr ⟨b,o,e,hn,fun j hj=>by rw[World.cell?_of_block (k b oM)];exact h1 j hj⟩
theorem Zadp(v0 v1 v2 v3:Value)(c:Cd)(hk:CdOk c)(w:World)(hv:CdV w v0 v1 v2 v3 c)(hc:(Zik c).1=0):
 Calls prog 7 #[.agg #[v0,v1,v2,v3]] w fun e w'=>∃p q X,e=.returned (.tuple #[.agg #[v0,v1,v2,v3,.slice p c.slots.length q],.int .i64 0])/\X.map (·.h)=Zjm c/\CsV w' (.slice p c.slots.length q) X/\Below w.heap.size w w'/\(∀b o s,p=some ⟨b,o,s⟩->w.heap.size<=b)/\∀x∈X,∀b o s,x.p=some ⟨b,o,s⟩->w.heap.size<=b:=by
 have hg:=(Znv hc).1;have KC:=Ztn v0 v1 v2 v3 c hk;rw[hc]at KC;obtain⟨F,hF⟩:∃E,(Zik c).2=E:=⟨_,rfl⟩
 rw[hF]at KC;have HKC:Hid (∀v,Below w.heap.size w v->Calls prog 21 #[.agg #[v0,v1,v2,v3]] v fun e w'=>e=.returned (.tuple #[.int .i64 0,.int .i64 F])/\Below v.heap.size v w'):=fun v hb=>KC v (hv.below hb);have HKF:Hid (∀s∈c.slots,∀v,Below w.heap.size w v->Calls prog 22 #[.agg #[v0,v1,v2,v3],.agg #[.int .i64 s.ty.kind,.int .i64 s.ty.par,.bool s.keep,.int .u32 s.bits,.int .i64 s.int_]] v fun e w'=>∃p q,e=.returned (.agg #[.slice p (Ziy c s).pats.length q,.int .i64 (Ziy c s).whole])/\NumR w' p (Ziy c s).pats/\Below v.heap.size v w'/\∀b o s,p=some ⟨b,o,s⟩->v.heap.size<=b):=fun s hs v hb=>Zvs v0 v1 v2 v3 c hg s (hg.slots s hs) ⟨(hk.sbits s hs).1,(hk.sbits s hs).2⟩ v (hv.below hb);obtain⟨p0,q0,rfl,-⟩:=id hv.sign;obtain⟨p1,q1,rfl,-⟩:=id hv.regs;obtain⟨p2,q2,rfl,-⟩:=id hv.slots;obtain⟨p3,q3,rfl,-⟩:=id hv.list;have HSL:Hid (RowG 5 slC w (.slice p2 c.slots.length q2) c.slots):=hv.slots;have hn2:=hg.slotsL;obtain⟨n2,hnn⟩:∃n,c.slots.length=n:=⟨_,rfl⟩
 have HN2:Hid (c.slots.length=n2):=hnn;rw[hnn]at hn2 HKC HKF HSL ⊢;obtain⟨n0,hn0⟩:∃n,c.sign.length=n:=⟨_,rfl⟩
 obtain⟨n1,hn1⟩:∃n,c.regs.length=n:=⟨_,rfl⟩
 obtain⟨n3,hn3⟩:∃n,c.list.length=n:=⟨_,rfl⟩
 rw[hn0,hn1,hn3]at HKC HKF ⊢;have HX0:Hid (CX w (.slice p0 n0 q0) (.slice p1 n1 q1) (.slice p2 n2 q2) (.slice p3 n3 q3) ((w.alloc (.cells #[.slice p0 n0 q0,.slice p1 n1 q1,.slice p2 n2 q2,.slice p3 n3 q3] 27)).alloc (.cells #[.slice none 0 0,.slice none 0 0,.slice none 0 0,.slice none 0 0,.slice none 0 0] 38))):=(CX.start w (.slice p0 n0 q0) (.slice p1 n1 q1) _ (.slice p3 n3 q3)).next (Zhq _ _);have HRB0:Hid (((w.alloc (.cells #[.slice p0 n0 q0,.slice p1 n1 q1,.slice p2 n2 q2,.slice p3 n3 q3] 27)).alloc (.cells #[.slice none 0 0,.slice none 0 0,.slice none 0 0,.slice none 0 0,.slice none 0 0] 38)).rowIs (w.heap.size+1) 38 5 (f5 (.slice none 0 0) (.slice none 0 0) (.slice none 0 0) (.slice none 0 0) (.slice none 0 0))):=by
  have h9:=World.rowIs_alloc (w.alloc (.cells #[(.slice p0 n0 q0),(.slice p1 n1 q1),.slice p2 n2 q2,(.slice p3 n3 q3)] 27)) #[.slice none 0 0,.slice none 0 0,.slice none 0 0,.slice none 0 0,.slice none 0 0] 38 _ (Zpw _ _ _ _ _);rw[show(w.alloc (.cells #[(.slice p0 n0 q0),(.slice p1 n1 q1),.slice p2 n2 q2,(.slice p3 n3 q3)] 27)).heap.size=w.heap.size+1 by simp]at h9;exact h9
 obtain⟨b1,b2,c0,c1,c2,c3⟩:=HX0.out;clear KC hF hc hv hk hnn hn0 hn1 hn3;go_enter func7,ntmps7;go_wp2_with(go_at_call 21;(with_reducible refine(HKC.out _ HX0.out.bel).mono ?_);rintro e w1 ⟨rfl,hb1⟩;have HNW:Hid (NW w (.slice p0 n0 q0) (.slice p1 n1 q1) (.slice p2 n2 q2) (.slice p3 n3 q3) w1.heap.size (.slice none 0 0) [] (w1.alloc (.cells #[(.slice p0 n0 q0),(.slice p1 n1 q1),.slice p2 n2 q2,(.slice p3 n3 q3),.slice none 0 0] 38))):=(by have hcx:=HX0.out.next hb1;have hrb:=HRB0.out.of_block (hb1.block _ HRB0.out.lt);exact⟨hcx.next (Zhq _ _),hrb.alloc _,World.rowIs_alloc w1 _ _ _ (Zpw _ _ _ _ _),CsO.nil _ _,hrb.lt,fun x hx=>by cases hx⟩);obtain⟨-,-,c0,c1,c2,c3⟩:=HX0.out.next hb1;have a0:=(fun o=>kc (Zhq w1 o) c0);have a1:=(fun o=>kc (Zhq w1 o) c1);have a2:=(fun o=>kc (Zhq w1 o) c2);have a3:=(fun o=>kc (Zhq w1 o) c3);clear hb1);obtain⟨R,hR⟩:∃R,w1.heap.size=R:=⟨_,rfl⟩
 obtain⟨W1,hW1⟩:∃W,w1.alloc (.cells #[(.slice p0 n0 q0),(.slice p1 n1 q1),.slice p2 n2 q2,(.slice p3 n3 q3),.slice none 0 0] 38)=W:=⟨_,rfl⟩
 rw[hW1,hR]at HNW;try rw[hW1]
 try rw[hR]
 clear hW1 hR c0 c1 c2 c3 a0 a1 a2 a3 b1 b2 HRB0
 go_loopw [7] (fun iv wr=>∃ (j:Nat) (p:Option Addr) (q:Nat) (X:List Cl),j<=n2/\iv=.int .i64 (j:Int)/\Hid (NW w (.slice p0 n0 q0) (.slice p1 n1 q1) (.slice p2 n2 q2) (.slice p3 n3 q3) R (.slice p X.length q) X wr)/\Hid (X.map (·.h)=(Zjm c).take j)) (fun iv _=>n2-(intOf iv).toNat)
 case atStart=>exact⟨0,none,0,[],Nat.zero_le _,rfl,HNW.out,by show _=_;simp⟩
 case round=>
  obtain⟨j,p,q,X,hj,rfl,hnw,hmap⟩:=hrel;obtain⟨b1,b2,c0,c1,c2,c3⟩:=hnw.out.cx;have r4:wr.cell? ⟨R,4,none⟩=some (.slice p X.length q):=hnw.out.rr.cell (i:=4) dE;have hXl:X.length=j:=by
   have h5:=congrArg List.length hmap.out;rw[List.length_map,List.length_take,Zjm,List.length_map,HN2.out]at h5;omega
  clear HNW;by_cases hlt:j<n2
  ·have hll:j<c.slots.length:=by rw[HN2.out];exact hlt
   obtain⟨lb,lo,rfl,hx⟩:=HSL.out.at hll;have KF1:=HKF.out c.slots[j] (List.getElem_mem hll);have HMN:Hid (∀h',h'=Ziy c c.slots[j]->(X.map (·.h))++[h']=(Zjm c).take (j+1)):=fun h' e=>by
    rw[hmap.out,List.take_succ_eq_append_getElem (by rw[Zjm,List.length_map];exact hll),Zqz _ hll,e]
   obtain⟨s9,hs9⟩:∃s,c.slots[j]=s:=⟨_,rfl⟩
   rw[hs9]at hx KF1 HMN;obtain⟨H9,hH9⟩:∃h,Ziy c s9=h:=⟨_,rfl⟩
   rw[hH9]at KF1 HMN;obtain⟨⟨tk,tp⟩,kp,sb,si⟩:=s9;simp only at KF1;have y0:=kc b1 (hx.at 0 rfl);have y1:=kc b1 (hx.at 1 rfl);have y2:=kc b1 (hx.at 2 rfl);have y3:=kc b1 (hx.at 3 rfl);have y4:=kc b1 (hx.at 4 rfl);rw[Nat.add_zero]at y0;simp only[slC]at hx;have HKF1:Hid _:=KF1;have HXW:Hid (Zhw w lb (lo+j*5) (slC ⟨⟨tk,tp⟩,kp,sb,si⟩)):=hx;obtain⟨N,hN⟩:∃N,X.length=N:=⟨_,rfl⟩
   have HNX:Hid (X.length=N):=hN;have hnw2:=hnw.out;rw[hN]at r4 hnw2;have HNW2:Hid _:=hnw2;try rw[hN]
   have i1:(0:Int)<=(j:Int):=oM;have i2:(j:Int)<(n2:Int):=oM;have wi:IntKind.i64.wrap ((j:Int)+1)=((j+1:Nat):Int):=by rw[IntKind.wrap_i64];omega
   have HXL:Hid (X.length=j):=hXl;clear KF1 hx hs9 hH9 hnw2 hN hmap hXl;go_wp2;refine rG (fun v=>v.cell? ⟨w.heap.size,0,none⟩=some (.slice p0 n0 q0)/\v.cell? ⟨w.heap.size,1,none⟩=some (.slice p1 n1 q1)/\v.cell? ⟨w.heap.size,2,none⟩=some (.slice (some ⟨lb,lo,none⟩) n2 q2)/\v.cell? ⟨w.heap.size,3,none⟩=some (.slice p3 n3 q3)/\v.cell? ⟨lb,lo+j*5,none⟩=some (.int .i64 tk)/\v.cell? ⟨lb,lo+j*5+1,none⟩=some (.int .i64 tp)/\v.cell? ⟨lb,lo+j*5+2,none⟩=some (.bool kp)/\v.cell? ⟨lb,lo+j*5+3,none⟩=some (.int .u32 sb)/\v.cell? ⟨lb,lo+j*5+4,none⟩=some (.int .i64 si)) fun hHeld=>?_;refine Tf 0 2 3 4 5 6 ?_;refine tkT 7 ?_;clear hHeld;refine wpAnyH_ready (rs:=[1,8]) kR sM ?_;refine ryC 1 (fun K hK=>?_) ?_
   ·go_simp;refine okK hK fun hHeld=>?_;clear hK K;clear hHeld;refine ry1 8 fun K hK=>?_;go_simp;(go_at_call 22;(with_reducible refine(HKF1.out _ (bel b1 (Zhs _))).mono ?_);rintro e w2 ⟨pf,qf,rfl,hnum,hb2,hfr⟩;have hb22:Below wr.heap.size wr w2:=bel (Zhs _) hb2;have h22:=hnw.out.next hb22;obtain⟨g,c',w3,hrun,hb3,hcs3,hoth⟩:=h22.cs.push (Nat.succ_le_of_lt h22.rr.lt) (by have h5:=HXL.out;omega) ⟨pf,qf,H9⟩ (hnum.apart (fun b o s e e2=>by have h5:=hfr b o s e;have h6:=(hnw.out.cs.own.lt b e2).2;have h7:wr.drew.heap.size=wr.heap.size:=rfl;omega)) 36;have hap3:∀x∈X++[(⟨pf,qf,H9⟩:Cl)],∀b o s,x.p=some ⟨b,o,s⟩->R<b:=(by intro x hx b o s e;rcases List.mem_append.1 hx with h|h;exact hnw.out.ap x h b o s e;simp only[List.mem_singleton]at h;subst h;have h5:=hfr b o s e;have h6:=hnw.out.rr.lt;have h7:wr.drew.heap.size=wr.heap.size:=rfl;omega);obtain⟨k4,z4,hnw3⟩:=h22.put hb3 hcs3 hap3;rw[HNX.out]at hrun k4 hnw3;have HRUN:Hid _:=hrun;have HNW3:Hid (NW w (.slice p0 n0 q0) (.slice p1 n1 q1) (.slice (some ⟨lb,lo,none⟩) n2 q2) (.slice p3 n3 q3) R (.slice (some ⟨g,0,none⟩) (N+1) c') (X++[(⟨pf,qf,H9⟩:Cl)]) (w3.setCell ⟨R,4,none⟩ (.slice (some ⟨g,0,none⟩) (N+1) c'))):=hnw3;have hcx2:=h22.cx;have hcx3:=hcx2.on (hb3.mono (by have:=h22.hR;omega));obtain⟨b21,-,d0,d1,d2,d3⟩:=hcx2;obtain⟨b31,-,e0,e1,e2,e3⟩:=hcx3;have u4:w2.cell? ⟨R,4,none⟩=some (.slice p N q):=Zha;have g0:=(fun o=>kc (Zhq w2 o) d0);have g1:=(fun o=>kc (Zhq w2 o) d1);have g2:=(fun o=>kc (Zhq w2 o) d2);have g3:=(fun o=>kc (Zhq w2 o) d3);have g4:=(fun o=>kc (Zhq w2 o) u4);have m0:=kc b21 (HXW.out.at 0 rfl);have m1:=kc b21 (HXW.out.at 1 rfl);have m2:=kc b21 (HXW.out.at 2 rfl);have m3:=kc b21 (HXW.out.at 3 rfl);have m4:=kc b21 (HXW.out.at 4 rfl);rw[Nat.add_zero]at m0;have l0:=(fun o=>kc (Zhq w2 o) m0);have l1:=(fun o=>kc (Zhq w2 o) m1);have l2:=(fun o=>kc (Zhq w2 o) m2);have l3:=(fun o=>kc (Zhq w2 o) m3);have l4:=(fun o=>kc (Zhq w2 o) m4);have t0:=kc b31 (HXW.out.at 0 rfl);have t1:=kc b31 (HXW.out.at 1 rfl);have t2:=kc b31 (HXW.out.at 2 rfl);have t3:=kc b31 (HXW.out.at 3 rfl);have t4:=kc b31 (HXW.out.at 4 rfl);rw[Nat.add_zero]at t0;obtain⟨b41,-,o0,o1,o2,o3⟩:=HNW3.out.cx;have x0:(w3.setCell ⟨R,4,none⟩ (.slice (some ⟨g,0,none⟩) (N+1) c')).cell? ⟨lb,lo+j*5,none⟩=some (.int .i64 tk):=kc b41 (HXW.out.at 0 rfl);have x1:=kc b41 (HXW.out.at 1 rfl);have x2:=kc b41 (HXW.out.at 2 rfl);have x3:=kc b41 (HXW.out.at 3 rfl);have x4:=kc b41 (HXW.out.at 4 rfl);clear b41 hnum hb2 hfr hb22 h22 hrun hb3 hcs3 hoth hap3 hnw3 b21 b31);try(go_wp2_with fail)
    refine okK hK fun hHeld=>?_;clear hK K;clear hHeld;refine ry1 9 fun K hK=>?_;exact Zbf
   refine ryC 8 (fun K hK=>?_) AllReadyH.nil;go_simp;(go_at_call 22;(with_reducible refine(HKF1.out _ (bel b1 (Zhs _))).mono ?_);rintro e w2 ⟨pf,qf,rfl,hnum,hb2,hfr⟩;have hb22:Below wr.heap.size wr w2:=bel (Zhs _) hb2;have h22:=hnw.out.next hb22;obtain⟨g,c',w3,hrun,hb3,hcs3,hoth⟩:=h22.cs.push (Nat.succ_le_of_lt h22.rr.lt) (by have h5:=HXL.out;omega) ⟨pf,qf,H9⟩ (hnum.apart (fun b o s e e2=>by have h5:=hfr b o s e;have h6:=(hnw.out.cs.own.lt b e2).2;have h7:wr.drew.heap.size=wr.heap.size:=rfl;omega)) 36;have hap3:∀x∈X++[(⟨pf,qf,H9⟩:Cl)],∀b o s,x.p=some ⟨b,o,s⟩->R<b:=(by intro x hx b o s e;rcases List.mem_append.1 hx with h|h;exact hnw.out.ap x h b o s e;simp only[List.mem_singleton]at h;subst h;have h5:=hfr b o s e;have h6:=hnw.out.rr.lt;have h7:wr.drew.heap.size=wr.heap.size:=rfl;omega);obtain⟨k4,z4,hnw3⟩:=h22.put hb3 hcs3 hap3;rw[HNX.out]at hrun k4 hnw3;have HRUN:Hid _:=hrun;have HNW3:Hid (NW w (.slice p0 n0 q0) (.slice p1 n1 q1) (.slice (some ⟨lb,lo,none⟩) n2 q2) (.slice p3 n3 q3) R (.slice (some ⟨g,0,none⟩) (N+1) c') (X++[(⟨pf,qf,H9⟩:Cl)]) (w3.setCell ⟨R,4,none⟩ (.slice (some ⟨g,0,none⟩) (N+1) c'))):=hnw3;have hcx2:=h22.cx;have hcx3:=hcx2.on (hb3.mono (by have:=h22.hR;omega));obtain⟨b21,-,d0,d1,d2,d3⟩:=hcx2;obtain⟨b31,-,e0,e1,e2,e3⟩:=hcx3;have u4:w2.cell? ⟨R,4,none⟩=some (.slice p N q):=Zha;have g0:=(fun o=>kc (Zhq w2 o) d0);have g1:=(fun o=>kc (Zhq w2 o) d1);have g2:=(fun o=>kc (Zhq w2 o) d2);have g3:=(fun o=>kc (Zhq w2 o) d3);have g4:=(fun o=>kc (Zhq w2 o) u4);have m0:=kc b21 (HXW.out.at 0 rfl);have m1:=kc b21 (HXW.out.at 1 rfl);have m2:=kc b21 (HXW.out.at 2 rfl);have m3:=kc b21 (HXW.out.at 3 rfl);have m4:=kc b21 (HXW.out.at 4 rfl);rw[Nat.add_zero]at m0;have l0:=(fun o=>kc (Zhq w2 o) m0);have l1:=(fun o=>kc (Zhq w2 o) m1);have l2:=(fun o=>kc (Zhq w2 o) m2);have l3:=(fun o=>kc (Zhq w2 o) m3);have l4:=(fun o=>kc (Zhq w2 o) m4);have t0:=kc b31 (HXW.out.at 0 rfl);have t1:=kc b31 (HXW.out.at 1 rfl);have t2:=kc b31 (HXW.out.at 2 rfl);have t3:=kc b31 (HXW.out.at 3 rfl);have t4:=kc b31 (HXW.out.at 4 rfl);rw[Nat.add_zero]at t0;obtain⟨b41,-,o0,o1,o2,o3⟩:=HNW3.out.cx;have x0:(w3.setCell ⟨R,4,none⟩ (.slice (some ⟨g,0,none⟩) (N+1) c')).cell? ⟨lb,lo+j*5,none⟩=some (.int .i64 tk):=kc b41 (HXW.out.at 0 rfl);have x1:=kc b41 (HXW.out.at 1 rfl);have x2:=kc b41 (HXW.out.at 2 rfl);have x3:=kc b41 (HXW.out.at 3 rfl);have x4:=kc b41 (HXW.out.at 4 rfl);clear b41 hnum hb2 hfr hb22 h22 hrun hb3 hcs3 hoth hap3 hnw3 b21 b31);try(go_wp2_with fail)
   refine okK hK fun hHeld=>?_;clear hK K;clear hHeld;refine wpAnyH_ready (rs:=[1,9]) kR sM ?_;refine ryC 1 (fun K hK=>?_) ?_
   ·go_simp;refine okK hK fun hHeld=>?_;clear hK K;clear hHeld;refine ry1 9 fun K hK=>?_;exact Zbf
   refine ryC 9 (fun K hK=>?_) AllReadyH.nil;go_simp;refine okK hK fun hHeld=>?_;clear hK K;clear hHeld;refine ry1 1 fun K hK=>?_;exact Zbf
  ·have hjn:j=n2:=oM;have HMF:Hid (X.map (·.h)=Zjm c):=by
    show _=_;have h5:=hmap.out;rw[hjn,←HN2.out,List.take_of_length_le (by rw[Zjm,List.length_map];exact Nat.le_refl _)]at h5;exact h5
   have e1:¬ (j:Int)<(n2:Int):=oM;have r0:wr.cell? ⟨R,0,none⟩=some (.slice p0 n0 q0):=hnw.out.rr.cell (i:=0) dE;have r1:wr.cell? ⟨R,1,none⟩=some (.slice p1 n1 q1):=hnw.out.rr.cell (i:=1) dE;have r2:wr.cell? ⟨R,2,none⟩=some (.slice p2 n2 q2):=hnw.out.rr.cell (i:=2) dE;have r3:wr.cell? ⟨R,3,none⟩=some (.slice p3 n3 q3):=hnw.out.rr.cell (i:=3) dE;have k0:wr.cell? ⟨w.heap.size+1,0,none⟩=some (.slice none 0 0):=hnw.out.rb.cell (i:=0) dE;have k1:wr.cell? ⟨w.heap.size+1,1,none⟩=some (.slice none 0 0):=hnw.out.rb.cell (i:=1) dE;have k2:wr.cell? ⟨w.heap.size+1,2,none⟩=some (.slice none 0 0):=hnw.out.rb.cell (i:=2) dE;have k3:wr.cell? ⟨w.heap.size+1,3,none⟩=some (.slice none 0 0):=hnw.out.rb.cell (i:=3) dE;have k4:wr.cell? ⟨w.heap.size+1,4,none⟩=some (.slice none 0 0):=hnw.out.rb.cell (i:=4) dE;have z0:=hnw.out.rb.frozen 0;have z1:=hnw.out.rb.frozen 1;have z2:=hnw.out.rb.frozen 2;have z3:=hnw.out.rb.frozen 3;have z4:=hnw.out.rb.frozen 4;have hne:R≠w.heap.size+1:=by have:=hnw.out.hR;omega
   obtain⟨N,hN⟩:∃N,X.length=N:=⟨_,rfl⟩
   have HNX:Hid (X.length=N):=hN;rw[hN]at r4;clear hlt hmap hXl hN;go_wp2;refine bodyPost_ret (by simp[results,results7,go_sem, *];try rfl) rfl ?_;have ho:∀ (a b c d e:Value) (x:Nat),x≠w.heap.size+1->(((((wr.setCell ⟨w.heap.size+1,0,none⟩ a).setCell ⟨w.heap.size+1,1,none⟩ b).setCell ⟨w.heap.size+1,2,none⟩ c).setCell ⟨w.heap.size+1,3,none⟩ d).setCell ⟨w.heap.size+1,4,none⟩ e).heap[x]? =wr.heap[x]? :=fun a b c d e x hx=>by
    rw[Below.heap_setCell _ _ _ _ hx,Below.heap_setCell _ _ _ _ hx,Below.heap_setCell _ _ _ _ hx,Below.heap_setCell _ _ _ _ hx,Below.heap_setCell _ _ _ _ hx]
   have HNN:N=n2:=by
    have h5:=congrArg List.length HMF.out;rw[List.length_map,Zjm,List.length_map,HN2.out,HNX.out]at h5;exact h5
   refine⟨p,q,by rw[HNN],X,HMF.out,?_,?_,fun b o s e=>?_,fun x hx b o s e=>by have h5:=hnw.out.ap x hx b o s e;have h6:=hnw.out.hR;omega⟩
   rotate_right 1
   ·have h5:=Znt hnw.out.cs.own b o s e;have h6:=hnw.out.hR;omega
   ·rw[←HNN,←HNX.out];exact(hnw.out.cs.off (Z:=w.heap.size+1) (by have:=hnw.out.hR;omega) (Nat.lt_succ_self _) hnw.out.ap (ho _ _ _ _ _)).cs
   ·exact((((hnw.out.cx.bel.setCell Zfp _).setCell Zfp _).setCell Zfp _).setCell Zfp _).setCell Zfp _
def patC(l:List Int):List Value:=l.map fun x=>.int .u32 x
theorem Zra(l:List Int)(x:Int):patC (l++[x])=patC l++[.int .u32 x]:=by simp[patC]
theorem Zxs{w:World}{B:Nat}{p:Option Addr}{q:Nat}{l:List Int}(h:w.ownsRow B 43 1 (.slice p l.length q) l.length (patC l)):Zio w p l.length (fun j=>.int .u32 (atL l j)):=by
 by_cases h0:l.length=0
 ·exact .inl h0
 ·obtain⟨g,cap,e,_⟩:=h.form oM;simp only[Value.slice.injEq]at e;obtain⟨rfl,-,-⟩:=e;refine .inr ⟨g,0,rfl,fun j hj=>?_⟩;rw[Nat.zero_add,h.cellAt j oM];simp[patC,atL,hj]
theorem Zsr:(prog.info? 43).map (fun i=>(i.zero,i.size,i.bytes))=some (some (.int .u32 0),1,4):=kR
theorem Zadr(v0 v1 v2 v3:Value)(p:Option Addr)(L q:Nat)(hL:L<=16384)(n:Int)(hn:n<0\/(L:Int)<=n)(w:World):
 Calls prog 24 #[.agg #[v0,v1,v2,v3,.slice p L q],.int .i64 n] w fun e w'=>e=.returned (.tuple #[.slice none 0 0,.int .i64 0,.int .i64 1])/\Below w.heap.size w w':=by
 by_cases h0:n<0
 ·clear hn;exact Zet
 ·have h1:(L:Int)<=n:=oM;have h2:0<=n:=oM;clear hn h0;exact Zet
theorem Zabc(v0 v1 v2 v3:Value)(u:Value)(X:List Cl)(hX:X.length<=16384)(k:Nat)(hk:k<X.length)(hP:∀y∈X[k].h.pats,IsP y)(hl:X[k].h.pats.length<=4096)(w:World)(h:CsV w u X):
 Calls prog 24 #[.agg #[v0,v1,v2,v3,u],.int .i64 (k:Int)] w fun e w'=>∃p q,e=.returned (.tuple #[.slice p X[k].h.pats.length q,.int .i64 X[k].h.whole,.int .i64 0])/\Zio w' p X[k].h.pats.length (fun j=>.int .u32 (atL X[k].h.pats j))/\Below w.heap.size w w'/\∀b o s,p=some ⟨b,o,s⟩->w.heap.size<=b:=by
 obtain⟨pu,qu,rfl,-⟩:=id h.row;obtain⟨b,o,rfl,hc⟩:=h.row.at hk;have hnum:=h.nums X[k] (List.getElem_mem hk);obtain⟨⟨px,qx,⟨pats,wh⟩⟩,hx⟩:∃x,X[k]=x:=⟨_,rfl⟩
 rw[hx]at hc hnum hP hl ⊢;simp only at hnum hP hl ⊢;have y0:w.cell? ⟨b,o+k*2,none⟩=some (.slice px pats.length qx):=hc.at 0 rfl;have y1:w.cell? ⟨b,o+k*2+1,none⟩=some (.int .i64 wh):=hc.at 1 rfl;have HNUM:Hid (NumR w px pats):=hnum;have HP:Hid (∀j,IsP (atL pats j)):=fun j=>Zke hP j;obtain⟨N,hN⟩:∃N,X.length=N:=⟨_,rfl⟩
 obtain⟨M,hM⟩:∃M,pats.length=M:=⟨_,rfl⟩
 have HM:Hid (pats.length=M):=hM;rw[hN]at hk hX ⊢;rw[hM]at y0 hl ⊢;have HC:Hid (∀v,Below (w.alloc (.cells #[v0,v1,v2,v3,.slice (some ⟨b,o,none⟩) N qu] 38)).heap.size (w.alloc (.cells #[v0,v1,v2,v3,.slice (some ⟨b,o,none⟩) N qu] 38)) v->v.cell? ⟨w.heap.size,4,none⟩=some (.slice (some ⟨b,o,none⟩) N qu)/\v.cell? ⟨b,o+k*2,none⟩=some (.slice px M qx)/\v.cell? ⟨b,o+k*2+1,none⟩=some (.int .i64 wh)):=fun v hb=>⟨kc hb sG,kc (bel (Zhq _ _) hb) y0,kc (bel (Zhq _ _) hb) y1⟩
 obtain⟨W0,hW0⟩:∃W,w.alloc (.cells #[v0,v1,v2,v3,.slice (some ⟨b,o,none⟩) N qu] 38)=W:=⟨_,rfl⟩
 have HW0:Hid (Below w.heap.size w W0):=by rw[←hW0];exact Zhq _ _
 rw[hW0]at HC;have g4:=(HC.out _ (bel0 _)).1;have k0:(0:Int)<=(k:Int):=oM;have k1:(k:Int)<(N:Int):=oM;have hB1:decide (N<=k)=false:=sO;have hB2:decide ((k:Int)<0)=false:=sM;clear h hc hnum hP hx hN hM y0 y1;go_enter func24,ntmps24;go_wp2;try simp only[hB1,hB2,Bool.or_false]
 clear hW0 g4
 go_loopw [7,8] (fun ov iv wr=>Below W0.heap.size W0 wr/\∃ (j:Nat) (pp:Option Addr) (qq:Nat),j<=M/\iv=.int .i64 (j:Int)/\ov=.slice pp j qq/\Hid (wr.ownsRow W0.heap.size 43 1 (.slice pp j qq) j (patC (pats.take j)))) (fun _ iv _=>M-(intOf iv).toNat)
 case atStart=>exact⟨bel0 _,0,none,0,Nat.zero_le _,rfl,rfl,World.ownsRow_nil _ _ _ 1⟩
 case round=>
  obtain⟨hb,j,pp,qq,hj,rfl,rfl,how⟩:=hrel;obtain⟨c4,d0,d1⟩:=HC.out wr hb;have HB:Hid (Below W0.heap.size W0 wr):=hb;by_cases hlt:j<M
  ·have hll:j<pats.length:=by rw[HM.out];exact hlt
   rcases HNUM.out with h0|⟨bx,ox,rfl,hcell⟩
   ·omega
   have hc:=hcell j hll;simp only at hc;have y:=kc (bel HW0.out hb) hc;have hP:=HP.out j;obtain⟨g,c',w8,hap,hb8,ho8,-⟩:=Zpb (V:=wr) underlying57 Zsr rfl dE how.out hb.size #[.int .u32 (atL pats j)] rfl Zga mL oM 57;have HNX:Hid (w8.ownsRow W0.heap.size 43 1 (.slice (some ⟨g,0,none⟩) (j+1) c') (j+1) (patC (pats.take (j+1)))):=by
    show World.ownsRow _ _ _ _ _ _ _;have e9:atL pats j=pats[j]:=by simp[atL,hll]
    rw[List.take_succ_eq_append_getElem hll,Zra,←e9];exact ho8
   have HB8:Hid (Below W0.heap.size wr w8):=hb8;have HAP:Hid _:=hap;obtain⟨z,hz⟩:∃z,atL pats j=z:=⟨_,rfl⟩
   rw[hz]at y hP HAP;have t0:(j:Int)<(M:Int):=oM;have t1:(0:Int)<=(j:Int):=oM;have t5:IntKind.i64.wrap ((j:Int)+1)=((j+1:Nat):Int):=by rw[IntKind.wrap_i64];omega
   have t6:IntKind.u32.wrap z=z:=by rw[IntKind.wrap_u32];have:=hP.1;have:=hP.2;omega
   clear hap hb8 ho8 hc hcell hz hb how hll;go_wp2_with(at_builtin;refine Zit rF _ _ _ rF _ _ _ rF rF HAP.out ?_);go_roundw
   case rel=>
    exact⟨HB.out.trans HB8.out,j+1,_,_,oM,gN,rfl,HNX.out⟩
   case measure=>simp[intOf];omega
  have hjn:j=M:=oM;have e1:¬ (j:Int)<(M:Int):=oM;have HOW:Hid (wr.ownsRow W0.heap.size 43 1 (.slice pp pats.length qq) pats.length (patC pats)):=by
   show World.ownsRow _ _ _ _ _ _ _;have h5:=how.out;rw[hjn,←HM.out,List.take_length]at h5;exact h5
  have HJ:Hid (j=M):=hjn;clear how hlt hjn;go_wp2;refine rG (fun v=>v.cell? ⟨w.heap.size,4,none⟩=some (.slice (some ⟨b,o,none⟩) N qu)/\v.cell? ⟨b,o+k*2+1,none⟩=some (.int .i64 wh)) fun hHeld=>?_;refine Tf 0 1 2 3 4 5 ?_;refine Tc 6 7 8 ?_;refine tkT 9 ?_;refine wpAnyH_done kR ?_ _;go_wp2;refine bodyPost_ret (by simp[results,results24,go_sem];try rfl) rfl ?_;have hrd:=Zxs HOW.out;rw[HM.out]at hrd;have hbw:Below w.heap.size w wr:=bel HW0.out HB.out;refine⟨pp,qq,by rw[HJ.out],hrd,Zmu hbw,fun b o s e=>?_⟩;have h5:=(HOW.out.lt b (by rw[e];rfl)).1;have h6:=HW0.out.size;omega
end Go.Proofs.YtbinohkcolcbfaaGreat
