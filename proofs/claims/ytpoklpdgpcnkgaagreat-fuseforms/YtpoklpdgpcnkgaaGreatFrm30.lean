import Derived.Test.YtpoklpdgpcnkgaaGreatFrm28
import Derived.Test.YtpoklpdgpcnkgaaGreatFrm11
import Derived.Test.YtpoklpdgpcnkgaaGreatFrm18
import Derived.Deep.DeepCutAuto
import Derived.Test.YtpoklpdgpcnkgaaGreatFrm9
import Derived.Test.YtpoklpdgpcnkgaaGreatFrm1
namespace Go.Proofs.YtpoklpdgpcnkgaaGreat
open Go.RowKit Go.Proofs.Tryz
set_option linter.all false
set_option maxRecDepth 100000
set_option maxHeartbeats 16000000

theorem SI(l:List Ab)(i:Ab):AR (l++[i])=if i.op=36\/i.op=37 then AR l else AR l++[i]:=by
 rw[E3];by_cases h:i.op=36\/i.op=37
 .rw[if_pos h];have:CZ i=true:=by unfold CZ;simpa using h
  unfold AR;simp[this]
 .rw[if_neg h];have:CZ i=false:=by unfold CZ;simp;omega
  congr 1;unfold AR;simp[this]
theorem Rg(l:List Ab):(AR l).length<=l.length:=List.length_filter_le ..
theorem JK(l:List Ab)(hL:l.length<=40000)(p:Option Addr)(q:Nat)(w:World)(hl:AM 7 Cv w (.slice p l.length q) l):
 Calls prog 15 #[.slice p l.length q] w fun e w'=>∃p' q',e=.returned (.slice p' (AR l).length q')/\w'.ownsRow w.heap.size 45 7 (.slice p' (AR l).length q') (AR l).length (AF Cv (AR l))/\Below w.heap.size w w':=by
 have HL:=A8 hl;obtain⟨N,hN⟩:=gA (l.length)
 have HN:=A8 hN;simp only[hN]at hL HL |-;obtain⟨E,hE⟩:=gA (w.heap.size)
 have HE:=A8 hE;rw[hE];clear hl hN hE;go_enter func15,ntmps15;go_wp2
 go_loopw [3,4] (fun ov iv wx=>∃ (k:Nat) (po:Option Addr) (qo:Nat),k<=N/\iv=.int .i64 (k:Int)/\ov=.slice po (AR (l.take k)).length qo/\Hid (Below E w wx/\E<=wx.heap.size/\wx.ownsRow E 45 7 (.slice po (AR (l.take k)).length qo) (AR (l.take k)).length (AF Cv (AR (l.take k))))) (fun _ iv _=>N-(intOf iv).toNat)
 case atStart=>exact⟨0,none,0,gI _,rfl,by rw[List.take_zero];rfl,by rw[<-HE.out];exact BG _,by have:=HE.out;omega,by rw[List.take_zero];exact World.ownsRow_nil _ _ _ 7⟩
 case round=>
  rename World=>wa;obtain⟨k,po,qo,hk,rfl,rfl,HJ⟩:=hrel;obtain⟨hb,hle,hown⟩:=HJ.out;have hbw:Below w.heap.size w wa:=by rw[HE.out];exact hb
  by_cases hlt:k<N
  .have hkl:k<l.length:=by have:=HN.out;omega
   obtain⟨lb,lo,rfl,hcl⟩:=(HL.below hbw).at hkl;have htk:=List.take_succ_eq_append_getElem hkl;have hbl:(AR (l.take k)).length<=40000:=gH (Rg _) (by rw[List.length_take];omega);obtain⟨⟨op,d,a,b,e,n,z⟩,hi⟩:∃i,l[k]=i:=⟨_,rfl⟩
   rw[hi]at hcl htk;have hsn:=SI (l.take k) ⟨op,d,a,b,e,n,z⟩;rw[<-htk]at hsn;simp only at hsn;have y0:=hcl.at 0 (v:=.int .i64 op) rfl;rw[Nat.add_zero]at y0;have y1:=hcl.at 1 (v:=.int .i64 d) rfl;have y2:=hcl.at 2 (v:=.int .i64 a) rfl;have y3:=hcl.at 3 (v:=.int .i64 b) rfl;have y4:=hcl.at 4 (v:=.int .i64 e) rfl;have y5:=hcl.at 5 (v:=.int .i64 n) rfl;have y6:=hcl.at 6 (v:=.int .u32 z) rfl;obtain⟨P,hP⟩:∃x,AR (l.take k)=x:=⟨_,rfl⟩
   rw[hP]at hsn hbl hown HJ |-;have i1:(0:Int)<=(k:Int):=oM;have i2:(k:Int)<(N:Int):=oM;have wi:IntKind.i64.wrap ((k:Int)+1)=((k+1:Nat):Int):=by rw[IntKind.wrap_i64];omega
   by_cases o:op=36\/op=37
   .rw[if_pos o]at hsn;have HSN:=A8 hsn;clear hcl hi htk hsn hP hb hle hown hbw;rcases o with o|o
    all_goals
     subst o;go_wp2;go_roundw
     case rel=>exact⟨k+1,po,qo,oM,gN,by rw[HSN.out],by rw[HSN.out];exact HJ.out⟩
     case measure=>simp[intOf];omega
   .rw[if_neg o]at hsn;have HSN:=A8 hsn;have o1:(op != 36)=true:=sO;have o2:(op != 37)=true:=sO;have o3:(op==36)=false:=sO;have o4:(op==37)=false:=sO;obtain⟨g,cq,w6,hr,hb6,ho6,hoth,hat⟩:=I1 (t:=25) (e:=45) underlying25 Fh rF dE hown hle #[.int .i64 op,.int .i64 d,.int .i64 a,.int .i64 b,.int .i64 e,.int .i64 n,.int .u32 z] rfl UL mL oM 25;have HR:=A8 hr;have HO6:Hid (Below E w w6/\E<=w6.heap.size/\w6.ownsRow E 45 7 (.slice (some ⟨g,0,none⟩) (AR (l.take (k+1))).length cq) (AR (l.take (k+1))).length (AF Cv (AR (l.take (k+1))))):=by
     refine⟨hb.trans hb6,gH hle hb6.size,?_⟩;rw[HSN.out,List.length_append,show AF Cv (P++[⟨op,d,a,b,e,n,z⟩])=AF Cv P++[.int .i64 op,.int .i64 d,.int .i64 a,.int .i64 b,.int .i64 e,.int .i64 n,.int .u32 z] by simp[AF,Cv]];exact ho6
    have HLN:Hid ((AR (l.take (k+1))).length=P.length+1):=by show _=_;rw[HSN.out,List.length_append];rfl
    clear hcl hi htk hsn hP hb hle hown hbw hr hb6 ho6 hoth hat o HJ;go_wp2_with(at_builtin;refine Ar rF _ _ _ rF _ _ _ rF rF HR.out ?_);go_roundw
    case rel=>exact⟨k+1,some ⟨g,0,none⟩,cq,oM,gN,by rw[HLN.out],HO6.out⟩
    case measure=>simp[intOf];omega
  .have e9:¬ (k:Int)<(N:Int):=oM;have hke:k=l.length:=by have:=HN.out;omega
   have HQ:Hid (AR (l.take k)=AR l):=by show _=_;rw[hke,List.take_length]
   clear hlt hke hb hle hown hbw;go_wp2;go_ret;exact⟨po,qo,by rw[<-HQ.out];try rfl,by rw[<-HQ.out];exact HJ.2.2,HJ.1⟩
def Rm(x:Ab):List Ab->List Bool->Nat
 |y::l,u::us=>(if u=true/\y=x then 1 else 0)+Rm x l us
 |_,_=>0
theorem Rn(x:Ab):∀ (b:List Ab) (us:List Bool),us.length=b.length->Rm x b us<b.count x->∃k,∃ (h:k<b.length) (h':k<us.length),us[k]=false/\b[k]=x
 |[],us,_,h=>by simp[Rm]at h
 |y::b,[],h,_=>by simp at h
 |y::b,u::us,hl,h=>by
  rw[List.count_cons]at h;unfold Rm at h;have hl':us.length=b.length:=by simpa using hl
  have rest:Rm x b us<b.count x->∃k,∃ (h:k<(y::b).length) (h':k<(u::us).length),(u::us)[k]=false/\(y::b)[k]=x:=fun h2=>by
   obtain⟨k,h3,h4,h5,h6⟩:=Rn x b us hl' h2;exact⟨k+1,by simpa using h3,by simpa using h4,by simpa using h5,by simpa using h6⟩
  by_cases e:y=x
  .cases u with
   |false=>exact⟨0,sM,sM,rfl,e⟩
   |true=>
    rw[if_pos ⟨rfl,e⟩,if_pos Zhk]at h;exact rest oM
  .rw[if_neg (fun q=>e q.2),if_neg Zhk]at h;exact rest oM
theorem Vf(x:Ab):∀ (b:List Ab) (us:List Bool) (k:Nat) (h:k<b.length) (h':k<us.length),us[k]=false->Rm x b (us.set k true)=Rm x b us+(if b[k]=x then 1 else 0)
 |[],us,k,h,_,_=>by simp at h
 |y::b,[],k,_,h,_=>by simp at h
 |y::b,u::us,0,_,_,hu=>by
  have hu':u=false:=hu;subst hu';show(if true=true/\y=x then 1 else 0)+Rm x b us=(if false=true/\y=x then 1 else 0)+Rm x b us+(if y=x then 1 else 0);by_cases e:y=x
  .rw[if_pos ⟨rfl,e⟩,if_neg sM,if_pos e];omega
  .rw[if_neg (fun q=>e q.2),if_neg sM,if_neg e];omega
 |y::b,u::us,k+1,h,h',hu=>by
  have hkb:k<b.length:=by simpa using h
  have h9:=Vf x b us k hkb (by simpa using h') (by simpa using hu);show(if u=true/\y=x then 1 else 0)+Rm x b (us.set k true)=(if u=true/\y=x then 1 else 0)+Rm x b us+(if b[k]=x then 1 else 0);rw[h9];omega
theorem Ro(x:Ab):∀ (b:List Ab) (n:Nat),Rm x b (List.replicate n false)=0
 |[],n=>by cases n<;>rfl
 |y::b,0=>rfl
 |y::b,n+1=>by
  show(if false=true/\y=x then 1 else 0)+Rm x b (List.replicate n false)=0;rw[Ro x b n,if_neg sM]
structure Pq(a b:List Ab)(i fr:Nat)(us:List Bool):Prop where
 len:us.length=b.length
 cnt:∀x,Rm x b us=(a.take i).count x
 al:∀k (h:k<us.length),k<fr->us[k]=true
 le:fr<=b.length
section
variable {a b : List Ab} {i fr k : Nat} {us : List Bool}
theorem Pq.start(a b:List Ab):Pq a b 0 0 (List.replicate b.length false):=⟨sM,fun x=>by rw[Ro];simp,fun k _ h=>absurd h oM,gI _⟩
theorem Pq.step(h:Pq a b i fr us)(hi:i<a.length)(hk:k<b.length)(hk':k<us.length)(hu:us[k]=false)(he:b[k]=a[i]):Pq a b (i+1) fr (us.set k true):=by
 refine⟨by simpa using h.len,fun x=>?_,fun j hj hf=>?_,h.le⟩
 .rw[Vf x b us k hk hk' hu,h.cnt x,List.take_succ_eq_append_getElem hi,List.count_append,he,List.count_singleton];by_cases e:a[i]=x
  .rw[if_pos e,if_pos Zhk]
  .rw[if_neg e,if_neg Zhk]
 .rw[List.getElem_set];split
  .rfl
  .exact h.al j (by simpa using hj) hf
theorem Pq.found(h:Pq a b i fr us)(hp:a.Perm b)(hi:i<a.length)(hn:∀j (h1:j<us.length) (h2:j<b.length),fr<=j->us[j]=true\/b[j]≠a[i]):False:=by
 have h1:(a.take i).count a[i]<b.count a[i]:=by
  obtain⟨x,hx⟩:=gA (a[i])
  rw[hx,<-hp.count_eq x];have e:a.count x=(a.take i).count x+(a.drop i).count x:=by
   conv=>lhs;rw[<-List.take_append_drop i a]
   exact List.count_append
  have h2:0<(a.drop i).count x:=by
   rw[List.drop_eq_getElem_cons hi,hx,List.count_cons_self];omega
  omega
 obtain⟨j,j1,j2,j3,j4⟩:=Rn a[i] b us h.len (by rw[h.cnt];exact h1);by_cases q:j<fr
 .rw[h.al j j2 q]at j3;cases j3
 .rcases hn j j2 j1 oM with r|r
  .rw[r]at j3;cases j3
  .exact r j4
theorem Pq.more(h:Pq a b i fr us)(hk:fr<us.length)(hu:us[fr]=true):Pq a b i (fr+1) us:=⟨h.len,h.cnt,fun k hk hf=>by
 by_cases e:k=fr
 .subst e;exact hu
 .exact h.al k hk oM,by have:=h.len;omega⟩
end
theorem Ku{P:Program}{w:World}{o:Oper}{a:Act}{K:Act->World->Prop}{Q:Exit->Act->World->Prop}(t:TypeId)(x y:Operand)(yt:TypeId)
 (ho:o.op=.binOp .neq t x y yt) (v1 v2 v:Value) (hx:a.eval x=v1) (hy:a.eval y=v2) (hg:(eqGuard .neq t x y v1 v2).run P w=.ok () w) (hr:(binOp .neq t v1 v2).run P w=.ok v w) (h:K (a.put o.dst v) w) (y':Bool) (hy':y'=true):if y'=true then Oper.wp P o a w K Q else K (a.put o.dst undef) w:=by
 rw[if_pos hy'];unfold Oper.wp execOp;simp only[ho,Sem.run_bind,Sem.run_pure,Result.andThen_ok,hx,hy,hg,hr];exact h
def Ri(us:List Bool):List Value:=us.map Value.bool
theorem V7{us:List Bool}{k:Nat}(h:k<us.length):(Ri us)[k]? =some (.bool us[k]):=by simp[Ri,h]
theorem Yx(us:List Bool)(k:Nat):Ri (us.set k true)=(Ri us).set k (.bool true):=by simp[Ri,List.map_set]
theorem V8(k:Nat):Ri (List.replicate (k+1) false)=Ri (List.replicate k false)++[.bool false]:=by
 unfold Ri;rw[List.replicate_succ',List.map_append];rfl
theorem QN(a b:List Ab)(hp:a.Perm b)(hL:a.length<=40000)(pa:Option Addr)(qa:Nat)(pb:Option Addr)(qb:Nat)(w:World)(ha:AM 7 Cv w (.slice pa a.length qa) a)(hb:AM 7 Cv w (.slice pb b.length qb) b):
 Calls prog 14 #[.slice pa a.length qa,.slice pb b.length qb] w fun e w'=>e=.returned (.bool true)/\Below w.heap.size w w':=by
 have hm:a.length=b.length:=hp.length_eq;have HA:=A8 ha;have HB:=A8 hb;have HP:=A8 hp;have HS0:=A8 (Pq.start a b);obtain⟨N,hN⟩:=gA (b.length)
 have HN:Hid (b.length=N/\a.length=N):=⟨hN,hm.trans hN⟩
 rw[hm]at hL;rw[hN]at hL;have hNa:a.length=N:=hm.trans hN;simp only[hN,hNa]at HA HB HS0 |-;have hne:((N:Int) != (N:Int))=false:=sM;obtain⟨E,hE⟩:=gA (w.heap.size)
 have HE:=A8 hE;rw[hE];clear ha hb hp hm hN hNa hE;go_enter func14,ntmps14;go_upto_block 0 with fail;go_wp2_with fail
 go_loopw [5,6] (fun uv iv wx=>∃ (k:Nat) (po:Option Addr) (qo:Nat),k<=N/\iv=.int .i64 (k:Int)/\uv=.slice po k qo/\Hid (Below E w wx/\E<=wx.heap.size/\wx.ownsRow E 4 1 (.slice po k qo) k (Ri (List.replicate k false)))) (fun _ iv _=>N-(intOf iv).toNat)
 case atStart=>exact⟨0,none,0,gI _,rfl,rfl,by rw[<-HE.out];exact BG _,by have:=HE.out;omega,World.ownsRow_nil _ _ _ 1⟩
 case round=>
  rename World=>wa;obtain⟨k,po,qo,hk,rfl,rfl,HJ⟩:=hrel;by_cases hlt:k<N
  .obtain⟨hbk,hle,hown⟩:=HJ.out;obtain⟨g,c',w6,h1,h2,h3,h4,h5⟩:=I1 (t:=74) (e:=4) underlying74 Fg rF dE hown hle #[.bool false] rfl UL mL oM 74;have HRUN:=A8 h1;have HQ:Hid (Below E w w6/\E<=w6.heap.size/\w6.ownsRow E 4 1 (.slice (some ⟨g,0,none⟩) (k+1) c') (k+1) (Ri (List.replicate (k+1) false))):=⟨hbk.trans h2,gH hle h2.size,by rw[V8];exact h3⟩
   have i2:(k:Int)<(N:Int):=oM;have wi:IntKind.i64.wrap ((k:Int)+1)=((k+1:Nat):Int):=by rw[IntKind.wrap_i64];omega
   clear hbk hle hown h1 h2 h3 h4 h5 HJ;go_wp2_with(at_builtin;refine Ar rF _ _ _ rF _ _ _ rF rF HRUN.out ?_);go_roundw
   case rel=>exact⟨k+1,_,_,oM,gN,rfl,HQ.out⟩
   case measure=>simp[intOf];omega
  .have e9:¬ (k:Int)<(N:Int):=oM;obtain rfl:N=k:=oM;have HU0:Hid (Below E w wa/\E<=wa.heap.size/\wa.ownsRow E 4 1 (.slice po N qo) N (Ri (List.replicate N false))):=HJ.out;clear hlt HJ hk;go_upto_block 2 with fail;go_wp2_with fail
   go_loopw [7,8,9] (fun fv iv kv wx=>∃ (i fr:Nat) (us:List Bool),i<=N/\fr<=N/\fv=.int .i64 (fr:Int)/\iv=.int .i64 (i:Int)/\Hid (Pq a b i fr us)/\Hid (Below E w wx/\E<=wx.heap.size/\wx.ownsRow E 4 1 (.slice po N qo) N (Ri us))) (fun _ iv _ _=>N-(intOf iv).toNat)
   case atStart=>exact⟨0,0,_,gI _,gI _,rfl,rfl,HS0.out,HU0.out⟩
   case round=>
    clear HU0 HS0;rename World=>wb;obtain⟨i,fr,us,hi,hfr,rfl,rfl,HS,HJ⟩:=hrel;by_cases hil:i<N
    .have hia:i<a.length:=by have:=HN.out;omega
     obtain⟨hbk,hle,hown⟩:=HJ.out;obtain⟨g,cap,e9,g1,g2,g3,g4,-⟩:=Ea hown oM;simp only[Value.slice.injEq]at e9;obtain⟨rfl,-,rfl⟩:=e9;have HOW:Hid (∀v,Below wb.heap.size wb v->v.ownsRow E 4 1 (.slice (some ⟨g,0,none⟩) N qo) N (Ri us)/\Below E w v):=fun v hv=>⟨Au hown hv,hbk.trans (hv.mono hle)⟩
     have HGE:Hid (E<=g/\E<=wb.heap.size):=⟨g1,hle⟩
     obtain⟨ab,ao,rfl,hcx⟩:=(HA.below (by rw[HE.out];exact hbk)).at hia;have HFD:=A8 (fun hn=>HS.found HP.out hia hn);have HST:=A8 (fun(k:Nat) (h1:k<b.length) (h2:k<us.length) (h3:us[k]=false) (h4:b[k]=a[i])=>HS.step hia h1 h2 h3 h4);have HUL:Hid (us.length=N):=HS.len.trans HN.1;obtain⟨X,hX⟩:=gA (a[i])
     rw[hX]at hcx;simp only[hX]at HFD HST;have HCX:Hid (∀v,Below wb.heap.size wb v->As v ab (ao+i*7) (Cv X)):=fun v hv=>hcx.below hv;have j1:(0:Int)<=(i:Int):=oM;have j2:(i:Int)<(N:Int):=oM;have wi:IntKind.i64.wrap ((i:Int)+1)=((i+1:Nat):Int):=by rw[IntKind.wrap_i64];omega
     have hfi:(0:Int)<=(fr:Int):=oM;have HBW:Hid (∀v,Below wb.heap.size wb v->AM 7 Cv v (.slice pb N qb) b):=fun v hv=>HB.below (by rw[HE.out];exact hbk.trans (hv.mono hle));clear hbk hle hown g1 g2 g3 g4 hX hcx HJ HS;go_upto_block 4 with fail;go_wp2_with fail
     go_loopw [9] (fun kv wx=>∃k:Nat,fr<=k/\k<=N/\kv=.int .i64 (k:Int)/\Hid (Below wb.heap.size wb wx)/\Hid (∀j (h1:j<us.length) (h2:j<b.length),fr<=j->j<k->us[j]=true\/b[j]≠X)) (fun kv _=>N-(intOf kv).toNat)
     case atStart=>exact⟨fr,gF _,hfr,rfl,BG _,fun j _ _ h1 h2=>absurd h2 oM⟩
     case round=>
      rename World=>wc;obtain⟨k,hk1,hk2,rfl,HBC,HNF⟩:=hrel;by_cases hkl:k<N
      .have hkb:k<b.length:=by have:=HN.out;omega
       have hku:k<us.length:=by have:=HUL.out;omega
       obtain⟨hown,hbE⟩:=HOW.out wc HBC.out;have uc:=hown.cellAt k oM;rw[V7 hku]at uc;obtain⟨bb,bo,hpb,hcy⟩:=(HBW.out wc HBC.out).at hkb;have NE:=RG b[k] X;have HNX:Hid ((us[k]=true\/b[k]≠X)->∀j (h1:j<us.length) (h2:j<b.length),fr<=j->j<k+1->us[j]=true\/b[j]≠X):=fun q j h1 h2 h3 h4=>by
        by_cases e:j=k
        .subst e;exact q
        .exact HNF.out j h1 h2 h3 oM
       have HSK:Hid (us[k]=false->b[k]=X->Pq a b (i+1) fr (us.set k true)):=fun h3 h4=>HST.out k hkb hku h3 h4;obtain⟨U,hU⟩:∃u,us[k]=u:=⟨_,rfl⟩
       obtain⟨Y,hY⟩:=gA (b[k])
       rw[hU]at uc HNX HSK;rw[hY]at hcy NE HNX HSK;subst hpb;have hcx:=HCX.out wc HBC.out;have x0:=hcx.at 0 (v:=.int .i64 X.op) rfl;have x1:=hcx.at 1 (v:=.int .i64 X.d) rfl;have x2:=hcx.at 2 (v:=.int .i64 X.a) rfl;have x3:=hcx.at 3 (v:=.int .i64 X.b) rfl;have x4:=hcx.at 4 (v:=.int .i64 X.c) rfl;have x5:=hcx.at 5 (v:=.int .i64 X.n) rfl;have x6:=hcx.at 6 (v:=.int .u32 X.bits) rfl;rw[Nat.add_zero]at x0;have y0:=hcy.at 0 (v:=.int .i64 Y.op) rfl;have y1:=hcy.at 1 (v:=.int .i64 Y.d) rfl;have y2:=hcy.at 2 (v:=.int .i64 Y.a) rfl;have y3:=hcy.at 3 (v:=.int .i64 Y.b) rfl;have y4:=hcy.at 4 (v:=.int .i64 Y.c) rfl;have y5:=hcy.at 5 (v:=.int .i64 Y.n) rfl;have y6:=hcy.at 6 (v:=.int .u32 Y.bits) rfl;rw[Nat.add_zero]at y0;obtain⟨D,hD⟩:=gA (decide (Y=X))
       simp only[hD]at NE;unfold Bx at NE;have HNE:Hid (∀w,(binOp .neq 45 (.agg #[.int .i64 Y.op,.int .i64 Y.d,.int .i64 Y.a,.int .i64 Y.b,.int .i64 Y.c,.int .i64 Y.n,.int .u32 Y.bits]) (.agg #[.int .i64 X.op,.int .i64 X.d,.int .i64 X.a,.int .i64 X.b,.int .i64 X.c,.int .i64 X.n,.int .u32 X.bits])).run prog w=.ok (.bool (!D)) w):=NE;have k1:(0:Int)<=(k:Int):=oM;have k2:(k:Int)<(N:Int):=oM;have wk:IntKind.i64.wrap ((k:Int)+1)=((k+1:Nat):Int):=by rw[IntKind.wrap_i64];omega
       clear NE hY hU hcx hcy hown hbE;cases U with
       |true=>
        have HQ:=A8 (HNX.out (.inl rfl));clear HNX HSK HNE hD x0 x1 x2 x3 x4 x5 x6 y0 y1 y2 y3 y4 y5 y6;go_upto_region 13 with fail;refine rG (fun v=>v.cell? ⟨g,k,none⟩=some (.bool true)) fun yH=>?_;refine Tf 0 1 2 3 4 5 ?_;refine Tc 6 7 8 ?_;refine BB 9 ?_;refine Kd 10 11 12 13 ?_;refine Kd 14 15 16 17 ?_;refine EN 18 ?_;exact Zeo
       |false=>
        cases D with
        |false=>
         have HQ:=A8 (HNX.out (.inr (of_decide_eq_false hD)));clear HNX HSK hD;go_upto_region 13 with fail;refine rG (fun v=>v.cell? ⟨g,k,none⟩=some (.bool false)/\v.cell? ⟨bb,bo+k*7,none⟩=some (.int .i64 Y.op)/\v.cell? ⟨bb,bo+k*7+1,none⟩=some (.int .i64 Y.d)/\v.cell? ⟨bb,bo+k*7+2,none⟩=some (.int .i64 Y.a)/\v.cell? ⟨bb,bo+k*7+3,none⟩=some (.int .i64 Y.b)/\v.cell? ⟨bb,bo+k*7+4,none⟩=some (.int .i64 Y.c)/\v.cell? ⟨bb,bo+k*7+5,none⟩=some (.int .i64 Y.n)/\v.cell? ⟨bb,bo+k*7+6,none⟩=some (.int .u32 Y.bits)/\v.cell? ⟨ab,ao+i*7,none⟩=some (.int .i64 X.op)/\v.cell? ⟨ab,ao+i*7+1,none⟩=some (.int .i64 X.d)/\v.cell? ⟨ab,ao+i*7+2,none⟩=some (.int .i64 X.a)/\v.cell? ⟨ab,ao+i*7+3,none⟩=some (.int .i64 X.b)/\v.cell? ⟨ab,ao+i*7+4,none⟩=some (.int .i64 X.c)/\v.cell? ⟨ab,ao+i*7+5,none⟩=some (.int .i64 X.n)/\v.cell? ⟨ab,ao+i*7+6,none⟩=some (.int .u32 X.bits)) fun yH=>?_;refine Tf 0 1 2 3 4 5 ?_;refine Tf 6 7 8 9 10 11 ?_;refine Tf 12 13 14 15 16 17 ?_;clear yH;refine AE 18 fun K hK=>?_;refine Ku _ _ _ _ rF _ _ _ rF rF (Jw _ _ Y X _) (HNE.out _) ?_ _ rF;refine AD hK fun yH=>?_;clear hK K;exact Zeo
        |true=>
         have HSS:=A8 (HSK.out rfl (of_decide_eq_true hD));have hkN:((k:Int)==(N:Int))=false:=sO;have uf:=(HOW.out wc HBC.out).1.frozenAt k;have ufd:wc.drew.frozen? ⟨g,k,none⟩=false:=uf;have ucd:wc.drew.cell? ⟨g,k,none⟩=some (.bool false):=uc;obtain⟨W5,hW5⟩:∃W,wc.drew.setCell ⟨g,k,none⟩ (.bool true)=W:=⟨_,rfl⟩
         have HW5:Hid (W5.ownsRow E 4 1 (.slice (some ⟨g,0,none⟩) N qo) N (Ri (us.set k true))/\Below E w W5/\E<=W5.heap.size):=by
          obtain⟨o1,o2⟩:=HOW.out wc.drew (bel HBC.out (A7 _));have o3:=(o1.stored k (.bool true)).1;rw[<-Yx,hW5]at o3;have o4:Below E w W5:=by rw[<-hW5];exact o2.setCell HGE.1 _
          refine⟨o3,o4,?_⟩;have h9:=o4.size;have h8:=HE.out;omega
         clear HNX HSK hD HNF HST HFD;go_upto_region 13 with fail;refine rG (fun v=>v.cell? ⟨g,k,none⟩=some (.bool false)/\v.cell? ⟨bb,bo+k*7,none⟩=some (.int .i64 Y.op)/\v.cell? ⟨bb,bo+k*7+1,none⟩=some (.int .i64 Y.d)/\v.cell? ⟨bb,bo+k*7+2,none⟩=some (.int .i64 Y.a)/\v.cell? ⟨bb,bo+k*7+3,none⟩=some (.int .i64 Y.b)/\v.cell? ⟨bb,bo+k*7+4,none⟩=some (.int .i64 Y.c)/\v.cell? ⟨bb,bo+k*7+5,none⟩=some (.int .i64 Y.n)/\v.cell? ⟨bb,bo+k*7+6,none⟩=some (.int .u32 Y.bits)/\v.cell? ⟨ab,ao+i*7,none⟩=some (.int .i64 X.op)/\v.cell? ⟨ab,ao+i*7+1,none⟩=some (.int .i64 X.d)/\v.cell? ⟨ab,ao+i*7+2,none⟩=some (.int .i64 X.a)/\v.cell? ⟨ab,ao+i*7+3,none⟩=some (.int .i64 X.b)/\v.cell? ⟨ab,ao+i*7+4,none⟩=some (.int .i64 X.c)/\v.cell? ⟨ab,ao+i*7+5,none⟩=some (.int .i64 X.n)/\v.cell? ⟨ab,ao+i*7+6,none⟩=some (.int .u32 X.bits)) fun yH=>?_;refine Tf 0 1 2 3 4 5 ?_;refine Tf 6 7 8 9 10 11 ?_;refine Tf 12 13 14 15 16 17 ?_;clear yH;refine AE 18 fun K hK=>?_;refine Ku _ _ _ _ rF _ _ _ rF rF (Jw _ _ Y X _) (HNE.out _) ?_ _ rF;refine AD hK fun yH=>?_;clear hK K;refine Tb 19 20 ?_;refine wpAnyH_done kR ?_ _;go_upto_block 6 with fail;try rw[hW5]
         clear hW5 uc ucd uf ufd HNE;go_wp2_with fail
         go_loopw [7] (fun fv wx=>∃q:Nat,q<=N/\fv=.int .i64 (q:Int)/\wx=W5/\Hid (Pq a b (i+1) q (us.set k true))) (fun fv _=>N-(intOf fv).toNat)
         case atStart=>exact⟨fr,hfr,rfl,rfl,HSS.out⟩
         case round=>
          obtain⟨q,hq,rfl,rfl,HSQ⟩:=hrel;by_cases hql:q<N
          .have hqu:q<(us.set k true).length:=by have:=HUL.out;simp;omega
           have uq:=HW5.1.cellAt q oM;rw[V7 hqu]at uq;have HMO:Hid ((us.set k true)[q]=true->Pq a b (i+1) (q+1) (us.set k true)):=fun h=>HSQ.more hqu h;obtain⟨V,hV⟩:∃v,(us.set k true)[q]=v:=⟨_,rfl⟩
           rw[hV]at uq HMO;have q1:(0:Int)<=(q:Int):=oM;have q2:(q:Int)<(N:Int):=oM;have wq:IntKind.i64.wrap ((q:Int)+1)=((q+1:Nat):Int):=by rw[IntKind.wrap_i64];omega
           clear hV hqu;cases V with
           |true=>
            have HM:=A8 (HMO.out rfl);clear HMO;go_wp2;go_roundw
            case rel=>exact⟨q+1,oM,gN,by trivial,HM.out⟩
            case measure=>simp[intOf];omega
           |false=>
            clear HMO;exact Zfb
          .have e8:¬ (q:Int)<(N:Int):=oM;clear hql;exact Zfb
      .have hke:k=N:=oM;exact(HFD.out fun j h1 h2 h3=>HNF.out j h1 h2 h3 Zhv).elim
    .have e9:¬ (i:Int)<(N:Int):=oM;have HBF:Hid (Below E w wb):=HJ.1;clear hil HJ HS;go_wp2;go_ret;exact⟨rfl,HBF.out⟩
end Go.Proofs.YtpoklpdgpcnkgaaGreat
