import Derived.Test.YtnlgkkbmbijndaaGreatSeal9
import Derived.Deep.DeepCutAuto
import Derived.Lib.ConvBytes
import Derived.Test.YtnlgkkbmbijndaaGreatSeal8
import Derived.Test.YtnlgkkbmbijndaaGreatSeal2
import Derived.Test.YtnlgkkbmbijndaaGreatSeal1
namespace Go.Proofs.YtnlgkkbmbijndaaGreat
open Go.RowKit Go.Proofs.Tryz
set_option linter.all false
set_option maxRecDepth 100000
set_option maxHeartbeats 16000000
theorem Qh{x y:Nat}(hx:x<2^63)(hy:y<2^63):bits .or .i64 (x:Int) (y:Int)=((x|||y:Nat):Int):=by
 have h:(BitVec.ofInt 64 (x:Int)|||BitVec.ofInt 64 (y:Int)).toNat=x|||y:=by
  rw[BitVec.toNat_or];simp only[BitVec.ofInt_natCast,BitVec.toNat_ofNat];rw[Nat.mod_eq_of_lt oM,Nat.mod_eq_of_lt oM]
 have h2:x|||y<2^63:=Nat.or_lt_two_pow hx hy
 show IntKind.i64.wrap (((BitVec.ofInt 64 (x:Int)|||BitVec.ofInt 64 (y:Int)).toNat:Nat):Int)=_;rw[h,IntKind.wrap_i64];omega
theorem M5{n g k:Nat}(hn:n<128^k):n|||g*128^k=n+g*128^k:=by
 have e:(128:Nat)^k=2^(7*k):=by rw[Nat.pow_mul]
 rw[e]at hn |-;rw[Nat.or_comm,Nat.mul_comm g,<-Nat.two_pow_add_eq_or_of_lt hn,Nat.add_comm]
theorem OR{k:Nat}(h:k<=8):(128:Nat)^k*128<=2^63:=by
 rcases(show k=0\/k=1\/k=2\/k=3\/k=4\/k=5\/k=6\/k=7\/k=8 by omega)with rfl|rfl|rfl|rfl|rfl|rfl|rfl|rfl|rfl<;>decide
theorem Cu(E RB:Nat)(s:ByteArray)(A:Nat)(w:World)(h:BB E RB s A w)(hA:A<=s.size)(hs:s.size<=281474976710656)(hE:E<=w.heap.size):
 Calls prog 87 #[.pointer (some ⟨RB,0,none⟩)] w (AX E RB s w (fun(b:Nat)=>.int .i64 (b:Int)) (Bf ((Ab s).drop A) A)):=by
 have c1:=h.c1;obtain⟨N,hN⟩:=gA (s.size)
 have hd:Below w.heap.size w w.drew:=(Below.refl _ _).drew;obtain⟨V,hV⟩:=gA (w.drew)
 rw[hV]at hd;have hm:=h.below hd;have v0:=hm.c0;have v1:=hm.c1;have fz:V.frozen? ⟨RB,1,none⟩=false:=hm.b.frozen 1;have HERR:Hid (Below E w V/\B5 RB w V):=⟨hd.mono hE,B5.of hd⟩
 have HOK:Hid (∀P:Nat,Below E w (V.setCell ⟨RB,1,none⟩ (.int .i64 (P:Int)))/\B5 RB w (V.setCell ⟨RB,1,none⟩ (.int .i64 (P:Int)))/\BB E RB s P (V.setCell ⟨RB,1,none⟩ (.int .i64 (P:Int)))):=fun P=>⟨(hd.mono hE).setCell h.ge _,(B5.of hd).trans (B5.set _ _ _ _),hm.set P⟩
 clear h hm hd;go_enter func87,ntmps87;go_upto_region 2 with fail;refine rG (fun v=>v.cell? ⟨RB,1,none⟩=some (.int .i64 (A:Int))) fun hJ=>?_;refine wpAnyH_take (i:=0) (v:=?_) A8 kR kR kR A9 (Or.inl ⟨rF,?_⟩) Aa ?_
 rotate_left 1
 ·(intro wS hSw;(try dsimp only at hSw);go_simp;try(with_reducible rfl))
 try simp only[Act.put,List.setIfInBounds_toArray,List.set_cons_zero,List.set_cons_succ]
 refine wpAnyH_take (i:=1) (v:=?_) A8 kR kR kR A9 (Or.inl ⟨rF,?_⟩) Aa ?_
 rotate_left 1
 ·(intro wS hSw;(try dsimp only at hSw);go_simp;try(with_reducible rfl))
 try simp only[Act.put,List.setIfInBounds_toArray,List.set_cons_zero,List.set_cons_succ]
 refine wpAnyH_take (i:=2) (v:=?_) A8 kR kR kR A9 (Or.inl ⟨rF,?_⟩) Aa ?_
 rotate_left 1
 ·(intro wS hSw;(try dsimp only at hSw);go_simp;try(with_reducible rfl))
 try simp only[Act.put,List.setIfInBounds_toArray,List.set_cons_zero,List.set_cons_succ]
 refine wpAnyH_take (i:=3) (v:=?_) A8 kR kR kR A9 (Or.inl ⟨rF,?_⟩) Aa ?_
 rotate_left 1
 ·(intro wS hSw;(try dsimp only at hSw);go_simp;try(with_reducible rfl))
 try simp only[Act.put,List.setIfInBounds_toArray,List.set_cons_zero,List.set_cons_succ]
 refine wpAnyH_take (i:=4) (v:=?_) A8 kR kR kR A9 (Or.inl ⟨rF,?_⟩) Aa ?_
 rotate_left 1
 ·(intro wS hSw;(try dsimp only at hSw);go_simp;try(with_reducible rfl))
 try simp only[Act.put,List.setIfInBounds_toArray,List.set_cons_zero,List.set_cons_succ]
 refine wpAnyH_take (i:=5) (v:=?_) A8 kR kR kR A9 (Or.inl ⟨rF,?_⟩) Aa ?_
 rotate_left 1
 ·(intro wS hSw;(try dsimp only at hSw);go_simp;try(with_reducible rfl))
 try simp only[Act.put,List.setIfInBounds_toArray,List.set_cons_zero,List.set_cons_succ]
 refine wpAnyH_done kR ?_ _;rw[hV];clear c1 hV;go_wp2_with fail
 go_loopw [3,4,5] (fun nv sv av wx=>wx=V/\∃k n:Nat,k<=9/\A+k<=N/\nv=.int .i64 (n:Int)/\sv=.int .i64 ((7*k:Nat):Int)/\av=.int .i64 ((A+k:Nat):Int)/\Hid (n<128^k/\CD ((Ab s).drop A) 0 0=CD ((Ab s).drop (A+k)) k n)) (fun _ _ av _=>N-(intOf av).toNat)
 case atStart=>exact⟨rfl,0,0,oM,oM,rfl,rfl,rfl,dE,rfl⟩
 case round=>
  obtain⟨rfl,k,n,hk,hAk,rfl,rfl,rfl,HJ⟩:=hrel;obtain⟨hn,hR⟩:=HJ.out;obtain⟨P,hP⟩:=gA (A+k)
  rw[hP]at hR hAk |-;by_cases hlt:P<N
  .have hPs:P<s.size:=oM;rw[Dv hPs]at hR;obtain⟨B,hB⟩:=gA (s[P].toNat)
   rw[hB]at hR;have hB2:B<256:=by rw[<-hB];exact s[P].toNat_lt
   have i1:(0:Int)<=(P:Int):=oM;have i2:(P:Int)<(N:Int):=oM;rw[CD]at hR;by_cases q:k=9\/(B=0/\0<k)
   .rw[if_pos q]at hR;have HP:Hid (Bf ((Ab s).drop A) A=.error (243,A)):=by show Bf _ _=_;unfold Bf;rw[hR]
    have HG:Hid (AX E RB s w (fun(b:Nat)=>.int .i64 (b:Int)) (Bf ((Ab s).drop A) A) (B2 243 A) wr):=by
     show AX _ _ _ _ _ _ _ _;rw[HP.out];exact⟨rfl,HERR.out⟩
    unfold B2 at HG;by_cases q9:k=9
    .subst q9;clear q hR HJ hn HP;go_wp2;exact⟨rfl,HG.out⟩
    .obtain⟨hB0,hk0⟩:B=0/\0<k:=oM;subst hB0;have s1:((7*k:Nat):Int)≠63:=oM;have s2:(((7*k:Nat):Int)==63)=false:=sO;have s3:(0:Int)<((7*k:Nat):Int):=oM;clear q hR HJ hn HP;go_wp2;exact⟨rfl,HG.out⟩
   .rw[if_neg q]at hR;have hk8:k<=8:=oM;obtain⟨G,hG⟩:=gA (B%128)
    have hG1:G<128:=oM;have hpw:=OR hk8;obtain⟨T,hT⟩:=gA (G*128^k)
    have hT1:T<2^63:=by
     exact SU
    have hn1:n<2^63:=oM;obtain⟨M,hM⟩:=gA (n+T)
    have hor:bits .or .i64 (n:Int) (T:Int)=(M:Int):=by rw[Qh hn1 hT1,<-hT,M5 hn,hT,hM]
    have hM1:M<128^(k+1):=by
     have h9:(G+1)*128^k<=128*128^k:=Nat.mul_le_mul_right _ oM;rw[Nat.add_mul,hT]at h9;rw[Nat.pow_succ];omega
    have t1:((B:Int).tmod 128)=(G:Int):=by rw[Int.tmod_eq_emod_of_nonneg oM];omega
    have t1':((B:Int)%128)=(G:Int):=oM;have t2:IntKind.i64.wrap (G:Int)=(G:Int):=by rw[IntKind.wrap_i64];omega
    have t2':IntKind.u8.wrap (G:Int)=(G:Int):=by rw[IntKind.wrap_u8'];omega
    have s2:(((7*k:Nat):Int)==63)=false:=sO;have hsh:(G:Int)*2^(7*k)=(T:Int):=by
     rw[<-hT,show(128:Nat)^k=2^(7*k) by rw[Nat.pow_mul],Int.natCast_mul,Int.natCast_pow];rfl
    have t3:IntKind.i64.wrap (T:Int)=(T:Int):=by rw[IntKind.wrap_i64];omega
    have s4:(0:Int)<=((7*k:Nat):Int):=oM;have wP:IntKind.i64.wrap ((P:Int)+1)=((P+1:Nat):Int):=by rw[IntKind.wrap_i64];omega
    have wK:IntKind.i64.wrap (((7*k:Nat):Int)+7)=((7*(k+1):Nat):Int):=by rw[IntKind.wrap_i64];omega
    have hfree:k=0\/(0<k/\B≠0):=oM;have HFR:Hid (k=0\/(0<k/\B≠0)):=hfree;by_cases hb:B<128
    .rw[if_pos hb]at hR;have HP:Hid (Bf ((Ab s).drop A) A=.ok (M,(Ab s).drop (P+1),P+1)):=by
      show Bf _ _=_;unfold Bf;rw[hR];have e1:n+B*128^k=M:=by rw[<-hM,<-hT,<-hG,Nat.mod_eq_of_lt hb]
      simp only[e1,List.drop_drop];rw[show A+(k+1)=P+1 by omega]
     have HG:Hid (AX E RB s w (fun(b:Nat)=>.int .i64 (b:Int)) (Bf ((Ab s).drop A) A) (.returned (.int .i64 (M:Int))) (wr.setCell ⟨RB,1,none⟩ (.int .i64 ((P+1:Nat):Int)))):=by
      show AX _ _ _ _ _ _ _ _;rw[HP.out];exact⟨rfl,(HOK.out _).1,(HOK.out _).2.1,(HOK.out _).2.2,oM,rfl⟩
     have e2:(B:Int)<128:=oM;rcases hfree with k0|⟨k0,b0⟩
     .subst k0;have hTG:T=G:=by rw[<-hT];simp
      rw[hTG]at hor;clear q hR HJ hn HP hlt hM1 HFR hTG;go_wp2;refine bodyPost_ret (by simp[results,results87,go_sem, *];try rfl) rfl ?_;exact HG.out
     .have s3:(0:Int)<((7*k:Nat):Int):=oM;have b1:((B:Int)==0)=false:=sO;clear q hR HJ hn HP hlt hM1 HFR;go_wp2;refine bodyPost_ret (by simp[results,results87,go_sem, *];try rfl) rfl ?_;exact HG.out
    .rw[if_neg hb,hG,hT,hM]at hR;have hR':CD ((Ab s).drop A) 0 0=CD ((Ab s).drop (A+(k+1))) (k+1) M:=by rw[hR,show A+(k+1)=P+1 by omega]
     have HQ:Hid (M<128^(k+1)/\CD ((Ab s).drop A) 0 0=CD ((Ab s).drop (A+(k+1))) (k+1) M):=⟨hM1,hR'⟩
     have e2:¬ (B:Int)<128:=oM;have hPk:P+1=A+(k+1):=oM;rcases hfree with k0|⟨k0,b0⟩
     .subst k0;have hTG:T=G:=by rw[<-hT];simp
      rw[hTG]at hor;clear q hR hR' HJ hn hM1 HFR hTG;go_wp2;go_roundw
      case rel=>exact⟨trivial,1,M,oM,oM,rfl,by first|rfl|(go_num)|(simp),by first|(rw[<-hPk];go_num)|(simp;omega),HQ.out⟩
      case measure=>simp[intOf];omega
     .have s3:(0:Int)<((7*k:Nat):Int):=oM;have b1:((B:Int)==0)=false:=sO;clear q hR hR' HJ hn hM1 HFR;go_wp2;go_roundw
      case rel=>exact⟨trivial,k+1,M,oM,oM,rfl,by first|rfl|(go_num)|(simp),by first|(rw[<-hPk];go_num)|(simp;omega),HQ.out⟩
      case measure=>simp[intOf];omega
  .have e1:¬ (P:Int)<(N:Int):=oM;rw[EF (s:=s) (A:=P) oM,CD]at hR;have HP:Hid (Bf ((Ab s).drop A) A=.error (242,A)):=by show Bf _ _=_;unfold Bf;rw[hR]
   have HG:Hid (AX E RB s w (fun(b:Nat)=>.int .i64 (b:Int)) (Bf ((Ab s).drop A) A) (B2 242 A) wr):=by
    show AX _ _ _ _ _ _ _ _;rw[HP.out];exact⟨rfl,HERR.out⟩
   unfold B2 at HG;clear hR HJ hn HP hlt;go_wp2;exact⟨rfl,HG.out⟩
theorem IW(E WB:Nat)(l:List Nat)(v:Value)(w:World)(h:Bm E WB l v w)(rs:List Bd)(hrs:∀x∈rs,El x)(hn:rs.length<=64)(p:Option Addr)(q:Nat)(hr:∀u,Below E w u->Bl 3 As u (.slice p rs.length q) rs)(hl:l.length+1000000<=100000000):
 Calls prog 40 #[.pointer (some ⟨WB,0,none⟩),.slice p rs.length q,.func (.func 41) #[.pointer (some ⟨WB,0,none⟩)] #[]] w fun e w'=>e=.returned (.tuple #[])/\Below E w w'/\∃v',Bm E WB (l++B7 BL rs) v' w'/\Bh WB v w v' w':=by
 obtain⟨N,hN⟩:=gA (rs.length)
 have hnl:=AU (n:=N) oM;have HLN:Hid (∀k,((l++Az N)++(rs.take k).flatMap BL).length+100<=100000000):=fun k=>by
  have h1:=Bw (e:=BL) (m:=90) (rs.take k) (fun x hx=>Fm (hrs x (List.mem_of_mem_take hx)));rw[List.length_take]at h1;rw[List.length_append,List.length_append];have h2:min k rs.length<=64:=oM;omega
 have HFM:=A6 (fun(k:Nat) (hk:k<rs.length)=>CO BL hk);have HEL:Hid (B7 BL rs=Az N++rs.flatMap BL):=by show B7 BL rs=_;unfold B7;rw[hN]
 have KW:=A6 (fun(m:List Nat) (v:Value) (u:World) (a:Bm E WB m v u) (x:Bd) (hx:El x) (b:m.length+100<=100000000)=>Nn E WB m v u a x hx oM);have KN:=A6 (Bx E WB l v w h N oM oM);have HRW:Hid (∀u,Below E w u->Bl 3 As u (.slice p N q) rs):=fun u hu=>by rw[<-hN];exact hr u hu
 have HOK:=A6 hrs;have HN:=A6 hN;rw[hN]at hn |-;clear hr hrs h hN;go_enter func40,ntmps40;go_upto_block 0 with(go_at_call 79;(with_reducible refine KN.out.mono ?_);rintro e9 w4 ⟨rfl,hb4,v4,hm4,ho4⟩;have HJ0:Hid (Below E w w4/\∃v',Bm E WB ((l++Az N)++(rs.take 0).flatMap BL) v' w4/\Bh WB v w v' w4):=⟨hb4,v4,R1,ho4⟩;clear hb4 hm4 ho4)
 go_wp2_with fail
 go_loopw [14] (fun iv wx=>∃k:Nat,k<=N/\iv=.int .i64 (k:Int)/\Hid (Below E w wx/\∃v',Bm E WB ((l++Az N)++(rs.take k).flatMap BL) v' wx/\Bh WB v w v' wx)) (fun iv _=>N-(intOf iv).toNat)
 case atStart=>exact⟨0,gI _,rfl,HJ0.out⟩
 case round=>
  clear HJ0;obtain⟨k,hk,rfl,HJ⟩:=hrel;by_cases hlt:k<N
  .have hkl:k<rs.length:=by have:=HN.out;omega
   obtain⟨hb,v2,hm,ho⟩:=HJ.out;obtain⟨rb,ro,rfl,hcl⟩:=(HRW.out wr hb).at hkl;have hx:=HOK.out rs[k] (gD hkl);have hfm:=HFM.out k hkl;obtain⟨x,hxe⟩:=gA (rs[k])
   rw[hxe]at hcl hx hfm;obtain⟨V,hV⟩:=gA (wr.alloc (.cells #[.string (x.name),.int .i64 (x.kind),.int .i64 (x.len)] 59))
   have hbV:Below wr.heap.size wr V:=by rw[<-hV];exact A7 _ _
   have y0:=hcl.at 0 (v:=.string (x.name)) rfl;rw[Nat.add_zero]at y0;have y1:=hcl.at 1 (v:=.int .i64 (x.kind)) rfl;have y2:=hcl.at 2 (v:=.int .i64 (x.len)) rfl;have z0:V.cell? ⟨wr.heap.size,0,none⟩=some (.string (x.name)):=by rw[<-hV];simp[go_sem]
   have z1:V.cell? ⟨wr.heap.size,1,none⟩=some (.int .i64 (x.kind)):=by rw[<-hV];simp[go_sem]
   have z2:V.cell? ⟨wr.heap.size,2,none⟩=some (.int .i64 (x.len)):=by rw[<-hV];simp[go_sem]
   have llb:rb<wr.heap.size:=Al y0;have n9:¬rb=wr.heap.size:=oM;have KX:=A6 (KW.out _ v2 V (hm.below hbV) x hx (HLN.out k));have HFM':=A6 hfm;have HBV:Hid (Below E w V):=hb.trans (hbV.mono hm.le);have HOV:Hid (∀v' w',Bh WB v2 V v' w'->Bh WB v w v' w'):=fun v' w' z=>ho.trans (Bh.below hm hbV z);have i1:(0:Int)<=(k:Int):=oM;have i2:(k:Int)<(N:Int):=oM;have wi:IntKind.i64.wrap ((k:Int)+1)=((k+1:Nat):Int):=by rw[IntKind.wrap_i64];omega
   clear hb hm ho hcl hx hfm hxe hbV llb HJ;go_wp2_with(go_at_call 41;(with_reducible refine KX.out.mono ?_);rintro e9 w5 ⟨rfl,hb5,v5,hm5,ho5⟩;have HQ:Hid (Below E w w5/\∃v',Bm E WB ((l++Az N)++(rs.take (k+1)).flatMap BL) v' w5/\Bh WB v w v' w5):=⟨HBV.out.trans hb5,v5,R7,HOV.out _ _ ho5⟩;clear hb5 hm5 ho5);exact Qb
  .have e1:¬ (k:Int)<(N:Int):=oM;have hall:rs.take k=rs:=List.take_of_length_le Q0;have HQ:Hid (Below E w wr/\∃v',Bm E WB (l++B7 BL rs) v' wr/\Bh WB v w v' wr):=by
    exact QT
   exact QJ
theorem Kr:∀op:Nat,op<38->1<=op->EB op=decide (op=2\/op=29\/op=30\/op=31\/op=32\/op=33\/op=36):=by decide+kernel
theorem LM(op:Nat)(h1:1<=op)(h2:op<=37)(w:World):
 Calls prog 110 #[.int .i64 (op:Int)] w fun e w'=>e=.returned (.bool (EB op))/\w'=w:=by
 have HN:=A6 (Kr op oM h1);by_cases q:op=2\/op=29\/op=30\/op=31\/op=32\/op=33\/op=36
 .have HT:Hid (EB op=true):=by show EB op=_;rw[HN.out];simp[q]
  rw[HT.out];clear HN HT;rcases q with rfl|rfl|rfl|rfl|rfl|rfl|rfl
  all_goals
   exact SQ
 .have HT:Hid (EB op=false):=by show EB op=_;rw[HN.out];simp[q]
  rw[HT.out];have a1:((op:Int)==2)=false:=sO;have a2:((op:Int)==29)=false:=sO;have a3:((op:Int)==30)=false:=sO;have a4:((op:Int)==31)=false:=sO;have a5:((op:Int)==32)=false:=sO;have a6:((op:Int)==33)=false:=sO;have a7:((op:Int)==36)=false:=sO;clear HN HT q;exact SQ
def Df(LB:Nat)(os:List Nat):List Value:=os.map fun o=>.pointer (some ⟨LB,o,none⟩)
theorem Mc(LB:Nat)(a b:List Nat):Df LB (a++b)=Df LB a++Df LB b:=by simp[Df]
theorem Kl:(prog.info? 154).map (fun i=>(i.zero,i.size,i.bytes))=some (some (.pointer none),1,8):=kR
theorem GX{E LB:Nat}{V:World}{p:Option Addr}{q:Nat}{os:List Nat}(h:V.ownsRow E 154 1 (.slice p os.length q) os.length (Df LB os))(hE:E<=V.heap.size){RB d:Nat}(ns:List Nat)(hn:∀j (hj:j<ns.length),V.cell? ⟨RB,j,none⟩=some (.pointer (some ⟨LB,ns[j],none⟩)))(hl:os.length+ns.length<=1000000)(ty:TypeId):
 ∃p' q' w',(Builtin.append_ #[152,152] ty #[.slice p os.length q,.slice (some ⟨RB,0,none⟩) ns.length d]).run prog V=.ok (.slice p' (os.length+ns.length) q') w'/\w'.ownsRow E 154 1 (.slice p' (os++ns).length q') (os++ns).length (Df LB (os++ns))/\Below E V w':=by
 obtain⟨i0,hi0,hz0,hz1,hz2⟩:=info_parts Kl;obtain⟨v',w',hr,h2,h3,-,-⟩:=run_append_own_at (P:=prog) V E 152 ty 154 i0 _ 1 8 underlying152 hi0 hz0 hz1 hz2 rfl dE (.slice p os.length q) os.length (Df LB os) h ⟨RB,0,none⟩ ns.length d (Df LB ns) (by simp[Df]) (fun j u hu=>by
  have hj:j<ns.length:=by have:=(List.getElem?_eq_some_iff.1 hu).1;simpa[Df]using this
  have hadd:(⟨RB,0,none⟩:Addr).add j=⟨RB,j,none⟩:=by unfold Addr.add;split<;>simp_all
  rw[hadd,hn j hj]
  simpa[Df,hj]using hu) (by simp[Df,Value.oneCell']) mL oM hE
 obtain⟨p',q',rfl⟩:=AF h2;refine⟨p',q',w',hr,?_,(Below.refl E V).grown h3 hE (fun b e=>(h.lt b e).1)⟩;rw[List.length_append,Mc];exact h2
theorem G4{E LB:Nat}{V:World}{p:Option Addr}{q:Nat}{os:List Nat}(h:V.ownsRow E 154 1 (.slice p os.length q) os.length (Df LB os))(hE:E<=V.heap.size)(o:Nat)(hl:os.length+1<=1000000)(ty:TypeId):
 ∃p' q' w',(Builtin.append_ #[152,152] ty #[.slice p os.length q,.slice (some ⟨V.heap.size,0,none⟩) 1 1]).run prog (V.alloc (.cells #[.pointer (some ⟨LB,o,none⟩)] 154))=.ok (.slice p' (os.length+1) q') w'/\w'.ownsRow E 154 1 (.slice p' (os++[o]).length q') (os++[o]).length (Df LB (os++[o]))/\Below E V w':=by
 have hb0:Below V.heap.size V (V.alloc (.cells #[.pointer (some ⟨LB,o,none⟩)] 154)):=A7 _ _;obtain⟨p',q',w',h1,h2,h3⟩:=GX (LB:=LB) (AK h hb0) (gH hE hb0.size) (RB:=V.heap.size) (d:=1) [o] (fun j hj=>by
  have:j=0:=by simp only[List.length_cons,List.length_nil]at hj;omega
  subst this
  simp[go_sem]) hl ty
 exact⟨p',q',w',h1,h2,(hb0.mono hE).trans h3⟩
theorem KU(i:Ar):(AN i (Ag i.op)).length<=3:=by
 rw[DF];have h1:=Dh (Ag i.op).a i.a;have h2:=Dh (Ag i.op).b i.b;have h3:=Dh (Ag i.op).c i.c;simp only[List.length_append];omega
def CJ(i:Ar):List Nat:=((if(Ag i.op).d != 0 then [1]else [])++[2,3,4].take (AN i (Ag i.op)).length)++(if EB i.op.toNat=true then [5]else [])
theorem Fp(X:Nat)(i:Ar)(h1:1<=i.op)(h2:i.op<=37)(w:World)(hc:Aq w X 0 (C2 i)):
 Calls prog 81 #[.pointer (some ⟨X,0,none⟩)] w fun e w'=>∃q d,e=.returned (.slice q (CJ i).length d)/\w'.ownsRow w.heap.size 154 1 (.slice q (CJ i).length d) (CJ i).length (Df X (CJ i))/\Below w.heap.size w w':=by
 obtain⟨E,hE⟩:=gA (w.heap.size)
 have HE:=A6 hE;simp only[hE];have HRL:=A6 (KU i);obtain⟨F,hF⟩:=gA (CJ i)
 rw[hF];have HF:Hid (((if(Ag i.op).d != 0 then [1]else [])++[2,3,4].take (AN i (Ag i.op)).length)++(if EB i.op.toNat=true then [5]else [])=F):=hF;clear hF;obtain⟨op,d,a,b,e,n,z⟩:=i;simp only at h1 h2 HRL HF;obtain⟨O,hO⟩:∃O:Nat,op=(O:Int):=⟨op.toNat,oM⟩
 subst hO;rw[Int.toNat_natCast]at HF;have HYY:Hid (∀v,Below E w v->v.cell? ⟨X,0,none⟩=some (.int .i64 (O:Int))/\v.cell? ⟨X,1,none⟩=some (.int .i64 d)/\v.cell? ⟨X,2,none⟩=some (.int .i64 a)/\v.cell? ⟨X,3,none⟩=some (.int .i64 b)/\v.cell? ⟨X,4,none⟩=some (.int .i64 e)/\v.cell? ⟨X,5,none⟩=some (.int .i64 n)/\v.cell? ⟨X,6,none⟩=some (.int .u32 z)):=fun v hv=>by
  rw[<-hE]at hv;have g:∀k x,(C2 ⟨(O:Int),d,a,b,e,n,z⟩)[k]? =some x->v.cell? ⟨X,k,none⟩=some x:=fun k x hx=>by
   have h9:=hc.at k hx;rw[Nat.zero_add]at h9;exact kc hv h9
  exact⟨g 0 _ rfl,g 1 _ rfl,g 2 _ rfl,g 3 _ rfl,g 4 _ rfl,g 5 _ rfl,g 6 _ rfl⟩
 obtain⟨y0,y1,y2,y3,y4,y5,y6⟩:=HYY.out w (Below.refl _ _);have KS:=A6 (fun v=>Nb ⟨(O:Int),d,a,b,e,n,z⟩ v);have KR:=A6 (fun v=>KJ ⟨(O:Int),d,a,b,e,n,z⟩ v);have KH:=A6 (fun v=>LM O oM oM v);unfold Bn at KS KR;simp only at KS KR;obtain⟨rs,hrs⟩:=gA (AN (⟨(O:Int),d,a,b,e,n,z⟩:Ar) (Ag (O:Int)))
 simp only[hrs]at KR HRL HF;obtain⟨sb,hsb⟩:=gA (((Ag (O:Int)).d != 0))
 simp only[hsb]at KS HF;obtain⟨nb,hnb⟩:=gA (EB O)
 simp only[hnb]at KH HF;obtain⟨P1,hP1⟩:∃P,(if sb=true then [1]else []:List Nat)=P:=⟨_,rfl⟩
 have HP1L:Hid (P1.length<=1):=by rw[<-hP1];show _<=_;split<;>simp
 have HP1:=A6 hP1;rw[hP1]at HF;obtain⟨P2,hP2⟩:∃P,P1++[2,3,4].take rs.length=P:=⟨_,rfl⟩
 have HP2:=A6 hP2;rw[hP2]at HF;have HP2L:Hid (P2.length<=4):=by
  rw[<-hP2,List.length_append,List.length_take];have:=HP1L.out;show _<=_;simp only[List.length_cons,List.length_nil];omega
 have HEW:Hid (E<=w.heap.size):=by rw[hE];exact gF _
 clear hc hE hrs hsb hnb hP1 hP2 h1 h2;go_enter func81,ntmps81;go_upto_if 8 with(go_at_call 108;(with_reducible refine(KS.out _).mono ?_);rintro e9 w4 ⟨rfl,hb4⟩;have HB4:Hid (Below E w w4):=(by have h9:=hb4;rw[HE.out]at h9;exact h9);clear hb4)
 go_cut [3] (fun lv wx=>∃ (q:Option Addr) (d':Nat),lv=.slice q P1.length d'/\Hid (Below E w wx/\E<=wx.heap.size/\wx.ownsRow E 154 1 (.slice q P1.length d') P1.length (Df X P1)))
 case first=>
  cases sb with
  |false=>
   obtain rfl:[]=P1:=HP1.out;go_wp2;go_meet;exact⟨none,0,rfl,HB4.out,gH HEW.out HB4.size,World.ownsRow_nil _ _ _ 1⟩
  |true=>
   obtain rfl:[1]=P1:=HP1.out;obtain⟨p',q',w5,r1,r2,r3⟩:=G4 (E:=E) (LB:=X) (V:=w4) (p:=none) (q:=0) (os:=[]) (World.ownsRow_nil _ _ _ 1) (gH HEW.out HB4.size) 1 dE 152;have HR1:=A6 r1;have HR2:=A6 r2;have HR3:=A6 r3;clear r1 r2 r3;go_wp2_with(at_builtin;refine B1 rF _ _ _ rF _ _ _ rF rF HR1.out ?_);go_meet;exact⟨p',q',rfl,HB4.trans HR3.out,gH (gH HEW.out HB4.size) HR3.size,HR2.out⟩
 case rest=>
  obtain⟨q5,d5,rfl,HC5⟩:=hcut;obtain⟨hb5,hE5,ho5⟩:=HC5.out;have HB5:=A6 hb5;have HE5:=A6 hE5;have HO5:=A6 ho5;obtain⟨u0,-⟩:=HYY.out wc hb5;have lLB:X<wc.heap.size:=Al u0;have nLB:¬X=wc.heap.size:=oM;have k0:∀o,(wc.alloc o).cell? ⟨X,0,none⟩=some (.int .i64 (O:Int)):=fun o=>kc (A7 _ _) u0;clear HC5 hb5 hE5 ho5 y0 y1 y2 y3 y4 y5 y6 KS HB4;go_upto_region 4 with fail;refine rG (fun v=>v.cell? ⟨X,0,none⟩=some (.int .i64 (O:Int))) fun hJ=>?_;refine wpAnyH_take (i:=0) (v:=?_) A8 kR kR kR A9 (Or.inl ⟨rF,?_⟩) Aa ?_
  rotate_left 1
  ·(intro wS hSw;(try dsimp only at hSw);go_simp;try(with_reducible rfl))
  try simp only[Act.put,List.setIfInBounds_toArray,List.set_cons_zero,List.set_cons_succ]
  refine wpAnyH_take (i:=1) (v:=?_) A8 kR kR kR A9 (Or.inl ⟨rF,?_⟩) Aa ?_
  rotate_left 1
  ·(intro wS hSw;(try dsimp only at hSw);go_simp;try(with_reducible rfl))
  try simp only[Act.put,List.setIfInBounds_toArray,List.set_cons_zero,List.set_cons_succ]
  refine wpAnyH_take (i:=2) (v:=?_) A8 kR kR kR A9 (Or.inl ⟨rF,?_⟩) Aa ?_
  rotate_left 1
  ·(intro wS hSw;(try dsimp only at hSw);go_simp;try(with_reducible rfl))
  try simp only[Act.put,List.setIfInBounds_toArray,List.set_cons_zero,List.set_cons_succ]
  refine wpAnyH_take (i:=3) (v:=?_) A8 kR kR kR A9 (Or.inl ⟨rF,?_⟩) Aa ?_
  rotate_left 1
  ·(intro wS hSw;(try dsimp only at hSw);go_simp;try(with_reducible rfl))
  try simp only[Act.put,List.setIfInBounds_toArray,List.set_cons_zero,List.set_cons_succ]
  refine wpAnyH_take (i:=4) (v:=?_) A8 kR kR kR A9 (Or.inl ⟨rF,?_⟩) Aa ?_
  rotate_left 1
  ·(intro wS hSw;(try dsimp only at hSw);go_simp;try(with_reducible rfl))
  try simp only[Act.put,List.setIfInBounds_toArray,List.set_cons_zero,List.set_cons_succ]
  refine wpAnyH_take (i:=5) (v:=?_) A8 kR kR kR A9 (Or.inl ⟨rF,?_⟩) Aa ?_
  rotate_left 1
  ·(intro wS hSw;(try dsimp only at hSw);go_simp;try(with_reducible rfl))
  try simp only[Act.put,List.setIfInBounds_toArray,List.set_cons_zero,List.set_cons_succ]
  refine wpAnyH_take (i:=6) (v:=?_) A8 kR kR kR A9 (Or.inl ⟨rF,?_⟩) Aa ?_
  rotate_left 1
  ·(intro wS hSw;(try dsimp only at hSw);go_simp;try(with_reducible rfl))
  try simp only[Act.put,List.setIfInBounds_toArray,List.set_cons_zero,List.set_cons_succ]
  refine wpAnyH_take (i:=7) (v:=?_) A8 kR kR kR A9 (Or.inl ⟨rF,?_⟩) Aa ?_
  rotate_left 1
  ·(intro wS hSw;(try dsimp only at hSw);go_simp;try(with_reducible rfl))
  try simp only[Act.put,List.setIfInBounds_toArray,List.set_cons_zero,List.set_cons_succ]
  refine wpAnyH_take (i:=8) (v:=?_) A8 kR kR kR A9 (Or.inl ⟨rF,?_⟩) Aa ?_
  rotate_left 1
  ·(intro wS hSw;(try dsimp only at hSw);go_simp;try(with_reducible rfl))
  try simp only[Act.put,List.setIfInBounds_toArray,List.set_cons_zero,List.set_cons_succ]
  refine wpAnyH_take (i:=9) (v:=?_) A8 kR kR kR A9 (Or.inl ⟨rF,?_⟩) Aa ?_
  rotate_left 1
  ·(intro wS hSw;(try dsimp only at hSw);go_simp;try(with_reducible rfl))
  try simp only[Act.put,List.setIfInBounds_toArray,List.set_cons_zero,List.set_cons_succ]
  clear hJ;refine AP 10 fun K hK=>?_;go_simp;refine AW hK fun hJ=>?_;clear hK K;clear hJ;refine AP 11 fun K hK=>?_;go_simp;refine AW hK fun hJ=>?_;clear hK K;refine wpAnyH_done kR ?_ _;obtain⟨W6,hW6⟩:∃W,(wc.alloc (.cells #[.pointer (some ⟨X,2,none⟩),.pointer (some ⟨X,3,none⟩),.pointer (some ⟨X,4,none⟩)] 176)).drew=W:=⟨_,rfl⟩
  rw[hW6];have HB6:Hid (Below wc.heap.size wc W6):=by rw[<-hW6];exact bel (A7 _ _) (Below.refl _ _).drew
  have HX6:Hid (∀k (hk:k<3),W6.cell? ⟨wc.heap.size,k,none⟩=some (.pointer (some ⟨X,[2,3,4][k],none⟩))):=fun k hk=>by
   rw[<-hW6];rcases(show k=0\/k=1\/k=2 by omega)with rfl|rfl|rfl<;>simp[go_sem]
  have HBW:Hid (Below E w W6):=HB5.trans (HB6.mono HE5.out);obtain⟨y0,y1,y2,y3,y4,y5,y6⟩:=HYY.out W6 HBW.out;obtain⟨m,hm⟩:=gA (rs.length)
  have HNS:Hid (([2,3,4].take rs.length).length=m):=by show _=_;have:=HRL.out;rw[List.length_take];simp only[List.length_cons,List.length_nil];omega
  have HMM:Hid (m<=3):=by rw[<-hm];exact HRL.out
  have m3:(m:Int)<=3:=by have:=HMM.out;omega
  have m4:m<=3:=HMM.out;have m5:(0:Int)<=(m:Int):=oM;simp only[hm]at KR;clear hW6 hm u0 k0;go_upto_region 5 with fail;go_upto_region 6 with(first
   |(go_at_call 109;(with_reducible refine(KR.out _).mono ?_);rintro e9 w7 ⟨v7,rfl,ho7,hb7⟩;obtain⟨p7,q7,rfl⟩:=AF ho7;have HB7:=A6 hb7;obtain⟨p',q',w8,r1,r2,r3⟩:=GX (LB:=X) (RB:=wc.heap.size) (d:=3) (AK HO5.out (bel HB6.out HB7.out)) (gH HE5.out (bel HB6.out HB7.out).size) ([2,3,4].take rs.length) (fun k hk=>by
    have h9:k<3:=by have:=HNS.out;have:=HMM.out;omega
    rw[List.getElem_take]
    exact kc HB7.out (HX6.out k h9)) (by have:=HNS.out;have:=HMM.out;have:=HP1L.out;omega) 152;rw[HP2.out]at r2;rw[HNS.out]at r1;have HR1:=A6 r1;have HR2:=A6 r2;have HR3:=A6 r3;clear r1 r2 r3 ho7 hb7)
   |(at_builtin;refine B1 rF _ _ _ rF _ _ _ rF rF HR1.out ?_))
  have HBX:Hid (Below E w w8):=(HBW.trans (HB7.mono (gH HE5.out HB6.size))).trans HR3.out;have HEX:Hid (E<=w8.heap.size):=gH (gH HE5.out (bel HB6.out HB7.out).size) HR3.size;have hpl:P1.length+m=P2.length:=by rw[<-HP2.out,List.length_append,HNS.out]
  rw[hpl];clear hpl y0 y1 y2 y3 y4 y5 y6 HR1 HR3 HB7 KR HX6 HB6 HB5 HO5 HBW HE5;obtain⟨y0,y1,y2,y3,y4,y5,y6⟩:=HYY.out w8 HBX.out;go_upto_if 37 with(go_at_call 110;(with_reducible refine(KH.out _).mono ?_);rintro e9 w9 ⟨rfl,rfl⟩)
  cases nb with
  |false=>
   have HFF:Hid (F=P2):=by show _=_;rw[<-HF.out];simp
   go_wp2;refine bodyPost_ret (by simp[results,results81,go_sem, *];try rfl) rfl ?_;rw[HFF.out];exact⟨_,_,rfl,HR2.out,HBX.out⟩
  |true=>
   have HFF:Hid (F=P2++[5]):=by show _=_;rw[<-HF.out];simp
   obtain⟨p3,q3,w5,r1,r2,r3⟩:=G4 (LB:=X) HR2.out HEX.out 5 (by have:=HP2L.out;omega) 152;rw[<-HFF.out]at r2;have HS1:=A6 r1;have HS2:=A6 r2;have HS3:=A6 r3;have HLN:Hid (F.length=P2.length+1):=by show _=_;rw[HFF.out];simp
   clear r1 r2 r3;go_wp2_with(at_builtin;refine B1 rF _ _ _ rF _ _ _ rF rF HS1.out ?_);refine bodyPost_ret (by simp[results,results81,go_sem, *];try rfl) rfl ?_;exact⟨p3,q3,by rw[HLN.out],HS2.out,HBX.trans HS3.out⟩
theorem Jl:∀op:Nat,op<38->1<=op->(FZ op=true->FQ op=true)/\(FQ op=true->FY op=true):=by decide+kernel
def Ls(i:Ar)(o:Nat):Int:=if o=1 then i.d else if o=2 then i.a else if o=3 then i.b else if o=4 then i.c else i.n
theorem Jc{i:Ar}(O:Nat)(hO:i.op=(O:Int)):CJ i=((if Gg O=true then [1]else [])++[2,3,4].take ((if FY O=true then 1 else 0)+(if FQ O=true then 1 else 0)+(if FZ O=true then 1 else 0)))++(if EB O=true then [5]else []):=by
 have hd:((Ag i.op).d != 0)=Gg O:=by rw[hO];unfold Gg;by_cases h:(Ag (O:Int)).d=0<;>simp[h]
 have hr:(AN i (Ag i.op)).length=(if FY O=true then 1 else 0)+(if FQ O=true then 1 else 0)+(if FZ O=true then 1 else 0):=by
  rw[hO];unfold AN FY FQ FZ;by_cases h1:(Ag (O:Int)).a=0<;>by_cases h2:(Ag (O:Int)).b=0<;>by_cases h3:(Ag (O:Int)).c=0<;>simp[h1,h2,h3]
 unfold CJ;rw[hd,hr,hO,Int.toNat_natCast]
theorem H9{i:Ar}(h1:1<=i.op)(h2:i.op<=37):Ce i=([i.op.toNat]++(CJ i).flatMap (fun o=>Az (Ls i o).toNat))++FR i.op.toNat i.bits:=by
 obtain⟨O,hO⟩:∃O:Nat,i.op=(O:Int):=⟨i.op.toNat,oM⟩
 obtain⟨a1,a2⟩:=Jl O oM oM;rw[Jc O hO];unfold Ce CI;rw[hO,Int.toNat_natCast];generalize Gg O=D at *;generalize FY O=A at *;generalize FQ O=B at *;generalize FZ O=C at *;generalize EB O=N at *;cases A<;>cases B<;>cases C<;>simp at a1 a2<;>cases D<;>cases N<;>simp[Ls]
theorem LI{i:Ar}(h:DC i):∀o∈CJ i,1<=o/\o<=5/\0<=Ls i o/\Ls i o<9223372036854775808:=by
 obtain⟨h1,h2,⟨d1,d2,-⟩,⟨b1,b2,-⟩,⟨c1,c2,-⟩,⟨e1,e2,-⟩,⟨n1,n2,-⟩,-⟩:=h;obtain⟨O,hO⟩:∃O:Nat,i.op=(O:Int):=⟨i.op.toNat,oM⟩
 intro o ho;rw[Jc O hO]at ho;have hm:o=1\/o=2\/o=3\/o=4\/o=5:=by
  exact SC
 rcases hm with rfl|rfl|rfl|rfl|rfl<;>simp[Ls]<;>omega
theorem Gx(i:Ar):(CJ i).length<=5:=by
 unfold CJ;rw[List.length_append,List.length_append,List.length_take];have h1:(if(Ag i.op).d != 0 then [1]else []:List Nat).length<=1:=by split<;>simp
 have h2:(if EB i.op.toNat=true then [5]else []:List Nat).length<=1:=by split<;>simp
 have h3:min (AN i (Ag i.op)).length ([2,3,4]:List Nat).length<=3:=Nat.min_le_right _ _;omega
theorem Nm(E WB:Nat)(l:List Nat)(v:Value)(w:World)(h:Bm E WB l v w)(i:Ar)(hi:DC i)(hl:l.length+100<=100000000):
 Calls prog 47 #[.pointer (some ⟨WB,0,none⟩),.agg #[.int .i64 i.op,.int .i64 i.d,.int .i64 i.a,.int .i64 i.b,.int .i64 i.c,.int .i64 i.n,.int .u32 i.bits]] w fun e w'=>e=.returned (.tuple #[])/\Below E w w'/\∃v',Bm E WB (l++Ce i) v' w'/\Bh WB v w v' w':=by
 have hEI:=H9 hi.1 hi.2.1;have hFO:=LI hi;have hFL:=Gx i;have KF:Hid (∀ (X:Nat) (u:World),Aq u X 0 (C2 i)->Calls prog 81 #[.pointer (some ⟨X,0,none⟩)] u fun e w'=>∃q d,e=.returned (.slice q (CJ i).length d)/\w'.ownsRow u.heap.size 154 1 (.slice q (CJ i).length d) (CJ i).length (Df X (CJ i))/\Below u.heap.size u w'):=fun X u a=>Fp X i hi.1 hi.2.1 u a;obtain⟨F,hF⟩:=gA (CJ i)
 obtain⟨EI,hEN⟩:∃z,Ce i=z:=⟨_,rfl⟩
 obtain⟨f,hf⟩:=gA (Ls i)
 simp only[hF,hEN,hf]at KF hEI hFO hFL |-;have hC:∀ (u:World) (X:Nat),Aq u X 0 (C2 i)->∀o,1<=o->o<=5->u.cell? ⟨X,o,none⟩=some (.int .i64 (f o)):=fun u X hc o h1 h2=>by
  rw[<-hf];rcases(show o=1\/o=2\/o=3\/o=4\/o=5 by omega)with rfl|rfl|rfl|rfl|rfl
  .have:=hc.at 1 (v:=.int .i64 i.d) rfl;simpa[Ls]using this
  .have:=hc.at 2 (v:=.int .i64 i.a) rfl;simpa[Ls]using this
  .have:=hc.at 3 (v:=.int .i64 i.b) rfl;simpa[Ls]using this
  .have:=hc.at 4 (v:=.int .i64 i.c) rfl;simpa[Ls]using this
  .have:=hc.at 5 (v:=.int .i64 i.n) rfl;simpa[Ls]using this
 obtain⟨op,d,a,b,c,n,z⟩:=i;obtain⟨h1,h2,-,-,-,-,-,z1,z2,z3⟩:=hi;simp only at h1 h2 z1 z2 z3 hEI |-;obtain⟨O,hO⟩:∃O:Nat,op=(O:Int):=⟨op.toNat,oM⟩
 obtain⟨Z,hZ⟩:∃O:Nat,z=(O:Int):=⟨z.toNat,oM⟩
 subst hO hZ;simp only[Int.toNat_natCast]at hEI z3;have HC:=A6 hC;obtain⟨V,hV⟩:=gA (w.alloc (.cells #[.int .i64 (O:Int),.int .i64 d,.int .i64 a,.int .i64 b,.int .i64 c,.int .i64 n,.int .u32 (Z:Int)] 70))
 have hb0:Below w.heap.size w V:=by rw[<-hV];exact A7 _ _
 have hs0:V.heap.size=w.heap.size+1:=by rw[<-hV];simp
 obtain⟨X,hX⟩:=gA (w.heap.size)
 have hcV:∀k x,(C2 ⟨(O:Int),d,a,b,c,n,(Z:Int)⟩)[k]? =some x->V.cell? ⟨X,k,none⟩=some x:=fun k x hx=>by
  rw[<-hV,<-hX];have hk:k<7:=(List.getElem?_eq_some_iff.1 hx).1;rcases(show k=0\/k=1\/k=2\/k=3\/k=4\/k=5\/k=6 by omega)with rfl|rfl|rfl|rfl|rfl|rfl|rfl<;>simp[C2]at hx<;>subst hx<;>simp[go_sem]
 have HXC:Hid (∀u:World,u.heap[X]? =V.heap[X]? ->Aq u X 0 (C2 ⟨(O:Int),d,a,b,c,n,(Z:Int)⟩)):=fun u hu=>by
  intro k hk;rw[Nat.zero_add];exact(gC hu (a:=⟨X,k,none⟩)).trans (hcV k _ (gB hk))
 have x0:V.cell? ⟨X,0,none⟩=some (.int .i64 (O:Int)):=hcV 0 _ rfl;have HX0:Hid (∀u:World,u.heap[X]? =V.heap[X]? ->u.cell? ⟨X,0,none⟩=some (.int .i64 (O:Int))/\u.cell? ⟨X,6,none⟩=some (.int .u32 (Z:Int))):=fun u hu=>⟨(gC hu (a:=⟨X,0,none⟩)).trans (hcV 0 _ rfl),(gC hu (a:=⟨X,6,none⟩)).trans (hcV 6 _ rfl)⟩
 have h0:=h.below hb0;have HXN:Hid (X<V.heap.size/\X≠WB/\v.ownBlock≠some X):=⟨oM,by have:=h.b.lt;omega,fun e=>by have:=(h.o.lt _ e).2;omega⟩
 have KS:=A6 (CC E WB l v V h0 oM O oM);have KN:=A6 (fun(m:List Nat) (v:Value) (u:World) (a:Bm E WB m v u) (n:Nat) (hn:n<9223372036854775808) (b:m.length+9<=100000000)=>Bx E WB m v u a n hn (by have:=AU hn;omega));have KX:Hid (∀ (m:List Nat) (v:Value) (u:World),Bm E WB m v u->m.length+4<=100000000->Calls prog 18 #[.pointer (some ⟨WB,0,none⟩),.int .u64 (Z:Int),.int .i64 4] u fun e w'=>e=.returned (.tuple #[])/\Below E u w'/\∃v',Bm E WB (m++B0 4 Z) v' w'/\Bh WB v u v' w'):=fun m v u a b=>Ee E WB m v u a Z oM 4 oM b;have HBE:Hid (Below E w V):=hb0.mono h.le;have HOV:Hid (∀v' w',Bh WB v V v' w'->Bh WB v w v' w'):=fun v' w' q=>Bh.below h hb0 q;have wZ:IntKind.u64.wrap (Z:Int)=(Z:Int):=by unfold IntKind.wrap;simp[IntKind.signed,IntKind.bits];omega
 have HFO:=A6 hFO;obtain⟨N,hN⟩:=gA (F.length)
 have HFN:=A6 hN;have HN5:Hid (N<=5):=by show N<=5;omega
 obtain⟨g,hg⟩:=gA ((fun o=>Az (f o).toNat))
 have HG:Hid (∀o,g o=Az (f o).toNat):=fun o=>by rw[<-hg]
 have HLN:Hid (∀k,((l++[O])++(F.take k).flatMap g).length+20<=100000000):=fun k=>by
  have h1:=Bw (e:=g) (m:=9) (F.take k) (fun x hx=>by rw[HG.out];exact AU (by have:=HFO.out x (List.mem_of_mem_take hx);omega));rw[List.length_take]at h1;rw[List.length_append,List.length_append,List.length_singleton];have h2:min k F.length<=5:=oM;omega
 have HFM:=A6 (fun(k:Nat) (hk:k<F.length)=>CO g hk);rw[hg]at hEI;have HEI:=A6 hEI;have HO37:Hid (O<=37):=by show O<=37;omega
 simp only[hN]at KF;clear h h0 hb0 hs0 z1 z2 z3 hl hC hcV hEI hFO hg hF hEN hf hN hFL h1 h2;go_enter func47,ntmps47;go_upto_region 1 with fail;try rw[hV]
 try rw[hX]
 clear hV hX;go_upto_region 2 with(go_at_call 80;(with_reducible refine KS.out.mono ?_);rintro e9 w4 ⟨rfl,hb4,v4,hm4,ho4⟩;have HB4:=A6 hb4;have HM4:=A6 hm4;have HO4:=A6 ho4;clear hb4 hm4 ho4)
 obtain⟨hX4,hv4⟩:=HO4.out.2 X HXN.out.1 HXN.out.2.1 HXN.out.2.2;have KF4:=A6 (KF.out X w4 (HXC.out w4 hX4));have HX4:=A6 (And.intro hX4 hv4);have HXL:Hid (X<w4.heap.size):=Nat.lt_of_lt_of_le HXN.out.1 HO4.out.1;clear x0 hX4 hv4 KS KF;go_upto_block 0 with(go_at_call 81;(with_reducible refine KF4.out.mono ?_);rintro e9 w5 ⟨q,dd,rfl,ho5,hb5⟩;have HB5:=A6 hb5;have HF5:=A6 ho5;clear hb5 ho5)
 have HM5:=A6 (HM4.below HB5.out);have HX5:Hid (w5.heap[X]? =V.heap[X]?):=(HB5.block X HXL.out).trans HX4.1;have HXL5:Hid (X<w5.heap.size):=Nat.lt_of_lt_of_le HXL.out HB5.size;have HPC:Hid (∀ (u:World) (v':Value),Bh WB v4 w5 v' u->∀k (hk:k<F.length),∃gb,q=some ⟨gb,0,none⟩/\u.cell? ⟨gb,k,none⟩=some (.pointer (some ⟨X,F[k],none⟩))):=fun u v' ho k hk=>by
  have hF5:=HF5.out;rcases hF5.2 with⟨e1,e2⟩|⟨gb,cap,cur,e1,-,-⟩
  .exact absurd e2 (by have:=HFN.out;omega)
  .simp only[Value.slice.injEq]at e1;have hq:q=some ⟨gb,0,none⟩:=e1.1;have hob:(Value.slice q N dd).ownBlock=some gb:=by rw[hq];rfl
   have hlt:=hF5.lt gb hob;have hc:=hF5.cells hob k (.pointer (some ⟨X,F[k],none⟩)) (by simp[Df,hk]);have hadd:(⟨gb,0,none⟩:Addr).add k=⟨gb,k,none⟩:=by unfold Addr.add;split<;>simp_all
   rw[hadd]at hc;have hfr:=(ho.2 gb hlt.2 (fun e=>by have:=HM4.b.lt;omega) (fun e=>by have:=(HM4.o.lt gb e).2;omega)).1;exact⟨gb,hq,(gC hfr (a:=⟨gb,k,none⟩)).trans hc⟩
 have HXF:Hid (∀ (u:World) (v':Value),Bh WB v4 w5 v' u->u.heap[X]? =V.heap[X]?):=fun u v' ho=>(ho.2 X HXL5.out HXN.2.1 HX4.2).1.trans HX5.out;have HJ0:Hid (Below E w5 w5/\∃v',Bm E WB ((l++[O])++(F.take 0).flatMap g) v' w5/\Bh WB v4 w5 v' w5):=⟨Below.refl _ _,v4,(by rw[List.take_zero,List.flatMap_nil,List.append_nil];exact HM5.out),Bh.refl _ _ _⟩
 have HB05:Hid (Below E w w5):=(HBE.trans HB4.out).trans (HB5.mono HM4.le);have HO05:Hid (∀v' w',Bh WB v4 w5 v' w'->Bh WB v w v' w'):=fun v' w' z=>HOV.out _ _ (HO4.trans (Bh.below HM4.out HB5.out z));clear HF5 HM5 HX5 HXL5 HBE HB4 HB5 HOV HO4 HM4 HX4 HXL HXN KF4;go_wp2_with fail
 go_loopw [12] (fun iv wx=>∃k:Nat,k<=N/\iv=.int .i64 (k:Int)/\Hid (Below E w5 wx/\∃v',Bm E WB ((l++[O])++(F.take k).flatMap g) v' wx/\Bh WB v4 w5 v' wx)) (fun iv _=>N-(intOf iv).toNat)
 case atStart=>exact⟨0,gI _,rfl,HJ0.out⟩
 case round=>
  clear HJ0;obtain⟨k,hk,rfl,HJ⟩:=hrel;by_cases hlt:k<N
  .have hkl:k<F.length:=by have:=HFN.out;omega
   obtain⟨hb,v2,hm,ho⟩:=HJ.out;obtain⟨gb,rfl,pc⟩:=HPC.out wr v2 ho k hkl;have hok:=HFO.out F[k] (gD hkl);have hfm:=HFM.out k hkl;have pv:=HC.out wr X (HXC.out wr (HXF.out wr v2 ho)) F[k] hok.1 hok.2.1;obtain⟨o,hoe⟩:=gA (F[k])
   rw[hoe]at pc hok hfm pv;obtain⟨m,hmm⟩:∃m:Nat,f o=(m:Int):=⟨(f o).toNat,oM⟩
   rw[HG.out]at hfm;rw[hmm]at pv hok hfm;rw[Int.toNat_natCast]at hfm;have KN4:=A6 (KN.out _ v2 wr hm m oM (by have:=HLN.out k;omega));have HFM':=A6 hfm;have HBV:=A6 hb;have HOV:=A6 ho;have i1:(0:Int)<=(k:Int):=oM;have i2:(k:Int)<(N:Int):=oM;have wi:IntKind.i64.wrap ((k:Int)+1)=((k+1:Nat):Int):=by have:=HN5.out;rw[IntKind.wrap_i64];omega
   clear hb hm ho hok hfm hoe hmm HJ;go_wp2_with(go_at_call 79;(with_reducible refine KN4.out.mono ?_);rintro e9 w6 ⟨rfl,hb6,v6,hm6,ho6⟩;have HQ:Hid (Below E w5 w6/\∃v',Bm E WB ((l++[O])++(F.take (k+1)).flatMap g) v' w6/\Bh WB v4 w5 v' w6):=⟨HBV.out.trans hb6,v6,(by rw[HFM'.out,<-List.append_assoc];exact hm6),HOV.out.trans ho6⟩;clear hb6 hm6 ho6);exact Qb
  .have e1:¬ (k:Int)<(N:Int):=oM;have hall:F.take k=F:=List.take_of_length_le (by have:=HFN.out;omega);obtain⟨hb,v2,hm,ho⟩:=HJ.out;have hln:=HLN.out k;rw[hall]at hm hln;obtain⟨y0,y6⟩:=HX0.out wr (HXF.out wr v2 ho);have HBV:=A6 hb;have HMV:=A6 hm;have HOV:=A6 ho;have HLL:=A6 hln;clear hlt hall HJ hb hm ho hln;by_cases q1:O=1
   .have q3:((O:Int)==1)=true:=sO;have HT:Hid (l++EI=((l++[O])++F.flatMap g)++B0 4 Z):=by
     show _=_;rw[HEI.out];unfold FR;rw[if_pos q1,Int.toNat_natCast];simp
    have KX4:=A6 (KX.out _ _ _ HMV.out (by have:=HLL.out;omega));clear q1;go_wp2_with(go_at_call 18;(with_reducible refine KX4.out.mono ?_);rintro e9 w6 ⟨rfl,hb6,v6,hm6,ho6⟩;have HB6:=A6 hb6;have HM6:=A6 hm6;have HO6:=A6 ho6;clear hb6 hm6 ho6);first|go_end0|refine bodyPost_ret (results_none rfl _ _ _) rfl ?_|(simp only[Exit.inBlock,Exit.then];refine bodyPost_ret (results_none rfl _ _ _) rfl ?_)
    refine⟨rfl,(HB05.trans HBV.out).trans HB6.out,v6,?_,HO05.out _ _ (HOV.trans HO6.out)⟩;rw[HT.out];exact HM6.out
   .have q3:((O:Int)==1)=false:=sO;have HT:Hid (l++EI=(l++[O])++F.flatMap g):=by
     show _=_;rw[HEI.out];unfold FR;rw[if_neg q1];simp
    clear q1;go_wp2;first|go_end0|refine bodyPost_ret (results_none rfl _ _ _) rfl ?_|(simp only[Exit.inBlock,Exit.then];refine bodyPost_ret (results_none rfl _ _ _) rfl ?_)
    refine⟨rfl,HB05.trans HBV.out,v2,?_,HO05.out _ _ HOV.out⟩;rw[HT.out];exact HMV.out
theorem CN(E RB:Nat)(s:ByteArray)(A most:Nat)(w:World)(h:BB E RB s A w)(hA:A<=s.size)(hs:s.size<=281474976710656)(hE:E<=w.heap.size):
 Calls prog 84 #[.pointer (some ⟨RB,0,none⟩),.int .i64 (most:Int)] w (AX E RB s w (fun(b:Nat)=>.int .i64 (b:Int)) (B4 most ((Ab s).drop A) A)):=by
 have c1:=h.c1;have KN:=Cu E RB s A w h hA hs hE;unfold B4;clear h;cases hq:Bf ((Ab s).drop A) A with
 |error er=>
  obtain⟨er,at_⟩:=er;rw[hq]at KN;have KN':=A6 KN;unfold AX B2 at KN' |-;simp only at KN' |-;clear KN hq;go_enter func84,ntmps84;go_wp2_with(go_at_call 87;(with_reducible refine KN'.out.mono ?_);rintro e9 w4 ⟨rfl,hb4,ho4⟩;have HB4:=A6 hb4;have HO4:=A6 ho4;clear hb4 ho4);exact⟨rfl,rfl,HB4.out,HO4.out⟩
 |ok r=>
  obtain⟨n,l',A'⟩:=r;rw[hq]at KN;have KN':=A6 KN;clear KN hq;unfold AX at KN';simp only at KN';by_cases q:most<n
  .have e1:(most:Int)<(n:Int):=oM;have HG:Hid (∀w',Below E w w'->B5 RB w w'->AX E RB s w (fun(b:Nat)=>Value.int .i64 (b:Int)) (.error (2,A)) (B2 2 A) w'):=fun w' a b=>⟨rfl,a,b⟩
   unfold B2 at HG;simp only;go_enter func84,ntmps84;go_wp2_with(go_at_call 87;(with_reducible refine KN'.out.mono ?_);rintro e9 w4 ⟨rfl,hb4,ho4,hm4,hl4,hd4⟩;have HB4:=A6 hb4;have HO4:=A6 ho4;clear hb4 ho4 hm4 hl4 hd4);exact⟨rfl,HG.out _ HB4.out HO4.out⟩
  .have e1:¬ (most:Int)<(n:Int):=oM;have HG:Hid (∀w',Below E w w'->B5 RB w w'->BB E RB s A' w'->A'<=s.size->l'=(Ab s).drop A'->AX E RB s w (fun(b:Nat)=>Value.int .i64 (b:Int)) (.ok (n,l',A')) (.returned (.int .i64 (n:Int))) w'):=fun w' a b c d e=>⟨rfl,a,b,c,d,e⟩
   simp only;go_enter func84,ntmps84;go_wp2_with(go_at_call 87;(with_reducible refine KN'.out.mono ?_);rintro e9 w4 ⟨rfl,hb4,ho4,hm4,hl4,hd4⟩;have HR4:=A6 (HG.out _ hb4 ho4 hm4 hl4 hd4);clear hb4 ho4 hm4 hl4 hd4);refine bodyPost_ret (by simp[results,results84,go_sem, *];try rfl) rfl ?_;exact HR4.out
theorem Ie(t:ByteArray)(w:World):∃g cap w',(convert 9 49 (.string t)).run prog w=.ok (.slice (some ⟨g,0,none⟩) t.size cap) w'/\Below w.heap.size w w'/\∀j (hj:j<t.size),w'.cell? ⟨g,j,none⟩=some (.int .u8 (t[j].toNat:Int)):=by
 refine⟨w.heap.size,_,_,Go.Lib.run_convert_string_bytes w _ _ 5 t underlying9 underlying49 underlying5,⟨rfl,rfl,rfl,?_,fun k hk=>Go.Lib.bytesWorld_at_old _ _ _ k hk⟩,fun j hj=>?_⟩
 .rw[Go.Lib.bytesWorld_size];omega
 .rw[Go.Lib.bytesWorld_cell _ _ _ j hj];have hj':j<t.data.size:=hj;have h9:t.data.toList.getD j 0=t[j]:=by rw[List.getD,Array.getElem?_toList,Array.getElem?_eq_getElem hj'];rfl
  rw[h9]
theorem Hh:∀ (l:List Nat) (b:Nat),Bi (l++[b])=Bi l+256^l.length*b
 |[],b=>by simp[Bi]
 |a::l,b=>by
  show a+256*Bi (l++[b])=a+256*Bi l+256^(l.length+1)*b;rw[Hh l b,Nat.pow_succ,Nat.mul_add,Nat.add_assoc,Nat.mul_comm (256^l.length) 256,Nat.mul_assoc]
theorem OK{x y:Nat}(hx:x<2^64)(hy:y<2^64):bits .or .u64 (x:Int) (y:Int)=((x|||y:Nat):Int):=by
 have h:(BitVec.ofInt 64 (x:Int)|||BitVec.ofInt 64 (y:Int)).toNat=x|||y:=by
  rw[BitVec.toNat_or];simp only[BitVec.ofInt_natCast,BitVec.toNat_ofNat];rw[Nat.mod_eq_of_lt hx,Nat.mod_eq_of_lt hy]
 have h2:x|||y<2^64:=Nat.or_lt_two_pow hx hy
 show IntKind.u64.wrap (((BitVec.ofInt 64 (x:Int)|||BitVec.ofInt 64 (y:Int)).toNat:Nat):Int)=_;exact RK
theorem O8{n g k:Nat}(hn:n<256^k):n|||g*256^k=n+256^k*g:=by
 have e:(256:Nat)^k=2^(8*k):=by rw[Nat.pow_mul]
 rw[e]at hn |-;rw[Nat.or_comm,Nat.mul_comm g,<-Nat.two_pow_add_eq_or_of_lt hn,Nat.add_comm]
theorem BK(s:ByteArray)(A n:Nat):Ab (s.extract A (A+n))=((Ab s).drop A).take n:=by
 unfold Ab;rw[ByteArray.data_extract,Array.toList_extract];simp[List.extract,List.map_take,List.map_drop]
theorem Gb(E RB:Nat)(s:ByteArray)(A c:Nat)(hc8:c<=8)(w:World)(h:BB E RB s A w)(hA:A<=s.size)(hs:s.size<=281474976710656)(hE:E<=w.heap.size):
 Calls prog 58 #[.pointer (some ⟨RB,0,none⟩),.int .i64 (c:Int)] w (AX E RB s w (fun(b:Nat)=>.int .u64 (b:Int)) (C4 c ((Ab s).drop A) A)):=by
 by_cases hlt:s.size<A+c
 .have KT:Hid (Calls prog 83 #[.pointer (some ⟨RB,0,none⟩),.int .i64 (c:Int)] w fun e w'=>e=B2 242 A/\Below w.heap.size w w'):=FN E RB s A c w h hA hs oM hlt;have HP:Hid (C4 c ((Ab s).drop A) A=.error (242,A)):=by
   show C4 _ _ _=_;unfold C4 Ac Bg;rw[if_pos PY]
  rw[HP.out];have HEW:=A6 hE;unfold AX B2;unfold B2 at KT;simp only;clear h hlt HP;go_enter func58,ntmps58;exact SH
 .obtain⟨t,ht⟩:=gA (s.extract A (A+c))
  have KT:=GO E RB s A c w h hs oM hE;rw[ht]at KT;have KT':=A6 KT;have htb:Ab t=((Ab s).drop A).take c:=by rw[<-ht,BK]
  have hsz:t.size=c:=by rw[<-Ah,htb,List.length_take,List.length_drop,Ah];omega
  have HP:Hid (C4 c ((Ab s).drop A) A=.ok (Bi (Ab t),(Ab s).drop (A+c),A+c)):=by
   show C4 _ _ _=_;unfold C4 Ac Bg Ax;rw[if_neg PY];simp only[htb,List.drop_drop]
  rw[HP.out];have HFIN:Hid (∀ (e:Ending) (w':World),e=.returned (.int .u64 ((Bi (Ab t):Nat):Int))->Below E w w'->B5 RB w w'->BB E RB s (A+c) w'->AX E RB s w (fun(b:Nat)=>Value.int .u64 (b:Int)) (.ok (Bi (Ab t),(Ab s).drop (A+c),A+c)) e w'):=fun e w' a b c' d=>⟨a,b,c',d,oM,rfl⟩
  have HBT:=A6 (BP t);have HTL:Hid ((Ab t).length=c):=by show _=_;rw[Ah];exact hsz
  have HAT:Hid (∀j (hj:j<t.size),(Ab t).take (j+1)=(Ab t).take j++[t[j].toNat]):=fun j hj=>by
   have h1:j<(Ab t).length:=by rw[Ah];exact hj
   rw[List.take_succ_eq_append_getElem h1];congr 2;simp[Ab];rfl
  have KCV:=A6 (Ie t);have HSZ:=A6 hsz;clear h hlt HP htb ht KT hsz;go_enter func58,ntmps58;go_upto_block 0 with(go_at_call 83;(with_reducible refine KT'.out.mono ?_);rintro e9 w4 ⟨rfl,hb4,hm4,ho4⟩;have HB4:=A6 hb4;have HM4:=A6 hm4;have HO4:=A6 ho4;clear hb4 hm4 ho4;obtain⟨g,cap,w5,hr5,hb5,hc5⟩:=KCV.out w4;rw[HSZ.out]at hr5;have HB5:=A6 hb5;have HC5:=A6 hc5;clear hb5 hc5)
  have HR:Hid (Below E w w5/\B5 RB w w5/\BB E RB s (A+c) w5):=⟨HB4.trans (HB5.mono (gH hE HO4.1)),HO4.trans (B5.of HB5.out),HM4.below HB5.out⟩
  clear hr5 HB4 HM4 HO4 HB5 KCV KT' hE hA hs;go_wp2_with fail
  go_loopw [5,13] (fun nv iv wx=>wx=w5/\∃j n:Nat,j<=c/\iv=.int .i64 (j:Int)/\nv=.int .u64 (n:Int)/\Hid (n=Bi ((Ab t).take j))) (fun _ iv _=>c-(intOf iv).toNat)
  case atStart=>exact⟨rfl,0,0,gI _,rfl,rfl,rfl⟩
  case round=>
   obtain⟨rfl,j,n,hj,rfl,rfl,HN⟩:=hrel;by_cases hlt:j<c
   .have e1:(j:Int)<(c:Int):=oM;have i1:(0:Int)<=(j:Int):=oM;have hjt:j<t.size:=by rw[HSZ.out];exact hlt
    have c5:=HC5.out j hjt;have hA1:=HAT.out j hjt;obtain⟨B,hB⟩:=gA (t[j].toNat)
    have hB2:B<256:=by rw[<-hB];exact t[j].toNat_lt
    rw[hB]at c5 hA1;have hln:((Ab t).take j).length=j:=by rw[List.length_take,HTL.out];omega
    have hn:n<256^j:=by
     have h9:=Ej ((Ab t).take j) (fun b hb=>HBT.out b (List.mem_of_mem_take hb));rw[hln,<-HN.out]at h9;exact h9
    have hpw:256^j*256<=2^64:=by
     rw[<-Nat.pow_succ,show(2:Nat)^64=256^8 by decide];exact Nat.pow_le_pow_right dE oM
    obtain⟨T,hT⟩:=gA (B*256^j)
    have hT1:T<2^64:=by
     have h9:(B+1)*256^j<=256*256^j:=Nat.mul_le_mul_right _ oM;rw[Nat.add_mul,hT]at h9;have h8:0<256^j:=Nat.pow_pos dE;omega
    obtain⟨M,hM⟩:=gA (n+256^j*B)
    have hor:bits .or .u64 (n:Int) (T:Int)=(M:Int):=by rw[OK oM hT1,<-hT,O8 hn,hM]
    have HM2:Hid (M=Bi ((Ab t).take (j+1))):=by show M=_;rw[hA1,Hh,hln,<-HN.out,hM]
    have t2:IntKind.u64.wrap (B:Int)=(B:Int):=by unfold IntKind.wrap;simp[IntKind.signed,IntKind.bits];omega
    have w8:IntKind.i64.wrap (8*(j:Int))=((8*j:Nat):Int):=by rw[IntKind.wrap_i64];omega
    have hsh:(B:Int)*2^(8*j)=(T:Int):=by
     rw[<-hT,show(256:Nat)^j=2^(8*j) by rw[Nat.pow_mul],Int.natCast_mul,Int.natCast_pow];rfl
    have t3:IntKind.u64.wrap (T:Int)=(T:Int):=by unfold IntKind.wrap;simp[IntKind.signed,IntKind.bits];omega
    have s4:(0:Int)<=((8*j:Nat):Int):=oM;have wj:IntKind.i64.wrap ((j:Int)+1)=((j+1:Nat):Int):=by rw[IntKind.wrap_i64];omega
    clear hA1 hB hln hn hpw hT hM HN HAT HC5 HTL HBT HR HFIN HSZ;go_wp2;go_roundw
    case rel=>exact⟨trivial,j+1,M,oM,gN,by first|rfl|simp,HM2.out⟩
    case measure=>simp[intOf];omega
   .have e1:¬ (j:Int)<(c:Int):=oM;have hjc:c=j:=oM;have HF:=A6 (HFIN.out _ _ rfl HR.1 HR.2.1 HR.2.2);have HNN:Hid (Bi (Ab t)=n):=by show _=_;rw[HN.out,<-hjc,<-HTL.out,List.take_length]
    rw[HNN.out]at HF;clear hjc;go_wp2;refine bodyPost_ret (by simp[results,results58,go_sem, *];try rfl) rfl ?_;rw[HNN.out];exact HF.out
theorem EY(E RB:Nat)(s:ByteArray)(A:Nat)(w:World)(h:BB E RB s A w)(hA:A<=s.size)(hs:s.size<=281474976710656)(hE:E<=w.heap.size):
 Calls prog 88 #[.pointer (some ⟨RB,0,none⟩)] w (AX E RB s w (fun(b:Nat)=>.int .u32 (b:Int)) (C4 4 ((Ab s).drop A) A)):=by
 have KN:Calls prog 58 #[.pointer (some ⟨RB,0,none⟩),.int .i64 4] w (AX E RB s w (fun(b:Nat)=>.int .u64 (b:Int)) (C4 4 ((Ab s).drop A) A)):=Gb E RB s A 4 dE w h hA hs hE;have hbw:=(FI 4).bw ((Ab s).drop A) A;clear h;cases hq:C4 4 ((Ab s).drop A) A with
 |error er=>
  obtain⟨er,at_⟩:=er;rw[hq]at KN;have KN':=A6 KN;unfold AX B2 at KN' |-;simp only at KN' |-;clear KN hq hbw;go_enter func88,ntmps88;go_wp2_with(go_at_call 58;(with_reducible refine KN'.out.mono ?_);rintro e9 w4 ⟨rfl,hb4,ho4⟩;have HB4:=A6 hb4;have HO4:=A6 ho4;clear hb4 ho4);exact⟨rfl,rfl,HB4.out,HO4.out⟩
 |ok r=>
  obtain⟨n,l',A'⟩:=r;have hn:n<256^4:=(hbw n l' A' (fun b hx=>BP s b (List.mem_of_mem_drop hx)) hq).2.2;have wn:IntKind.u32.wrap (n:Int)=(n:Int):=by unfold IntKind.wrap;simp[IntKind.signed,IntKind.bits];omega
  rw[hq]at KN;have KN':=A6 KN;clear KN hq hbw hn;unfold AX at KN';simp only at KN';have HG:Hid (∀w',Below E w w'->B5 RB w w'->BB E RB s A' w'->A'<=s.size->l'=(Ab s).drop A'->AX E RB s w (fun(b:Nat)=>Value.int .u32 (b:Int)) (.ok (n,l',A')) (.returned (.int .u32 (n:Int))) w'):=fun w' a b c d e=>⟨rfl,a,b,c,d,e⟩
  go_enter func88,ntmps88;go_wp2_with(go_at_call 58;(with_reducible refine KN'.out.mono ?_);rintro e9 w4 ⟨rfl,hb4,ho4,hm4,hl4,hd4⟩;have HR4:=A6 (HG.out _ hb4 ho4 hm4 hl4 hd4);clear hb4 ho4 hm4 hl4 hd4);refine bodyPost_ret (by simp[results,results88,go_sem, *];try rfl) rfl ?_;exact HR4.out
theorem AV{α β γ:Type}(q:Pz α)(f:α->Pz β)(g:β->Pz γ):Ac (Ac q f) g=Ac q fun x=>Ac (f x) g:=by
 funext l p;unfold Ac;cases q l p with
 |error e=>rfl
 |ok r=>obtain⟨x,l',p'⟩:=r;rfl
theorem Bz{α β:Type}(x:α)(f:α->Pz β):Ac (Ax x) f=f x:=rfl
theorem Hm{α:Type}(q:Pz α):(Ac q fun x=>Ax x)=q:=by
 funext l p;unfold Ac Ax;cases q l p with
 |error e=>rfl
 |ok r=>obtain⟨x,l',p'⟩:=r;rfl
theorem An{α β:Type}{q:Pz α}{f:α->Pz β}{l:List Nat}{p:Nat}{e:Int×Nat}(h:q l p=.error e):Ac q f l p=.error e:=by unfold Ac;rw[h]
theorem Au{α β:Type}{q:Pz α}{f:α->Pz β}{l l':List Nat}{p p':Nat}{x:α}(h:q l p=.ok (x,l',p')):Ac q f l p=f x l' p':=by unfold Ac;rw[h]
def G2(i:Ar)(o:Nat)(v:Int):Ar:=if o=1 then{i with d:=v}else if o=2 then{i with a:=v}else if o=3 then{i with b:=v}else if o=4 then{i with c:=v}else{i with n:=v}
def OP:List Nat->Ar->Pz Ar
 |[],i=>Ax i
 |o::os,i=>Ac Bf fun n=>OP os (G2 i o (n:Int))
def CQ(op:Nat):Ar:=⟨(op:Int),0,0,0,0,0,0⟩
theorem Oe:∀op:Nat,1<=op->op<=37->(Ac (BE (Gg op)) fun d=>Ac (BE (FY op)) fun a=>Ac (BE (FQ op)) fun b=>Ac (BE (FZ op)) fun c=>Ac (BE (EB op)) fun n=>Ac (DE op) fun z=>Ax (⟨(op:Int),d,a,b,c,n,z⟩:Ar))=Ac (OP (CJ (CQ op)) (CQ op)) fun i=>Ac (DE op) fun z=>Ax {i with bits:=z}:=fun op h1 h2=>by
 obtain⟨a1,a2⟩:=Jl op oM oM;rw[Jc (i:=CQ op) op rfl];generalize Gg op=D at *;generalize FY op=A at *;generalize FQ op=B at *;generalize FZ op=C at *;generalize EB op=N at *;cases A<;>cases B<;>cases C<;>simp at a1 a2<;>cases D<;>cases N<;>simp[BE,OP,AV,Bz,G2,CQ]
theorem Od(l:List Nat)(p:Nat):Cw l p=Ac (AO 1 37) (fun op=>Ac (OP (CJ (CQ op)) (CQ op)) fun i=>Ac (DE op) fun z=>Ax {i with bits:=z}) l p:=by
 unfold Cw;cases hq:AO 1 37 l p with
 |error e=>rw[An hq,An hq]
 |ok r=>
  obtain⟨op,l',p'⟩:=r;have hk:1<=op/\op<=37:=by
   cases l with
   |nil=>cases hq
   |cons a l=>
    unfold AO at hq;simp only at hq;split at hq
    .cases hq
    .simp only[Except.ok.injEq,Prod.mk.injEq]at hq;omega
  rw[Au hq,Au hq,Oe op hk.1 hk.2]
theorem OA(i:Ar)(o:Nat)(v:Int):(G2 i o v).op=i.op:=by
 unfold G2
 repeat' split
 all_goals rfl
theorem Lj(i:Ar)(o:Nat)(v:Int):(G2 i o v).bits=i.bits:=by
 unfold G2
 repeat' split
 all_goals rfl
def Bb{α:Type}(q:Pz α)(n:Nat)(ys:List α):Pz (List α):=Ac (GC q n) fun xs=>Ax (ys++xs)
theorem EX{α:Type}(q:Pz α)(n:Nat):Bb q n []=GC q n:=by
 unfold Bb;simp only[List.nil_append];exact Hm _
theorem CV{α:Type}(q:Pz α)(ys:List α):Bb q 0 ys=Ax ys:=by
 unfold Bb GC;rw[Bz,List.append_nil]
theorem Cx{α:Type}(q:Pz α)(n:Nat)(ys:List α):Bb q (n+1) ys=Ac q fun x=>Bb q n (ys++[x]):=by
 unfold Bb;rw[GC,AV];congr 1;funext x;rw[AV];congr 1;funext xs;rw[Bz,List.append_assoc];rfl
def Fz:Pz Unit:=fun l p=>if l.take (min l.length 4)≠GP.take (min l.length 4)then .error (240,0)else if l.length<4 then .error (242,0)else .ok ((),l.drop 4,4)
def Ku(s:List Nat):Pz Unit:=fun l p=>if l.length<8 then .error (242,p)else if Bi (l.take 8)≠EV (s.take p)then .error (241,p)else if 8<l.length then .error (244,p+8)else .ok ((),l.drop 8,p+8)
def IA:Pz Cd:=Ac Fz fun _=>Bp
theorem NJ(s:List Nat):C8 s=match Ac IA (fun c=>Ac (Ku s) fun _=>Ax c) s 0 with
 | .error e=>.error e
 | .ok (c,_,_)=>if(AE c).1≠0 then .error ((AE c).1,0)else .ok c:=by
 unfold C8 IA Fz;by_cases h1:s.take (min s.length 4)≠GP.take (min s.length 4)
 .rw[if_pos h1,An (e:=(240,0)) (An (by rw[if_pos h1]))]
 .rw[if_neg h1];by_cases h2:s.length<4
  .rw[if_pos h2,An (e:=(242,0)) (An (by rw[if_neg h1,if_pos h2]))]
  .rw[if_neg h2,AV,Au (x:=()) (l':=s.drop 4) (p':=4) (by rw[if_neg h1,if_neg h2])];cases hq:Bp (s.drop 4) 4 with
   |error e=>rw[An hq]
   |ok r=>
    obtain⟨c,l,p⟩:=r;rw[Au hq];simp only;unfold Ku;by_cases h3:l.length<8
    .rw[if_pos h3,An (e:=(242,p)) (by rw[if_pos h3])]
    .rw[if_neg h3];by_cases h4:Bi (l.take 8)≠EV (s.take p)
     .rw[if_pos h4,An (e:=(241,p)) (by rw[if_neg h3,if_pos h4])]
     .rw[if_neg h4];by_cases h5:8<l.length
      .rw[if_pos h5,An (e:=(244,p+8)) (by rw[if_neg h3,if_neg h4,if_pos h5])]
      .rw[if_neg h5,Au (x:=()) (l':=l.drop 8) (p':=p+8) (by rw[if_neg h3,if_neg h4,if_neg h5])];rfl
def Af{α:Type}(q:Pz α)(s:List Nat)(A:Nat)(e:Int)(A':Nat)(e' p:Int)(p':Int)(x:α):Prop:=
 (e≠0->e'=e/\p'=p)/\(e=0->A<=s.length->match q (s.drop A) A with
  | .ok (y,l',B)=>e'=0/\A'=B/\l'=s.drop B/\B<=s.length/\x=y
  | .error (er,at_)=>er≠0/\e'=er/\p'=(at_:Int))
theorem Af.bad{α:Type}{q:Pz α}{s:List Nat}{A A':Nat}{e p:Int}(h:e≠0)(x:α):Af q s A e A' e p p x:=⟨fun _=>⟨rfl,rfl⟩,fun h'=>absurd h' h⟩
theorem Af.ok{α:Type}{q:Pz α}{s:List Nat}{A B:Nat}{p p':Int}{x:α}(h:q (s.drop A) A=.ok (x,s.drop B,B))(hB:B<=s.length):Af q s A 0 B 0 p p' x:=⟨fun h'=>absurd rfl h',fun _ _=>by rw[h];exact⟨rfl,rfl,rfl,hB,rfl⟩⟩
theorem Af.err{α:Type}{q:Pz α}{s:List Nat}{A A' at_:Nat}{er p:Int}(x:α)(h:q (s.drop A) A=.error (er,at_))(he:er≠0):Af q s A 0 A' er p (at_:Int) x:=⟨fun h'=>absurd rfl h',fun _ _=>by rw[h];exact⟨he,rfl,rfl⟩⟩
theorem Af.pure{α:Type}{s:List Nat}{A:Nat}{e p:Int}(x:α):Af (Ax x) s A e A e p p x:=⟨fun _=>⟨rfl,rfl⟩,fun h hA=>⟨h,rfl,rfl,hA,rfl⟩⟩
theorem Af.zero{α:Type}{q:Pz α}{s:List Nat}{A A':Nat}{e e' p p':Int}{x:α}(h:Af q s A e A' e' p p' x)(h0:e'=0)(hA:e=0->A<=s.length):e=0/\A'<=s.length:=by
 by_cases q0:e=0
 .have h1:=h.2 q0 (hA q0);split at h1
  .exact⟨q0,by rw[h1.2.1];exact h1.2.2.2.1⟩
  .exact absurd (h1.2.1.symm.trans h0) h1.1
 .exact absurd ((h.1 q0).1.symm.trans h0) q0
theorem Af.bind{α β:Type}{q:Pz α}{f:α->Pz β}{s:List Nat}{A A1 A2:Nat}{e e1 e2 p p1 p2:Int}{x:α}{y:β}(h:Af q s A e A1 e1 p p1 x)(k:Af (f x) s A1 e1 A2 e2 p1 p2 y):Af (Ac q f) s A e A2 e2 p p2 y:=by
 refine⟨fun he=>?_,fun he hA=>?_⟩
 .obtain⟨a,b⟩:=h.1 he;obtain⟨c,d⟩:=k.1 (by rw[a];exact he);exact⟨c.trans a,d.trans b⟩
 .have h1:=h.2 he hA;unfold Ac;cases hq:q (s.drop A) A with
  |error z=>
   obtain⟨er,at_⟩:=z;rw[hq]at h1;obtain⟨a,b,c⟩:=h1;obtain⟨d,g⟩:=k.1 (by rw[b];exact a);exact⟨a,d.trans b,g.trans c⟩
  |ok z=>
   obtain⟨y',l',B⟩:=z;rw[hq]at h1;obtain⟨a,b,c,d,g⟩:=h1;subst b;subst g;have k1:=k.2 a d;rw[c];exact k1
theorem Af.map{α β:Type}{q:Pz α}{g:α->β}{s:List Nat}{A A1:Nat}{e e1 p p1:Int}{x:α}(h:Af q s A e A1 e1 p p1 x):Af (Ac q fun x=>Ax (g x)) s A e A1 e1 p p1 (g x):=h.bind (Af.pure _)
theorem Br(w:World)(t:TypeId)(v0 v1 v2 v3:Value):(w.alloc (.cells #[v0,v1,v2,v3] t)).rowIs w.heap.size t 4 (f4 v0 v1 v2 v3):=
 World.rowIs_alloc w #[v0,v1,v2,v3] t _ (fun i hi=>by rcases(show i=0\/i=1\/i=2\/i=3 by have:i<4:=hi;omega)with rfl|rfl|rfl|rfl<;>rfl)
structure AQ(C:Nat)(V V':World):Prop where
 oth:∀b,b≠C->V'.heap[b]? =V.heap[b]?
 bel:∀B,B<=C->Below B V V'
theorem AQ.one(C o:Nat)(V:World)(v:Value):AQ C V (V.setCell ⟨C,o,none⟩ v):=⟨fun b h=>gE h,fun B h=>(Below.refl _ _).setCell h _⟩
theorem AQ.trans{C:Nat}{V V' V'':World}(h:AQ C V V')(k:AQ C V' V''):AQ C V V'':=⟨fun b hb=>(k.oth b hb).trans (h.oth b hb),fun B hB=>(h.bel B hB).trans (k.bel B hB)⟩
theorem AQ.row{C D n:Nat}{V V':World}{t:TypeId}{f:Nat->Value}(h:AQ C V V')(r:V.rowIs D t n f)(hD:D≠C):V'.rowIs D t n f:=r.of_block (h.oth D hD)
theorem AI{V:World}{C:Nat}{t:TypeId}{f:Nat->Value}(rc:V.rowIs C t 4 f)(v0 v1 v2 v3:Value):((((V.setCell ⟨C,0,none⟩ v0).setCell ⟨C,1,none⟩ v1).setCell ⟨C,2,none⟩ v2).setCell ⟨C,3,none⟩ v3).rowIs C t 4 (f4 v0 v1 v2 v3)/\AQ C V ((((V.setCell ⟨C,0,none⟩ v0).setCell ⟨C,1,none⟩ v1).setCell ⟨C,2,none⟩ v2).setCell ⟨C,3,none⟩ v3):=by
 refine⟨((((rc.set 0 v0).set 1 v1).set 2 v2).set 3 v3).congr fun j hj=>?_,(((AQ.one C 0 V v0).trans (AQ.one C 1 _ v1)).trans (AQ.one C 2 _ v2)).trans (AQ.one C 3 _ v3)⟩;exact IZ
theorem Md{V:World}{C:Nat}{t:TypeId}{v0 v1 v2 v3:Value}(rc:V.rowIs C t 4 (f4 v0 v1 v2 v3))(v:Value):(V.setCell ⟨C,1,none⟩ v).rowIs C t 4 (f4 v0 v v2 v3)/\AQ C V (V.setCell ⟨C,1,none⟩ v):=by
 refine⟨(rc.set 1 v).congr fun j hj=>?_,AQ.one C 1 V v⟩;exact IZ
theorem Oh{V:World}{C:Nat}{t:TypeId}{v0 v1 v2 v3:Value}(rc:V.rowIs C t 4 (f4 v0 v1 v2 v3))(v v':Value):((V.setCell ⟨C,2,none⟩ v).setCell ⟨C,3,none⟩ v').rowIs C t 4 (f4 v0 v1 v v')/\AQ C V ((V.setCell ⟨C,2,none⟩ v).setCell ⟨C,3,none⟩ v'):=by
 refine⟨((rc.set 2 v).set 3 v').congr fun j hj=>?_,(AQ.one C 2 V v).trans (AQ.one C 3 _ v')⟩;exact IZ
theorem c4{w:World}{b:Nat}{t:TypeId}{v0 v1 v2 v3:Value}(h:w.rowIs b t 4 (f4 v0 v1 v2 v3)):w.cell? ⟨b,0,none⟩=some v0/\w.cell? ⟨b,1,none⟩=some v1/\w.cell? ⟨b,2,none⟩=some v2/\w.cell? ⟨b,3,none⟩=some v3:=⟨h.cell (i:=0) dE,h.cell (i:=1) dE,h.cell (i:=2) dE,h.cell (i:=3) dE⟩
theorem z4{w:World}{b n:Nat}{t:TypeId}{f:Nat->Value}(h:w.rowIs b t n f):w.frozen? ⟨b,0,none⟩=false/\w.frozen? ⟨b,1,none⟩=false/\w.frozen? ⟨b,2,none⟩=false/\w.frozen? ⟨b,3,none⟩=false:=⟨h.frozen 0,h.frozen 1,h.frozen 2,h.frozen 3⟩
def BZ{α:Type}(B:Nat)(w:World)(s:ByteArray)(A:Nat)(e p:Int)(q:Pz α)(val:α->Value)(P:α->Prop)(r:Ending)(w':World):Prop:=
 ∃ (A':Nat) (e' p':Int) (x:α),r=.returned (.tuple #[.agg #[.string s,.int .i64 (A':Int),.int .i64 e',.int .i64 p'],val x])/\P x/\Af q (Ab s) A e A' e' p p' x/\Below B w w'
def CZ(n:Nat):Pz ByteArray:=Ac (Bg n) fun l=>Ax (F5 l)
theorem GD{n A:Nat}{s:ByteArray}(h:A+n<=s.size):CZ n ((Ab s).drop A) A=.ok (s.extract A (A+n),(Ab s).drop (A+n),A+n):=by
 unfold CZ Ac Bg Ax;rw[if_neg PY];simp only[List.drop_drop];rw[<-BK,DB]
theorem FA{n A:Nat}{s:ByteArray}(hA:A<=s.size)(h:s.size<A+n):CZ n ((Ab s).drop A) A=.error (242,A):=by
 unfold CZ Ac Bg;rw[if_pos PY]
theorem CA(s:ByteArray)(A p er at_:Int)(w:World):
 Calls prog 31 #[.agg #[.string s,.int .i64 A,.int .i64 0,.int .i64 p],.int .i64 er,.int .i64 at_] w fun r w'=>r=.returned (.agg #[.string s,.int .i64 A,.int .i64 er,.int .i64 at_])/\Below w.heap.size w w':=by
 obtain⟨C,hC⟩:=gA (w.heap.size)
 obtain⟨W1,hW1⟩:∃W,w.alloc (.cells #[.string s,.int .i64 A,.int .i64 0,.int .i64 p] 78)=W:=⟨_,rfl⟩
 obtain⟨D,hD⟩:=gA (W1.heap.size)
 obtain⟨W2,hW2⟩:∃W,W1.alloc (.cells #[.string ⟨#[]⟩,.int .i64 0,.int .i64 0,.int .i64 0] 78)=W:=⟨_,rfl⟩
 have r1:W1.rowIs C 78 4 (f4 (.string s) (.int .i64 A) (.int .i64 0) (.int .i64 p)):=by rw[<-hW1,<-hC];exact Br _ _ _ _ _ _
 have hCD:C≠D:=by have:=r1.lt;omega
 have rc:W2.rowIs C 78 4 (f4 (.string s) (.int .i64 A) (.int .i64 0) (.int .i64 p)):=by rw[<-hW2];exact r1.alloc _
 have rd:W2.rowIs D 78 4 (f4 (.string ⟨#[]⟩) (.int .i64 0) (.int .i64 0) (.int .i64 0)):=by rw[<-hW2,<-hD];exact Br _ _ _ _ _ _
 have hb1:Below C w W1:=by rw[<-hW1,<-hC];exact A7 _ _
 have hb2:Below C w W2:=hb1.trans Qe;have hDC:C<=D:=by have:=r1.lt;omega
 obtain⟨c0,c1,c2,c3⟩:=c4 rc;obtain⟨d0,d1,d2,d3⟩:=c4 rd;obtain⟨fc0,fc1,fc2,fc3⟩:=z4 rc;obtain⟨fd0,fd1,fd2,fd3⟩:=z4 rd;have hp:=Oh rc (.int .i64 er) (.int .i64 at_);obtain⟨W3,hW3⟩:∃W,(W2.setCell ⟨C,2,none⟩ (.int .i64 er)).setCell ⟨C,3,none⟩ (.int .i64 at_)=W:=⟨_,rfl⟩
 rw[hW3]at hp;have rd3:=hp.2.row rd hCD.symm;obtain⟨k0,k1,k2,k3⟩:=c4 hp.1;obtain⟨g0,g1,g2,g3⟩:=z4 rd3;have hq:=AI rd3 (.string s) (.int .i64 A) (.int .i64 er) (.int .i64 at_);obtain⟨W4,hPW4⟩:∃W,(((W3.setCell ⟨D,0,none⟩ (.string s)).setCell ⟨D,1,none⟩ (.int .i64 A)).setCell ⟨D,2,none⟩ (.int .i64 er)).setCell ⟨D,3,none⟩ (.int .i64 at_)=W:=⟨_,rfl⟩
 rw[hPW4]at hq;obtain⟨l0,l1,l2,l3⟩:=c4 hq.1;have HB:Hid (Below w.heap.size w W4):=by show Below _ _ _;rw[hC];exact(hb2.trans (hp.2.bel C (gF _))).trans (hq.2.bel C hDC)
 obtain⟨e0,e1,e2,e3⟩:=c4 rd3;have hDCn:=hCD.symm;clear hp hq rd3 r1 rc rd hb1 hb2 hDC;go_enter func31,ntmps31;go_upto_region 1 with fail;try rw[hC]
 try rw[hW1]
 try rw[hD]
 try rw[hW2]
 clear hC hW1 hD hW2;go_wp2_with fail;try rw[hW3]
 try rw[hPW4]
 refine bodyPost_ret (by simp[results,results31,go_sem, *];try rfl) rfl ?_;exact⟨rfl,HB.out⟩
theorem Gl(s:ByteArray)(A:Nat)(e p:Int)(n:Nat)(w:World)(hA:e=0->A<=s.size)(hs:s.size<=281474976710656)(hn:e=0->n<=281474976710656):
 Calls prog 29 #[.agg #[.string s,.int .i64 (A:Int),.int .i64 e,.int .i64 p],.int .i64 (n:Int)] w (BZ w.heap.size w s A e p (CZ n) (fun t=>.string t) (fun t=>t.size<=n)):=by
 obtain⟨C,hC⟩:=gA (w.heap.size)
 obtain⟨W1,hW1⟩:∃W,w.alloc (.cells #[.string s,.int .i64 (A:Int),.int .i64 e,.int .i64 p] 78)=W:=⟨_,rfl⟩
 obtain⟨D,hD⟩:=gA (W1.heap.size)
 obtain⟨W2,hW2⟩:∃W,W1.alloc (.cells #[.string ⟨#[]⟩,.int .i64 0,.int .i64 0,.int .i64 0] 78)=W:=⟨_,rfl⟩
 have r1:W1.rowIs C 78 4 (f4 (.string s) (.int .i64 (A:Int)) (.int .i64 e) (.int .i64 p)):=by rw[<-hW1,<-hC];exact Br _ _ _ _ _ _
 have hCD:C≠D:=by have:=r1.lt;omega
 have rc:W2.rowIs C 78 4 (f4 (.string s) (.int .i64 (A:Int)) (.int .i64 e) (.int .i64 p)):=by rw[<-hW2];exact r1.alloc _
 have rd:W2.rowIs D 78 4 (f4 (.string ⟨#[]⟩) (.int .i64 0) (.int .i64 0) (.int .i64 0)):=by rw[<-hW2,<-hD];exact Br _ _ _ _ _ _
 have hb1:Below C w W1:=by rw[<-hW1,<-hC];exact A7 _ _
 have hb2:Below C w W2:=hb1.trans Qe;have hDC:C<=D:=by have:=r1.lt;omega
 obtain⟨c0,c1,c2,c3⟩:=c4 rc;obtain⟨d0,d1,d2,d3⟩:=c4 rd;obtain⟨fc0,fc1,fc2,fc3⟩:=z4 rc;obtain⟨fd0,fd1,fd2,fd3⟩:=z4 rd;have hDCn:=hCD.symm;obtain⟨N,hN⟩:=gA (s.size)
 by_cases he:e=0
 .subst he;have hA:=hA rfl;have hn:=hn rfl;have wS:IntKind.i64.wrap ((N:Int)-(A:Int))=((N-A:Nat):Int):=by rw[IntKind.wrap_i64];omega
  by_cases hc:s.size<A+n
  .have q1:((N-A:Nat):Int)<(n:Int):=oM;have HP:=A6 (FA hA hc);have RD:=A6 rd;have HB2:=A6 hb2;have HDC:=A6 hDC;have HC:=A6 hC;have hCW:Below C W2 W2:=Below.refl _ _;have HCW:Hid (C<=W2.heap.size):=Nat.le_of_lt rc.lt;have KF:=A6 (fun v=>CA s (A:Int) p 242 (A:Int) v);clear hc r1 rc rd hb1 hb2 hDC hCW hA hs;go_enter func29,ntmps29;go_upto_region 1 with fail;try rw[hC]
   try rw[hW1]
   try rw[hD]
   try rw[hW2]
   clear hC hW1 hD hW2;go_wp2_with(go_at_call 31;(with_reducible refine(KF.out _).mono ?_);rintro e9 w5 ⟨rfl,hb5⟩;have rd5:=RD.out.of_block (hb5.block _ RD.out.lt);obtain⟨m0,m1,m2,m3⟩:=c4 rd5;obtain⟨g0,g1,g2,g3⟩:=z4 rd5;have HB5:=A6 (HB2.out.trans (hb5.mono HCW.out));have RD5:=A6 rd5;clear hb5 rd5);have hq:=AI RD5.out (.string s) (.int .i64 (A:Int)) (.int .i64 242) (.int .i64 (A:Int));obtain⟨W6,hPW6⟩:∃W,(((w5.setCell ⟨D,0,none⟩ (.string s)).setCell ⟨D,1,none⟩ (.int .i64 (A:Int))).setCell ⟨D,2,none⟩ (.int .i64 242)).setCell ⟨D,3,none⟩ (.int .i64 (A:Int))=W:=⟨_,rfl⟩
   rw[hPW6]at hq;try rw[hPW6]
   obtain⟨l0,l1,l2,l3⟩:=c4 hq.1;have HB:Hid (Below w.heap.size w W6):=by show Below _ _ _;rw[HC.out];exact HB5.trans (hq.2.bel C HDC.out)
   clear hq hPW6 c0 c1 c2 c3 d0 d1 d2 d3 fc0 fc1 fc2 fc3 fd0 fd1 fd2 fd3;refine bodyPost_ret RP rfl ?_;exact⟨A,242,A,⟨#[]⟩,rfl,gI _,Af.err _ HP.out dE,HB.out⟩
  .have q1:¬ ((N-A:Nat):Int)<(n:Int):=oM;have HP:=A6 (GD (n:=n) (A:=A) (s:=s) oM);have wA:IntKind.i64.wrap ((A:Int)+(n:Int))=((A+n:Nat):Int):=by rw[IntKind.wrap_i64];omega
   obtain⟨P,hP⟩:=gA (A+n)
   have i1:(0:Int)<=(A:Int):=oM;have i2:(A:Int)<=(P:Int):=oM;have i3:(P:Int)<=(N:Int):=oM;have i4:(0:Int)<=(P:Int):=oM;have i5:A<=P:=oM;have i6:P<=N:=oM;have HPS:Hid (P<=(Ab s).length):=by show P<=_;rw[Ah];omega
   rw[hP]at wA HP;have HTS:Hid ((s.extract A P).size<=n):=by show _<=n;simp;omega
   have hp:=Md rc (.int .i64 (P:Int));obtain⟨W3,hW3⟩:∃W,W2.setCell ⟨C,1,none⟩ (.int .i64 (P:Int))=W:=⟨_,rfl⟩
   rw[hW3]at hp;have rd3:=hp.2.row rd hCD.symm;obtain⟨k0,k1,k2,k3⟩:=c4 hp.1;obtain⟨g0,g1,g2,g3⟩:=z4 rd3;have hq:=AI rd3 (.string s) (.int .i64 (P:Int)) (.int .i64 0) (.int .i64 p);obtain⟨W4,hPW4⟩:∃W,(((W3.setCell ⟨D,0,none⟩ (.string s)).setCell ⟨D,1,none⟩ (.int .i64 (P:Int))).setCell ⟨D,2,none⟩ (.int .i64 0)).setCell ⟨D,3,none⟩ (.int .i64 p)=W:=⟨_,rfl⟩
   rw[hPW4]at hq;obtain⟨l0,l1,l2,l3⟩:=c4 hq.1;have HB:Hid (Below w.heap.size w W4):=by show Below _ _ _;rw[hC];exact(hb2.trans (hp.2.bel C (gF _))).trans (hq.2.bel C hDC)
   obtain⟨e0,e1,e2,e3⟩:=c4 rd3;clear hp hq rd3 r1 rc rd hb1 hb2 hDC hA hs hc hP;go_enter func29,ntmps29;go_upto_region 1 with fail;try rw[hC]
   try rw[hW1]
   try rw[hD]
   try rw[hW2]
   clear hC hW1 hD hW2;go_wp2_with fail;try rw[hW3]
   try rw[hPW4]
   refine bodyPost_ret RP rfl ?_;exact⟨P,0,p,_,rfl,HTS.out,Af.ok HP.out HPS.out,HB.out⟩
 .have q1:(e==0)=false:=by simp;exact he
  have hq:=AI rd (.string s) (.int .i64 (A:Int)) (.int .i64 e) (.int .i64 p);obtain⟨W4,hPW4⟩:∃W,(((W2.setCell ⟨D,0,none⟩ (.string s)).setCell ⟨D,1,none⟩ (.int .i64 (A:Int))).setCell ⟨D,2,none⟩ (.int .i64 e)).setCell ⟨D,3,none⟩ (.int .i64 p)=W:=⟨_,rfl⟩
  rw[hPW4]at hq;obtain⟨l0,l1,l2,l3⟩:=c4 hq.1;have HB:Hid (Below w.heap.size w W4):=by show Below _ _ _;rw[hC];exact hb2.trans (hq.2.bel C hDC)
  have HE:=A6 he;clear hq r1 rc rd hb1 hb2 hDC hA hs hn;go_enter func29,ntmps29;go_upto_region 1 with fail;try rw[hC]
  try rw[hW1]
  try rw[hD]
  try rw[hW2]
  clear hC hW1 hD hW2;go_wp2_with fail;try rw[hPW4]
  refine bodyPost_ret RP rfl ?_;exact⟨A,e,p,⟨#[]⟩,rfl,gI _,Af.bad HE.out _,HB.out⟩
theorem DQ(s:ByteArray)(A:Nat)(e p:Int)(n:Nat)(w:World)(hA:e=0->A<=s.size)(hs:s.size<=281474976710656)(hn:n<=281474976710656):
 Calls prog 29 #[.agg #[.string s,.int .i64 (A:Int),.int .i64 e,.int .i64 p],.int .i64 (n:Int)] w (BZ w.heap.size w s A e p (CZ n) (fun t=>.string t) (fun t=>t.size<=n)):=Gl s A e p n w hA hs fun _=>hn
theorem Et(t:Ty)(p:Option Addr)(n c:Nat)(hn:n<=140737488351232)(w:World):Calls prog 33 #[Co t,.slice p n c] w fun e w'=>e=.returned (.bool (AC t n))/\Below w.heap.size w w':=by
 obtain⟨K,P⟩:=t;unfold AC Co At;simp only;by_cases h1:K=1
 .subst h1;rw[if_pos (Or.inl rfl)];exact RI
 .by_cases h2:K=2
  .subst h2;rw[if_pos (Or.inr rfl)];exact RI
  .rw[if_neg (fun e=>e.elim h1 h2)];have h1':(K==1)=false:=by simpa using h1
   have h2':(K==2)=false:=by simpa using h2
   by_cases h3:K=3
   .subst h3;rw[if_pos rfl];by_cases h:0<=P
    all_goals
     go_enter func33,ntmps33;go_wp2;go_ret;exact⟨Ad (by simp[h];try omega),A7 _ _⟩
   .rw[if_neg h3];have h3':(K==3)=false:=by simpa using h3
    clear h1 h2 h3;exact RI
theorem Hx(v0 v1 v2 v3:Value)(c:Cd)(hk:BF c)(n:Int)(w:World)(hv:Ef w v0 v1 v2 v3 c):
 Calls prog 114 #[.agg #[v0,v1,v2,v3],.int .i64 n] w fun e w'=>e=.returned (.tuple #[Co (Ay c.regs n),.bool (At n c.regs.length)])/\Below w.heap.size w w':=by
 have HB:=hk.regsL;have hr:=hv.regs;obtain⟨p,q,rfl,hrr⟩:=hv.regs;clear hv hk;by_cases h0:0<=n
 .by_cases h1:n<(c.regs.length:Int)
  .obtain⟨k,rfl⟩:∃k:Nat,n=(k:Int):=⟨n.toNat,oM⟩
   have hk:k<c.regs.length:=oM;have e:Ay c.regs (k:Int)=c.regs[k]:=Di rfl hk;have e2:At (k:Int) c.regs.length=true:=Dy.2 ⟨oM,oM⟩;rw[e,e2];obtain⟨lb,lo,rfl,hc⟩:=hr.at hk;obtain⟨⟨K,P⟩,ht⟩:∃t:Ty,c.regs[k]=t:=⟨_,rfl⟩
   rw[ht]at hc |-;have y0:w.cell? ⟨lb,lo+k*2,none⟩=some (.int .i64 K):=hc.at 0 rfl;have y1:w.cell? ⟨lb,lo+k*2+1,none⟩=some (.int .i64 P):=hc.at 1 rfl;have hlb:lb≠w.heap.size:=by have:=Al y0;simp only at this;omega
   obtain⟨N,hN⟩:=gA (c.regs.length)
   rw[hN]at hk HB |-;clear hr hrr hc ht e e2 h0 h1 hN;have g0:∀o o',((w.alloc o).alloc o').cell? ⟨lb,lo+k*2,none⟩=some (.int .i64 K):=fun o o'=>kc (bel (A7 _ _) (A7 _ _)) y0;have g1:∀o o',((w.alloc o).alloc o').cell? ⟨lb,lo+k*2+1,none⟩=some (.int .i64 P):=fun o o'=>kc (bel (A7 _ _) (A7 _ _)) y1;unfold Co;go_enter func114,ntmps114;go_wp2;refine bodyPost_ret RN rfl ?_;exact Nv
  .have e2:At n c.regs.length=false:=by unfold At;simp;omega
   have e:Ay c.regs n=⟨0,0⟩:=by unfold Ay;rw[e2];rfl
   rw[e,e2];obtain⟨N,hN⟩:=gA (c.regs.length)
   rw[hN]at h1 HB |-;clear hr hrr e e2 hN;unfold Co;go_enter func114,ntmps114;go_wp2;refine bodyPost_ret RN rfl ?_;exact Nv
 .have e2:At n c.regs.length=false:=by unfold At;simp;omega
  have e:Ay c.regs n=⟨0,0⟩:=by unfold Ay;rw[e2];rfl
  rw[e,e2];obtain⟨N,hN⟩:=gA (c.regs.length)
  rw[hN]at HB |-;clear hr hrr e e2 hN;unfold Co;go_enter func114,ntmps114;go_wp2;refine bodyPost_ret RN rfl ?_;exact Nv
def DX(b:Int)(t d:Ty):Bool:=
 if b=110 then t.kind==1 else if b=119 then t.kind==2 else if b=118 then t.kind==3 else if b=100 then t.kind==1||t.kind==3
 else if b=120 then t.kind==1||decide (t=d)else if b=99 then decide (t=d)||(t.kind==1&&d.kind==3)else true
def Ap(rs:List Ty)(b n:Int)(d:Ty):Bool:=if b=45 then n==0 else At n rs.length&&DX b (Ay rs n) d
theorem Dk(v0 v1 v2 v3:Value)(c:Cd)(hk:BF c)(b n:Int)(d:Ty)(hb:b=45\/b=110\/b=119\/b=118\/b=100\/b=120\/b=99\/b=97)(w:World)(hv:Ef w v0 v1 v2 v3 c):
 Calls prog 92 #[.agg #[v0,v1,v2,v3],.int .u8 b,.int .i64 n,Co d] w fun e w'=>e=.returned (.bool (Ap c.regs b n d))/\Below w.heap.size w w':=by
 have KT:Hid (∀v,Below w.heap.size w v->Calls prog 114 #[.agg #[v0,v1,v2,v3],.int .i64 n] v fun e w'=>e=.returned (.tuple #[Co (Ay c.regs n),.bool (At n c.regs.length)])/\Below v.heap.size v w'):=fun v h=>Hx v0 v1 v2 v3 c hk n v (hv.below h);unfold Ap;obtain⟨X,hX⟩:=gA (At n c.regs.length)
 obtain⟨⟨K,P⟩,ht⟩:∃t:Ty,Ay c.regs n=t:=⟨_,rfl⟩
 rw[hX,ht]at KT |-;clear hX ht hv hk;obtain⟨dk,dp⟩:=d;unfold Co at KT |-;simp only at KT |-;by_cases h45:b=45
 .subst h45;rw[if_pos rfl];go_enter func92,ntmps92;go_wp2;go_ret;exact Nv
 .rw[if_neg h45];have h45':(b==45)=false:=by simpa using h45
  cases X
  .rw[Bool.false_and];clear hb h45;go_enter func92,ntmps92;go_wp2_with(go_at_call 114;(with_reducible refine(KT.out _ (bel (A7 _ _) (A7 _ _))).mono ?_);rintro e w1 ⟨rfl,hb1⟩;have f0:∀o,(w1.alloc o).cell? ⟨w.heap.size+1,0,none⟩=some (.int .i64 dk):=(fun o=>kc (bel hb1 (A7 _ _)) sG);have f1:∀o,(w1.alloc o).cell? ⟨w.heap.size+1,1,none⟩=some (.int .i64 dp):=(fun o=>kc (bel hb1 (A7 _ _)) sG);have HB1:Hid _:=hb1;clear hb1);go_ret;exact⟨rfl,bel (bel (A7 _ _) (A7 _ _)) (bel HB1.out (A7 _ _))⟩
  .rw[Bool.true_and];rcases hb with rfl|rfl|rfl|rfl|rfl|rfl|rfl|rfl
   .exact absurd rfl h45
   all_goals clear h45 h45'
   all_goals
    cases h1:(K==1)
    all_goals
     by_cases hkd:K=dk
     .subst hkd;by_cases hpd:P=dp
      .subst hpd;go_enter func92,ntmps92;go_wp2_with(go_at_call 114;(with_reducible refine(KT.out _ (bel (A7 _ _) (A7 _ _))).mono ?_);rintro e w1 ⟨rfl,hb1⟩;have f0:∀o,(w1.alloc o).cell? ⟨w.heap.size+1,0,none⟩=some (.int .i64 K):=(fun o=>kc (bel hb1 (A7 _ _)) sG);have f1:∀o,(w1.alloc o).cell? ⟨w.heap.size+1,1,none⟩=some (.int .i64 P):=(fun o=>kc (bel hb1 (A7 _ _)) sG);have HB1:Hid _:=hb1;clear hb1);exact RG
      .go_enter func92,ntmps92;go_wp2_with(go_at_call 114;(with_reducible refine(KT.out _ (bel (A7 _ _) (A7 _ _))).mono ?_);rintro e w1 ⟨rfl,hb1⟩;have f0:∀o,(w1.alloc o).cell? ⟨w.heap.size+1,0,none⟩=some (.int .i64 K):=(fun o=>kc (bel hb1 (A7 _ _)) sG);have f1:∀o,(w1.alloc o).cell? ⟨w.heap.size+1,1,none⟩=some (.int .i64 dp):=(fun o=>kc (bel hb1 (A7 _ _)) sG);have HB1:Hid _:=hb1;clear hb1);exact RG
     .go_enter func92,ntmps92;go_wp2_with(go_at_call 114;(with_reducible refine(KT.out _ (bel (A7 _ _) (A7 _ _))).mono ?_);rintro e w1 ⟨rfl,hb1⟩;have f0:∀o,(w1.alloc o).cell? ⟨w.heap.size+1,0,none⟩=some (.int .i64 dk):=(fun o=>kc (bel hb1 (A7 _ _)) sG);have f1:∀o,(w1.alloc o).cell? ⟨w.heap.size+1,1,none⟩=some (.int .i64 dp):=(fun o=>kc (bel hb1 (A7 _ _)) sG);have HB1:Hid _:=hb1;clear hb1);exact RG
theorem Fy{lo hi:Nat}{l:List Nat}{p b p':Nat}{l':List Nat}(h:AO lo hi l p=.ok (b,l',p')):lo<=b/\b<=hi:=by
 cases l with
 |nil=>cases h
 |cons a l=>
  unfold AO at h;simp only at h;split at h
  .cases h
  .simp only[Except.ok.injEq,Prod.mk.injEq]at h;omega
def BY(E RB:Nat)(s:ByteArray)(A:Nat)(w v:World):Prop:=Below E w v/\B5 RB w v/\BB E RB s A v
theorem BY.start{E RB:Nat}{s:ByteArray}{A:Nat}{w:World}(h:BB E RB s A w):BY E RB s A w w:=⟨Below.refl _ _,B5.refl _ _,h⟩
theorem BY.next{E RB:Nat}{s:ByteArray}{A A':Nat}{w v v':World}(h:BY E RB s A w v)(a:Below E v v')(b:B5 RB v v')(c:BB E RB s A' v'):BY E RB s A' w v':=⟨h.1.trans a,h.2.1.trans b,c⟩
theorem BY.below{E RB:Nat}{s:ByteArray}{A:Nat}{w v v':World}(h:BY E RB s A w v)(hE:E<=w.heap.size)(k:Below v.heap.size v v'):BY E RB s A w v':=⟨h.1.trans (k.mono (gH hE h.2.1.1)),h.2.1.trans (B5.of k),h.2.2.below k⟩
theorem BY.set{E RB:Nat}{s:ByteArray}{A:Nat}{w v:World}(h:BY E RB s A w v)(hE:E<=w.heap.size)(hR:RB<w.heap.size){Y:Nat}(hY:w.heap.size<=Y)(o:Nat)(x:Value):BY E RB s A w (v.setCell ⟨Y,o,none⟩ x):=
 ⟨h.1.setCell (gH hE hY) _,⟨by simpa using h.2.1.1,fun b hb hne=>(gE (by show b≠Y;omega)).trans (h.2.1.2 b hb hne)⟩,⟨h.2.2.b.of_block (gE (by show RB≠Y;omega)),h.2.2.ge⟩⟩
theorem BY.fin{α:Type}{E RB:Nat}{s:ByteArray}{A:Nat}{w v:World}(h:BY E RB s A w v){val:α->Value}{x:α}{l:List Nat}(hA:A<=s.size)(hl:l=(Ab s).drop A):AX E RB s w val (.ok (x,l,A)) (.returned (val x)) v:=⟨rfl,h.1,h.2.1,h.2.2,hA,hl⟩
theorem BY.bad{α:Type}{E RB:Nat}{s:ByteArray}{A:Nat}{w v v':World}(h:BY E RB s A w v)(val:α->Value)(er:Int)(at_:Nat)(a:Below E v v')(b:B5 RB v v'):AX E RB s w val (.error (er,at_)) (B2 er at_) v':=⟨rfl,h.1.trans a,h.2.1.trans b⟩
theorem AD{RB X:Nat}{w w':World}{t:TypeId}{n:Nat}{f:Nat->Value}(h:B5 RB w w')(hr:w.rowIs X t n f)(hX:X≠RB):w'.rowIs X t n f:=hr.of_block (h.2 X hr.lt hX)
theorem Gn(E RB:Nat)(s:ByteArray)(A:Nat)(w:World)(h:BB E RB s A w)(hA:A<=s.size)(hs:s.size<=281474976710656)(hE:E<=w.heap.size):
 Calls prog 53 #[.pointer (some ⟨RB,0,none⟩)] w (AX E RB s w Co (Eg ((Ab s).drop A) A)):=by
 obtain⟨W0,hW0⟩:∃W,w.alloc (.cells #[.int .i64 0,.int .i64 0] 62)=W:=⟨_,rfl⟩
 have hb0:Below w.heap.size w W0:=by rw[<-hW0];exact A7 _ _
 have h0:=h.below hb0;have hE0:E<=W0.heap.size:=gH hE hb0.size;obtain⟨X,hX⟩:=gA (w.heap.size)
 have hXR:X≠RB:=by have:=h.b.lt;omega
 have hr0:W0.rowIs X 62 2 (fun _=>.int .i64 0):=by
  rw[<-hW0,<-hX];exact World.rowIs_alloc w #[.int .i64 0,.int .i64 0] 62 _ (fun i hi=>by
   rcases(show i=0\/i=1 by have:i<2:=hi;omega)with rfl|rfl<;>rfl)
 have KS:Calls prog 85 #[.pointer (some ⟨RB,0,none⟩),.int .i64 1,.int .i64 3] W0 (AX E RB s W0 (fun(b:Nat)=>.int .i64 (b:Int)) (AO 1 3 ((Ab s).drop A) A)):=DT E RB s A 1 3 W0 h0 hA hs hE0;obtain⟨R,hR⟩:=gA (Eg ((Ab s).drop A) A)
 rw[hR];cases hq:AO 1 3 ((Ab s).drop A) A with
 |error er=>
  obtain⟨er,at_⟩:=er;have HP:R=.error (er,at_):=by rw[<-hR];unfold Eg;simp only[Ac,hq]
  rw[HP];rw[hq]at KS;have KS':=A6 KS;have HB0:=A6 (hb0.mono hE);have HO0:=A6 (B5.of (RB:=RB) hb0);unfold AX B2 at KS' |-;simp only at KS' |-;clear h h0 hb0 hr0 KS hq HP hR hX hXR hE0;go_enter func53,ntmps53;go_upto_region 1 with fail;try rw[hW0]
  clear hW0;go_wp2_with(go_at_call 85;(with_reducible refine KS'.out.mono ?_);rintro e9 w4 ⟨rfl,hb4,ho4⟩;have HB4:=A6 hb4;have HO4:=A6 ho4;clear hb4 ho4);exact⟨rfl,rfl,HB0.out.trans HB4.out,HO0.out.trans HO4.out⟩
 |ok r=>
  obtain⟨k,l',A1⟩:=r;have hk:=Fy hq;rw[hq]at KS;have KS':=A6 KS;unfold AX at KS';simp only at KS';have HB0:=A6 (hb0.mono hE);have HO0:=A6 (B5.of (RB:=RB) hb0);have HR0:=A6 hr0;have HRB:=A6 h.b.lt;have HRS:=A6 ((BY.start h).below hE hb0);have HX:Hid (w.heap.size<=X):=Nat.le_of_eq hX;clear h h0 hb0 hr0 KS hE0;go_enter func53,ntmps53;go_upto_region 1 with fail;try rw[hW0]
  try rw[hX]
  clear hW0 hX;go_upto_region 2 with(go_at_call 85;(with_reducible refine KS'.out.mono ?_);rintro e9 w4 ⟨rfl,hb4,ho4,hm4,hl4,hd4⟩;have HB4:=A6 hb4;have HO4:=A6 ho4;have HM4:=A6 hm4;have HD4:=A6 hd4;have HL4:=A6 hl4;clear hb4 ho4 hm4 hl4 hd4)
  obtain⟨Y,hY⟩:=gA (w4.heap.size)
  obtain⟨V,hV⟩:=gA (w4.alloc (.cells #[.int .i64 (k:Int),.int .i64 0] 62))
  have hbV:Below w4.heap.size w4 V:=by rw[<-hV];exact A7 _ _
  have r4:w4.rowIs X 62 2 (fun _=>.int .i64 0):=AD HO4.out HR0.out hXR;have rx:V.rowIs X 62 2 (fun _=>.int .i64 0):=r4.of_block (hbV.block _ r4.lt);have ry:V.rowIs Y 62 2 (fun j=>if j=0 then .int .i64 (k:Int)else .int .i64 0):=by
   rw[<-hV,<-hY];exact World.rowIs_alloc w4 #[.int .i64 (k:Int),.int .i64 0] 62 _ (fun i hi=>by
    rcases(show i=0\/i=1 by have:i<2:=hi;omega)with rfl|rfl<;>rfl)
  have hXY:X≠Y:=by have:=r4.lt;omega
  have hYR:Y≠RB:=by have:=HM4.b.lt;omega
  have hXw:=HX.out;have hwY:w.heap.size<=Y:=by have:=r4.lt;omega
  have hRB:=HRB.out;have D1:BY E RB s A1 w V:=((HRS.next HB4.out HO4.out HM4.out).below hE hbV)
  have y0:V.cell? ⟨Y,0,none⟩=some (.int .i64 (k:Int)):=ry.cell (i:=0) dE;have y1:V.cell? ⟨Y,1,none⟩=some (.int .i64 0):=ry.cell (i:=1) dE;try rw[hV]
  try rw[hY]
  clear hV hY hbV;by_cases q:k=3
  .subst q;have KM:=Cu E RB s A1 V D1.2.2 HL4.out hs (gH hE D1.2.1.1);have HPB:∀r,(Ac Bf fun n=>Ax (⟨3,(n:Int)⟩:Ty)) ((Ab s).drop A1) A1=r->R=r:=fun r e=>by
    unfold Eg at hR;rw[<-hR,AV,Au hq,HD4.out,decide_eq_true rfl,<-e];show Ac (Ac (Ac Bf fun n=>Ax (n:Int)) fun v=>Ax (3,v)) (fun(z:Nat×Int)=>Ax (⟨(z.1:Int),z.2⟩:Ty)) _ _=_;simp only[AV,Bz];rfl
   cases hq2:Bf ((Ab s).drop A1) A1 with
   |error er=>
    obtain⟨er,at_⟩:=er;have HP:=A6 (HPB _ (An hq2));rw[hq2]at KM;have KM':=A6 KM;unfold AX B2 at KM';simp only at KM';have HG:Hid (∀w',Below E V w'->B5 RB V w'->AX E RB s w Co R (B2 er at_) w'):=fun w' a b=>by rw[HP.out];exact D1.bad Co er at_ a b
    unfold B2 at HG;clear D1 HB0 HO0 HR0 HB4 HO4 HM4 KM hq2 HPB HP;go_wp2_with(go_at_call 87;(with_reducible refine KM'.out.mono ?_);rintro e9 w5 ⟨rfl,hb5,ho5⟩;have HR5:=A6 (HG.out _ hb5 ho5);clear hb5 ho5);exact⟨rfl,HR5.out⟩
   |ok r=>
    obtain⟨n,l2,A2⟩:=r;have HP:=A6 (HPB _ (Au hq2));rw[hq2]at KM;have KM':=A6 KM;unfold AX at KM';simp only at KM';have HG:Hid (∀w',Below E V w'->B5 RB V w'->BB E RB s A2 w'->BY E RB s A2 w w'/\w'.rowIs X 62 2 (fun _=>.int .i64 0)/\w'.rowIs Y 62 2 (fun j=>if j=0 then .int .i64 ((3:Nat):Int)else .int .i64 0)):=fun w' a b c=>⟨D1.next a b c,AD b rx hXR,AD b ry hYR⟩
    have HWY:=A6 hwY;clear D1 HB0 HO0 HR0 HB4 HO4 HM4 KM hq2 HPB;go_upto_region 4 with(go_at_call 87;(with_reducible refine KM'.out.mono ?_);rintro e9 w5 ⟨rfl,hb5,ho5,hm5,hl5,hd5⟩;obtain⟨D5,x5,z5⟩:=HG.out _ hb5 ho5 hm5;have HL5:=A6 hl5;have HD5:=A6 hd5;have y5:w5.cell? ⟨Y,1,none⟩=some (.int .i64 0):=z5.cell (i:=1) dE;have f5:=z5.frozen 1;clear hb5 ho5 hm5 hl5 hd5)
    obtain⟨V2,hV2⟩:=gA (w5.setCell ⟨Y,1,none⟩ (.int .i64 (n:Int)))
    have x6:V2.rowIs X 62 2 (fun _=>.int .i64 0):=by rw[<-hV2];exact x5.of_block (gE hXY)
    have z6:=z5.set 1 (.int .i64 (n:Int));rw[hV2]at z6;have a0:V2.cell? ⟨Y,0,none⟩=some (.int .i64 3):=z6.cell (i:=0) dE;have a1:V2.cell? ⟨Y,1,none⟩=some (.int .i64 (n:Int)):=z6.cell (i:=1) dE;have D6:BY E RB s A2 w V2:=by rw[<-hV2];exact D5.set hE hRB HWY.out 1 _
    have x0:V2.cell? ⟨X,0,none⟩=some (.int .i64 0):=x6.cell (i:=0) dE;have x1:V2.cell? ⟨X,1,none⟩=some (.int .i64 0):=x6.cell (i:=1) dE;have f0:=x6.frozen 0;have f1:=x6.frozen 1;have HD:=A6 ((D6.set hE hRB hXw 0 (.int .i64 3)).set hE hRB hXw 1 (.int .i64 (n:Int)));try rw[hV2]
    clear hV2 D5 D6 x5 z5 x6 z6 y5 f5;go_wp2;refine bodyPost_ret (by simp[results,results53,go_sem, *];try rfl) rfl ?_;rw[HP.out];exact HD.fin HL5.out HD5.out
  .have q2:((k:Int)==3)=false:=sO;have x0:V.cell? ⟨X,0,none⟩=some (.int .i64 0):=rx.cell (i:=0) dE;have x1:V.cell? ⟨X,1,none⟩=some (.int .i64 0):=rx.cell (i:=1) dE;have f0:=rx.frozen 0;have f1:=rx.frozen 1;have D2:=(D1.set hE hRB hXw 0 (.int .i64 (k:Int))).set hE hRB hXw 1 (.int .i64 0);have HD:=A6 D2;clear D1 D2 HB0 HO0 HR0 HB4 HO4 HM4;have HP:Hid (R=.ok (⟨(k:Int),0⟩,l',A1)):=by
    show _=_;unfold Eg at hR;rw[<-hR,AV,Au hq,decide_eq_false q];rfl
   go_wp2;refine bodyPost_ret (by simp[results,results53,go_sem, *];try rfl) rfl ?_;rw[HP.out];exact HD.fin HL4.out HD4.out
def Ez{α:Type}(E RB:Nat)(s:ByteArray)(w:World)(t:TypeId)(k:Nat)(f:α->List Value)(q:Except (Int×Nat) (List α×List Nat×Nat))(e:Ending)(w':World):Prop:=
 match q with
 | .error (er,at_)=>e=B2 er at_/\Below E w w'/\B5 RB w w'
 | .ok (xs,l',A')=>∃v,e=.returned v/\w'.ownsRow w.heap.size t k v xs.length (AH f xs)/\Below E w w'/\B5 RB w w'/\BB E RB s A' w'/\A'<=s.size/\l'=(Ab s).drop A'
theorem CU{most:Nat}{l l':List Nat}{p n p':Nat}(h:B4 most l p=.ok (n,l',p')):n<=most:=by
 unfold B4 at h;split at h
 .cases h
 .split at h
  .cases h
  .simp only[Except.ok.injEq,Prod.mk.injEq]at h;omega
end Go.Proofs.YtnlgkkbmbijndaaGreat
