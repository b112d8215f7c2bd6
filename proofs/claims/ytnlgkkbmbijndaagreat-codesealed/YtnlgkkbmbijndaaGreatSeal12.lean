import Derived.Test.YtnlgkkbmbijndaaGreatSeal10
import Derived.Deep.DeepCutAuto
import Derived.Test.YtnlgkkbmbijndaaGreatSeal4
import Derived.Test.YtnlgkkbmbijndaaGreatSeal8
import Derived.Test.YtnlgkkbmbijndaaGreatSeal9
import Derived.Laws.IdiomStrings
import Derived.Test.YtnlgkkbmbijndaaGreatSeal1
namespace Go.Proofs.YtnlgkkbmbijndaaGreat
open Go.RowKit Go.Proofs.Tryz
set_option linter.all false
set_option maxRecDepth 100000
set_option maxHeartbeats 16000000
def BJ(most:Int):Pz Nat:=if most<0 then Bf else B4 most.toNat
theorem Hk{most er:Int}{l:List Nat}{A at_:Nat}(h:Bf l A=.error (er,at_)):BJ most l A=.error (er,at_):=by
 unfold BJ;by_cases q:most<0
 .rw[if_pos q,h]
 .rw[if_neg q];unfold B4;rw[h]
theorem O3{most:Int}{l l':List Nat}{A B M:Nat}(h:Bf l A=.ok (M,l',B))(hm:most<0\/(M:Int)<=most):BJ most l A=.ok (M,l',B):=by
 unfold BJ;by_cases q:most<0
 .rw[if_pos q,h]
 .rw[if_neg q];unfold B4;rw[h];simp only;rw[if_neg oM]
theorem Ks{most:Int}{l l':List Nat}{A B M:Nat}(h:Bf l A=.ok (M,l',B))(h0:0<=most)(hm:most<(M:Int)):BJ most l A=.error (2,A):=by
 unfold BJ;rw[if_neg oM];unfold B4;rw[h];simp only;rw[if_pos oM]
theorem Bt(s:ByteArray)(A:Nat)(e p most:Int)(w:World)(hA:e=0->A<=s.size)(hs:s.size<=281474976710656):
 Calls prog 59 #[.agg #[.string s,.int .i64 (A:Int),.int .i64 e,.int .i64 p],.int .i64 most] w (BZ w.heap.size w s A e p (BJ most) (fun(n:Nat)=>.int .i64 (n:Int)) (fun n=>n<2^63)):=by
 obtain⟨C,hC⟩:=gA (w.heap.size)
 obtain⟨W1,hW1⟩:∃W,w.alloc (.cells #[.string s,.int .i64 (A:Int),.int .i64 e,.int .i64 p] 78)=W:=⟨_,rfl⟩
 obtain⟨D,hD⟩:=gA (W1.heap.size)
 obtain⟨W2,hW2⟩:∃W,W1.alloc (.cells #[.string ⟨#[]⟩,.int .i64 0,.int .i64 0,.int .i64 0] 78)=W:=⟨_,rfl⟩
 have r1:W1.rowIs C 78 4 (f4 (.string s) (.int .i64 (A:Int)) (.int .i64 e) (.int .i64 p)):=by rw[<-hW1,<-hC];exact Br _ _ _ _ _ _
 have hCD:C≠D:=by have:=r1.lt;omega
 have rc:W2.rowIs C 78 4 (f4 (.string s) (.int .i64 (A:Int)) (.int .i64 e) (.int .i64 p)):=by rw[<-hW2];exact r1.alloc _
 have rd:W2.rowIs D 78 4 (f4 (.string ⟨#[]⟩) (.int .i64 0) (.int .i64 0) (.int .i64 0)):=by rw[<-hW2,<-hD];exact Br _ _ _ _ _ _
 have hb1:Below C w W1:=by rw[<-hW1,<-hC];exact A7 _ _
 have hb2:Below C w W2:=hb1.trans Qe;have hDC:C<=D:=by have:=r1.lt;omega
 obtain⟨c0,c1,c2,c3⟩:=c4 rc;obtain⟨d0,d1,d2,d3⟩:=c4 rd;obtain⟨fc0,fc1,fc2,fc3⟩:=z4 rc;obtain⟨fd0,fd1,fd2,fd3⟩:=z4 rd;have hDCn:=hCD.symm;obtain⟨N,hN⟩:=gA (s.size)
 have HC:=A6 hC;have HDC:=A6 hDC;by_cases he:e=0
 .subst he;have hA:=hA rfl;have KF:=A6 (fun(a b:Int) v=>CA s a p b (A:Int) v);have HST:=A6 (show W2.rowIs C 78 4 (f4 (.string s) (.int .i64 ((A:Nat):Int)) (.int .i64 0) (.int .i64 p))/\W2.rowIs D 78 4 (f4 (.string ⟨#[]⟩) (.int .i64 0) (.int .i64 0) (.int .i64 0))/\Below C w W2 from⟨rc,rd,hb2⟩);clear r1 rc rd hb1 hb2 hDC;go_enter func59,ntmps59;go_upto_region 1 with fail;try rw[hC]
  try rw[hW1]
  try rw[hD]
  try rw[hW2]
  clear hC hW1 hD hW2;go_wp2_with fail;clear c0 c1 c2 c3 d0 d1 d2 d3 fc0 fc1 fc2 fc3 fd0 fd1 fd2 fd3
  go_loopw [7,8] (fun nv kv wx=>∃k n:Nat,k<=9/\A+k<=N/\nv=.int .i64 (n:Int)/\kv=.int .i64 (k:Int)/\Hid (n<128^k/\CD ((Ab s).drop A) 0 0=CD ((Ab s).drop (A+k)) k n)/\Hid (wx.rowIs C 78 4 (f4 (.string s) (.int .i64 ((A+k:Nat):Int)) (.int .i64 0) (.int .i64 p))/\wx.rowIs D 78 4 (f4 (.string ⟨#[]⟩) (.int .i64 0) (.int .i64 0) (.int .i64 0))/\Below C w wx)) (fun _ kv _=>10-(intOf kv).toNat)
  case atStart=>exact⟨0,0,oM,oM,rfl,rfl,⟨dE,rfl⟩,HST.out⟩
  case round=>
   obtain⟨k,n,hk,hAk,rfl,rfl,HJ,HW⟩:=hrel;obtain⟨hn,hR⟩:=HJ.out;obtain⟨P,hP⟩:=gA (A+k)
   rw[hP]at hR hAk HW;obtain⟨rc,rd,hbw⟩:=HW.out;obtain⟨c0,c1,c2,c3⟩:=c4 rc;obtain⟨d0,d1,d2,d3⟩:=c4 rd;obtain⟨fc0,fc1,fc2,fc3⟩:=z4 rc;obtain⟨fd0,fd1,fd2,fd3⟩:=z4 rd;have hCW:C<=wr.heap.size:=Nat.le_of_lt rc.lt;by_cases hlt:P<N
   .have hPs:P<s.size:=oM;rw[Dv hPs]at hR;obtain⟨B,hB⟩:=gA (s[P].toNat)
    rw[hB]at hR;have hB2:B<256:=by rw[<-hB];exact s[P].toNat_lt
    have i1:(0:Int)<=(P:Int):=oM;have i2:(P:Int)<(N:Int):=oM;have i3:¬ (N:Int)<=(P:Int):=oM;have wP:IntKind.i64.wrap ((P:Int)+1)=((P+1:Nat):Int):=by rw[IntKind.wrap_i64];omega
    have wB:IntKind.i64.wrap (B:Int)=(B:Int):=by rw[IntKind.wrap_i64];omega
    obtain⟨Q,hQ⟩:=gA (P+1)
    rw[hQ]at wP;have hp:=Md rc (.int .i64 (Q:Int));obtain⟨W3,hW3⟩:∃W,wr.setCell ⟨C,1,none⟩ (.int .i64 (Q:Int))=W:=⟨_,rfl⟩
    rw[hW3]at hp;have rd3:=hp.2.row rd hCD.symm;obtain⟨k0,k1,k2,k3⟩:=c4 hp.1;obtain⟨e0,e1,e2,e3⟩:=c4 rd3;obtain⟨g0,g1,g2,g3⟩:=z4 rd3;have hb3:Below C w W3:=hbw.trans (hp.2.bel C (gF _));have hCW3:C<=W3.heap.size:=Nat.le_of_lt hp.1.lt;have RD:=A6 rd3;have RC:=A6 hp.1;have HBW:=A6 hb3;have HCW:=A6 hCW3;rw[CD]at hR;by_cases q:k=9\/(B=0/\0<k)
    .rw[if_pos q]at hR;have HP:Hid (Bf ((Ab s).drop A) A=.error (243,A)):=by show Bf _ _=_;unfold Bf;rw[hR]
     by_cases q9:k=9
     .subst q9;exact Sm
     .obtain⟨hB0,hk0⟩:B=0/\0<k:=oM;subst hB0;have s1:(k:Int)≠9:=oM;have s2:((k:Int)==9)=false:=sO;have s3:(0:Int)<(k:Int):=oM;exact Sm
    .rw[if_neg q]at hR;have hk8:k<=8:=oM;obtain⟨G,hG⟩:=gA (B%128)
     have hG1:G<128:=oM;have hpw:=OR hk8;obtain⟨T,hT⟩:=gA (G*128^k)
     have hT1:T<2^63:=by
      exact SU
     have hn1:n<2^63:=oM;obtain⟨M,hM⟩:=gA (n+T)
     have hor:bits .or .i64 (n:Int) (T:Int)=(M:Int):=by rw[Qh hn1 hT1,<-hT,M5 hn,hT,hM]
     have hM1:M<128^(k+1):=by
      have h9:(G+1)*128^k<=128*128^k:=Nat.mul_le_mul_right _ oM;rw[Nat.add_mul,hT]at h9;rw[Nat.pow_succ];omega
     have hM63:M<2^63:=by rw[Nat.pow_succ]at hM1;omega
     have t1:((B:Int).tmod 128)=(G:Int):=by rw[Int.tmod_eq_emod_of_nonneg oM];omega
     have t1':((B:Int)%128)=(G:Int):=oM;have t2:IntKind.i64.wrap (G:Int)=(G:Int):=by rw[IntKind.wrap_i64];omega
     have s2:((k:Int)==9)=false:=sO;have w7:IntKind.i64.wrap (7*(k:Int))=((7*k:Nat):Int):=by rw[IntKind.wrap_i64];omega
     have wu:IntKind.u64.wrap ((7*k:Nat):Int)=((7*k:Nat):Int):=by unfold IntKind.wrap;simp[IntKind.signed,IntKind.bits];omega
     have hsh:(G:Int)*2^(7*k)=(T:Int):=by
      rw[<-hT,show(128:Nat)^k=2^(7*k) by rw[Nat.pow_mul],Int.natCast_mul,Int.natCast_pow];rfl
     have t3:IntKind.i64.wrap (T:Int)=(T:Int):=by rw[IntKind.wrap_i64];omega
     have s4:(0:Int)<=((7*k:Nat):Int):=oM;have s5:((7*k:Nat):Int)<64:=oM;have wK:IntKind.i64.wrap ((k:Int)+1)=((k+1:Nat):Int):=by rw[IntKind.wrap_i64];omega
     have t4:wrap64 (T:Int)=(T:Int):=IntWalk.wrap64_in _ oM;have hfree:((B:Int)==0)=false\/(B=0/\k=0/\G=0/\T=0/\n=0/\M=0):=by
      by_cases qb:B=0
      .refine .inr ?_;have hk0:k=0:=oM;subst hk0;have hn0:n=0:=by simpa using hn
       have hG0:G=0:=oM;have hT0:T=0:=by rw[<-hT,hG0,Nat.zero_mul]
       exact⟨qb,rfl,hG0,hT0,hn0,by rw[<-hM,hT0,hn0]⟩
      .exact .inl (beq_eq_false_iff_ne.2 oM)
     by_cases hb:B<128
     .rw[if_pos hb]at hR;have HP:Hid (Bf ((Ab s).drop A) A=.ok (M,(Ab s).drop Q,Q)):=by
       show Bf _ _=_;unfold Bf;rw[hR];have e1:n+B*128^k=M:=by rw[<-hM,<-hT,<-hG,Nat.mod_eq_of_lt hb]
       simp only[e1,List.drop_drop];rw[show A+(k+1)=Q by omega]
      have HQL:Hid (Q<=(Ab s).length):=by show Q<=_;rw[Ah];omega
      have HM:=A6 hM63;have e5:(B:Int)<128:=oM;clear q hR HJ hn hp rd3 hb3 hCW3 hCW rc rd hbw HW hA hAk hP hlt hM1 hM63 hn1 hT1 hpw hT hM hG hQ;by_cases hmost:most<0\/(M:Int)<=most
      .have HQK:=A6 (O3 HP.out hmost);have hms:¬ (0:Int)<=most\/((0:Int)<=most/\¬most<(M:Int)):=oM;clear hmost;have hq:=AI RD.out (.string s) (.int .i64 (Q:Int)) (.int .i64 0) (.int .i64 p);obtain⟨W4,hPW4⟩:∃W,(((W3.setCell ⟨D,0,none⟩ (.string s)).setCell ⟨D,1,none⟩ (.int .i64 (Q:Int))).setCell ⟨D,2,none⟩ (.int .i64 0)).setCell ⟨D,3,none⟩ (.int .i64 p)=W:=⟨_,rfl⟩
       rw[hPW4]at hq;obtain⟨l0,l1,l2,l3⟩:=c4 hq.1;have HB:Hid (Below w.heap.size w W4):=by show Below _ _ _;rw[HC.out];exact HBW.trans (hq.2.bel C HDC.out)
       clear hq;rcases hms with m1|⟨m1,m2⟩
       .rcases hfree with f1|⟨rfl,rfl,rfl,rfl,rfl,rfl⟩
        .exact QM
        .clear w7 wu hsh t1 t1' t2 t3 t4 hor s2 wK wB s4 s5;simp only[Int.ofNat_zero];exact QM
       .rcases hfree with f1|⟨rfl,rfl,rfl,rfl,rfl,rfl⟩
        .exact QM
        .clear w7 wu hsh t1 t1' t2 t3 t4 hor s2 wK wB s4 s5;simp only[Int.ofNat_zero];exact QM
      .have HQK:=A6 (Ks HP.out (show 0<=most by omega) (show most<(M:Int) by omega));have m1:(0:Int)<=most:=oM;have m2:most<(M:Int):=oM;clear hmost;rcases hfree with f1|⟨rfl,rfl,rfl,rfl,rfl,rfl⟩
       .go_wp2_with(go_at_call 31;(with_reducible refine(KF.out _ _ _).mono ?_);rintro e9 w5 ⟨rfl,hb5⟩;have rd5:=RD.out.of_block (hb5.block _ RD.out.lt);obtain⟨m0,m1,m2,m3⟩:=c4 rd5;obtain⟨g0,g1,g2,g3⟩:=z4 rd5;have HB5:=A6 (HBW.out.trans (hb5.mono HCW.out));have RD5:=A6 rd5;clear hb5 rd5);have hq:=AI RD5.out (.string s) (.int .i64 (Q:Int)) (.int .i64 2) (.int .i64 (A:Int));obtain⟨W6,hPW6⟩:∃W,(((w5.setCell ⟨D,0,none⟩ (.string s)).setCell ⟨D,1,none⟩ (.int .i64 (Q:Int))).setCell ⟨D,2,none⟩ (.int .i64 2)).setCell ⟨D,3,none⟩ (.int .i64 (A:Int))=W:=⟨_,rfl⟩
        rw[hPW6]at hq;try rw[hPW6]
        obtain⟨l0,l1,l2,l3⟩:=c4 hq.1;have HB:Hid (Below w.heap.size w W6):=by show Below _ _ _;rw[HC.out];exact HB5.trans (hq.2.bel C HDC.out)
        clear hq hPW6 c0 c1 c2 c3 d0 d1 d2 d3 fc0 fc1 fc2 fc3 fd0 fd1 fd2 fd3;refine bodyPost_ret RO rfl ?_;exact⟨_,2,A,0,rfl,dE,Af.err _ (HQK.out) dE,HB.out⟩
       .omega
     .rw[if_neg hb,hG,hT,hM]at hR;have hR':CD ((Ab s).drop A) 0 0=CD ((Ab s).drop (A+(k+1))) (k+1) M:=by rw[hR,show A+(k+1)=P+1 by omega]
      have HQ:Hid (M<128^(k+1)/\CD ((Ab s).drop A) 0 0=CD ((Ab s).drop (A+(k+1))) (k+1) M):=⟨hM1,hR'⟩
      have e5:¬ (B:Int)<128:=oM;have hPk:Q=A+(k+1):=oM;have HS3:Hid (W3.rowIs C 78 4 (f4 (.string s) (.int .i64 ((A+(k+1):Nat):Int)) (.int .i64 0) (.int .i64 p))/\W3.rowIs D 78 4 (f4 (.string ⟨#[]⟩) (.int .i64 0) (.int .i64 0) (.int .i64 0))/\Below C w W3):=by
       refine⟨?_,rd3,hb3⟩;rw[<-hPk];exact hp.1
      have ha1:k+1<=9:=oM;have ha2:A+(k+1)<=N:=oM;clear q hR hR' HJ hn hM1 hM63 hp rd3 hb3 hCW3 hCW rc rd hbw HW hn1 hT1 hpw hT hM hG hQ hP hPk;rcases hfree with f1|⟨rfl,rfl,rfl,rfl,rfl,rfl⟩
      .go_wp2_with fail;try rw[hW3]
       go_roundw
       case rel=>exact⟨_,_,ha1,ha2,by first|rfl|(go_num)|simp,by first|rfl|(go_num)|simp,HQ.out,HS3.out⟩
       case measure=>simp[intOf];omega
      .omega
   .have e1:(N:Int)<=(P:Int):=oM;rw[EF (s:=s) (A:=P) oM,CD]at hR;have HP:Hid (Bf ((Ab s).drop A) A=.error (242,A)):=by show Bf _ _=_;unfold Bf;rw[hR]
    have RD:=A6 rd;have HBW:=A6 hbw;have HCW:=A6 hCW;clear hR HJ hn hlt rc rd hbw HW hA hAk hP hCW;go_wp2_with(go_at_call 31;(with_reducible refine(KF.out _ _ _).mono ?_);rintro e9 w5 ⟨rfl,hb5⟩;have rd5:=RD.out.of_block (hb5.block _ RD.out.lt);obtain⟨m0,m1,m2,m3⟩:=c4 rd5;obtain⟨g0,g1,g2,g3⟩:=z4 rd5;have HB5:=A6 (HBW.out.trans (hb5.mono HCW.out));have RD5:=A6 rd5;clear hb5 rd5);have hq:=AI RD5.out (.string s) (.int .i64 (P:Int)) (.int .i64 242) (.int .i64 (A:Int));obtain⟨W6,hPW6⟩:∃W,(((w5.setCell ⟨D,0,none⟩ (.string s)).setCell ⟨D,1,none⟩ (.int .i64 (P:Int))).setCell ⟨D,2,none⟩ (.int .i64 242)).setCell ⟨D,3,none⟩ (.int .i64 (A:Int))=W:=⟨_,rfl⟩
    rw[hPW6]at hq;try rw[hPW6]
    obtain⟨l0,l1,l2,l3⟩:=c4 hq.1;have HB:Hid (Below w.heap.size w W6):=by show Below _ _ _;rw[HC.out];exact HB5.trans (hq.2.bel C HDC.out)
    clear hq hPW6 c0 c1 c2 c3 d0 d1 d2 d3 fc0 fc1 fc2 fc3 fd0 fd1 fd2 fd3;refine bodyPost_ret RO rfl ?_;exact⟨_,242,A,0,rfl,dE,Af.err _ (Hk HP.out) dE,HB.out⟩
 .have q1:(e==0)=false:=by simp;exact he
  have hq:=AI rd (.string s) (.int .i64 (A:Int)) (.int .i64 e) (.int .i64 p);obtain⟨W4,hPW4⟩:∃W,(((W2.setCell ⟨D,0,none⟩ (.string s)).setCell ⟨D,1,none⟩ (.int .i64 (A:Int))).setCell ⟨D,2,none⟩ (.int .i64 e)).setCell ⟨D,3,none⟩ (.int .i64 p)=W:=⟨_,rfl⟩
  rw[hPW4]at hq;obtain⟨l0,l1,l2,l3⟩:=c4 hq.1;have HB:Hid (Below w.heap.size w W4):=by show Below _ _ _;rw[hC];exact hb2.trans (hq.2.bel C hDC)
  have HE:=A6 he;clear hq r1 rc rd hb1 hb2 hDC hA hs;go_enter func59,ntmps59;go_upto_region 1 with fail;try rw[hC]
  try rw[hW1]
  try rw[hD]
  try rw[hW2]
  clear hC hW1 hD hW2;go_wp2_with fail
  go_loopw [] (fun wx=>wx=W2) (fun _=>0)
  case atStart=>rfl
  case round=>
   obtain rfl:=hrel;go_wp2_with fail;try rw[hPW4]
   refine bodyPost_ret RO rfl ?_;exact⟨A,e,p,0,rfl,dE,Af.bad HE.out _,HB.out⟩
theorem Ha{i:Ar}(h:DC i):(Ce i).length<=55:=by
 have h2:=Bw (e:=fun o=>Az (Ls i o).toNat) (m:=9) (CJ i) (fun o ho=>AU (by have:=LI h o ho;omega));have h3:=Gx i;have h4:(FR i.op.toNat i.bits).length<=4:=by unfold FR;split;rw[AZ];omega;simp
 rw[H9 h.1 h.2.1,List.length_append,List.length_append,List.length_singleton];omega
theorem IV(E WB:Nat)(l:List Nat)(v:Value)(w:World)(h:Bm E WB l v w)(rs:List Ar)(hrs:∀x∈rs,DC x)(hn:rs.length<=32768)(p:Option Addr)(q:Nat)(hr:∀u,Below E w u->Bl 7 C2 u (.slice p rs.length q) rs)(hl:l.length+2000000<=100000000):
 Calls prog 46 #[.pointer (some ⟨WB,0,none⟩),.slice p rs.length q,.func (.func 47) #[.pointer (some ⟨WB,0,none⟩)] #[]] w fun e w'=>e=.returned (.tuple #[])/\Below E w w'/\∃v',Bm E WB (l++B7 Ce rs) v' w'/\Bh WB v w v' w':=by
 obtain⟨N,hN⟩:=gA (rs.length)
 have hnl:=AU (n:=N) oM;have HLN:Hid (∀k,((l++Az N)++(rs.take k).flatMap Ce).length+100<=100000000):=fun k=>by
  have h1:=Bw (e:=Ce) (m:=55) (rs.take k) (fun x hx=>Ha (hrs x (List.mem_of_mem_take hx)));rw[List.length_take]at h1;rw[List.length_append,List.length_append];have h2:min k rs.length<=32768:=oM;omega
 have HFM:=A6 (fun(k:Nat) (hk:k<rs.length)=>CO Ce hk);have HEL:Hid (B7 Ce rs=Az N++rs.flatMap Ce):=by show B7 Ce rs=_;unfold B7;rw[hN]
 have KW:=A6 (fun(m:List Nat) (v:Value) (u:World) (a:Bm E WB m v u) (x:Ar) (hx:DC x) (b:m.length+100<=100000000)=>Nm E WB m v u a x hx oM);have KN:=A6 (Bx E WB l v w h N oM oM);have HRW:Hid (∀u,Below E w u->Bl 7 C2 u (.slice p N q) rs):=fun u hu=>by rw[<-hN];exact hr u hu
 have HOK:=A6 hrs;have HN:=A6 hN;rw[hN]at hn |-;clear hr hrs h hN;go_enter func46,ntmps46;go_upto_block 0 with(go_at_call 79;(with_reducible refine KN.out.mono ?_);rintro e9 w4 ⟨rfl,hb4,v4,hm4,ho4⟩;have HJ0:Hid (Below E w w4/\∃v',Bm E WB ((l++Az N)++(rs.take 0).flatMap Ce) v' w4/\Bh WB v w v' w4):=⟨hb4,v4,R1,ho4⟩;clear hb4 hm4 ho4)
 go_wp2_with fail
 go_loopw [14] (fun iv wx=>∃k:Nat,k<=N/\iv=.int .i64 (k:Int)/\Hid (Below E w wx/\∃v',Bm E WB ((l++Az N)++(rs.take k).flatMap Ce) v' wx/\Bh WB v w v' wx)) (fun iv _=>N-(intOf iv).toNat)
 case atStart=>exact⟨0,gI _,rfl,HJ0.out⟩
 case round=>
  clear HJ0;obtain⟨k,hk,rfl,HJ⟩:=hrel;by_cases hlt:k<N
  .have hkl:k<rs.length:=by have:=HN.out;omega
   obtain⟨hb,v2,hm,ho⟩:=HJ.out;obtain⟨rb,ro,rfl,hcl⟩:=(HRW.out wr hb).at hkl;have hx:=HOK.out rs[k] (gD hkl);have hfm:=HFM.out k hkl;obtain⟨x,hxe⟩:=gA (rs[k])
   rw[hxe]at hcl hx hfm;obtain⟨V,hV⟩:=gA (wr.alloc (.cells #[.int .i64 (x.op),.int .i64 (x.d),.int .i64 (x.a),.int .i64 (x.b),.int .i64 (x.c),.int .i64 (x.n),.int .u32 (x.bits)] 70))
   have hbV:Below wr.heap.size wr V:=by rw[<-hV];exact A7 _ _
   have y0:=hcl.at 0 (v:=.int .i64 (x.op)) rfl;rw[Nat.add_zero]at y0;have y1:=hcl.at 1 (v:=.int .i64 (x.d)) rfl;have y2:=hcl.at 2 (v:=.int .i64 (x.a)) rfl;have y3:=hcl.at 3 (v:=.int .i64 (x.b)) rfl;have y4:=hcl.at 4 (v:=.int .i64 (x.c)) rfl;have y5:=hcl.at 5 (v:=.int .i64 (x.n)) rfl;have y6:=hcl.at 6 (v:=.int .u32 (x.bits)) rfl;have z0:V.cell? ⟨wr.heap.size,0,none⟩=some (.int .i64 (x.op)):=by rw[<-hV];simp[go_sem]
   have z1:V.cell? ⟨wr.heap.size,1,none⟩=some (.int .i64 (x.d)):=by rw[<-hV];simp[go_sem]
   have z2:V.cell? ⟨wr.heap.size,2,none⟩=some (.int .i64 (x.a)):=by rw[<-hV];simp[go_sem]
   have z3:V.cell? ⟨wr.heap.size,3,none⟩=some (.int .i64 (x.b)):=by rw[<-hV];simp[go_sem]
   have z4:V.cell? ⟨wr.heap.size,4,none⟩=some (.int .i64 (x.c)):=by rw[<-hV];simp[go_sem]
   have z5:V.cell? ⟨wr.heap.size,5,none⟩=some (.int .i64 (x.n)):=by rw[<-hV];simp[go_sem]
   have z6:V.cell? ⟨wr.heap.size,6,none⟩=some (.int .u32 (x.bits)):=by rw[<-hV];simp[go_sem]
   have llb:rb<wr.heap.size:=Al y0;have n9:¬rb=wr.heap.size:=oM;have KX:=A6 (KW.out _ v2 V (hm.below hbV) x hx (HLN.out k));have HFM':=A6 hfm;have HBV:Hid (Below E w V):=hb.trans (hbV.mono hm.le);have HOV:Hid (∀v' w',Bh WB v2 V v' w'->Bh WB v w v' w'):=fun v' w' z=>ho.trans (Bh.below hm hbV z);have i1:(0:Int)<=(k:Int):=oM;have i2:(k:Int)<(N:Int):=oM;have wi:IntKind.i64.wrap ((k:Int)+1)=((k+1:Nat):Int):=by rw[IntKind.wrap_i64];omega
   clear hb hm ho hcl hx hfm hxe hbV llb HJ;go_wp2_with(go_at_call 47;(with_reducible refine KX.out.mono ?_);rintro e9 w5 ⟨rfl,hb5,v5,hm5,ho5⟩;have HQ:Hid (Below E w w5/\∃v',Bm E WB ((l++Az N)++(rs.take (k+1)).flatMap Ce) v' w5/\Bh WB v w v' w5):=⟨HBV.out.trans hb5,v5,R7,HOV.out _ _ ho5⟩;clear hb5 hm5 ho5);exact Qb
  .have e1:¬ (k:Int)<(N:Int):=oM;have hall:rs.take k=rs:=List.take_of_length_le Q0;have HQ:Hid (Below E w wr/\∃v',Bm E WB (l++B7 Ce rs) v' wr/\Bh WB v w v' wr):=by
    exact QT
   exact QJ
theorem Ib(s:ByteArray)(hs:s.size<=65536)(w:World):
 Calls prog 86 #[.string s] w fun e w'=>e=.returned (.string s)/\Below w.heap.size w w':=by
 go_enter func86,ntmps86;go_wp2_with(go_at_call 112;refine(DI s _ oM).mono ?_;rintro e w1 ⟨rfl,hb⟩);refine bodyPost_ret (by simp[results,results86,go_sem, *];try rfl) rfl ?_;exact⟨rfl,hb⟩
theorem Gm(E RB:Nat)(s:ByteArray)(A n:Nat)(w:World)(h:BB E RB s A w)(hA:A<=s.size)(hs:s.size<=281474976710656)(hn:n<=281474976710656)(hE:E<=w.heap.size):
 Calls prog 83 #[.pointer (some ⟨RB,0,none⟩),.int .i64 (n:Int)] w (AX E RB s w (fun l=>.string (F5 l)) (Bg n ((Ab s).drop A) A)):=by
 by_cases hlt:s.size<A+n
 .refine(FN E RB s A n w h hA hs hn hlt).mono ?_;rintro e w' ⟨e1,e2⟩;unfold Bg;rw[if_pos PY];exact⟨e1,e2.mono hE,B5.of e2⟩
 .refine(GO E RB s A n w h hs oM hE).mono ?_;rintro e w' ⟨e1,e2,e3,e4⟩;unfold Bg;rw[if_neg PY,<-BK];refine⟨?_,e2,e4,e3,oM,by rw[List.drop_drop]⟩;rw[e1];simp only[DB]
theorem Of:CY=Ac (AO 1 2) fun k=>Ac (B4 64) fun n=>Ac (Bg n) fun l=>Ac Bf fun m=>Ax (⟨F5 l,(k:Int),(m:Int)⟩:Bd):=by
 unfold CY Hn BE;simp only[AV,Bz,if_true]
def OQ(a b c:Value)(j:Nat):Value:=if j=0 then a else if j=1 then b else c
theorem Kw{n:Nat}{l x l':List Nat}{p p':Nat}(h:Bg n l p=.ok (x,l',p')):x.length=n:=by
 unfold Bg at h;split at h
 .cases h
 .simp only[Except.ok.injEq,Prod.mk.injEq]at h;rw[<-h.1,List.length_take];omega
theorem Kx(E RB:Nat)(s:ByteArray)(A:Nat)(w:World)(h:BB E RB s A w)(hA:A<=s.size)(hs:s.size<=281474976710656)(hE:E<=w.heap.size):
 Calls prog 51 #[.pointer (some ⟨RB,0,none⟩)] w (AX E RB s w pv (CY ((Ab s).drop A) A)):=by
 obtain⟨W0,hW0⟩:∃W,w.alloc (.cells #[.string ⟨#[]⟩,.int .i64 0,.int .i64 0] 59)=W:=⟨_,rfl⟩
 have hb0:Below w.heap.size w W0:=by rw[<-hW0];exact A7 _ _
 have h0:=h.below hb0;have hE0:E<=W0.heap.size:=gH hE hb0.size;obtain⟨X,hX⟩:=gA (w.heap.size)
 have hXR:X≠RB:=by have:=h.b.lt;omega
 have hr0:W0.rowIs X 59 3 (OQ (.string ⟨#[]⟩) (.int .i64 0) (.int .i64 0)):=by
  rw[<-hW0,<-hX];exact World.rowIs_alloc w #[.string ⟨#[]⟩,.int .i64 0,.int .i64 0] 59 _ (fun i hi=>by
   rcases(show i=0\/i=1\/i=2 by have:i<3:=hi;omega)with rfl|rfl|rfl<;>rfl)
 have KS:Calls prog 85 #[.pointer (some ⟨RB,0,none⟩),.int .i64 1,.int .i64 2] W0 (AX E RB s W0 (fun(b:Nat)=>.int .i64 (b:Int)) (AO 1 2 ((Ab s).drop A) A)):=DT E RB s A 1 2 W0 h0 hA hs hE0;obtain⟨R,hR⟩:=gA (CY ((Ab s).drop A) A)
 rw[hR];rw[Of]at hR;have HRS:=A6 ((BY.start h).below hE hb0);cases hq:AO 1 2 ((Ab s).drop A) A with
 |error er=>
  obtain⟨er,at_⟩:=er;have HP:R=.error (er,at_):=by rw[<-hR];exact An hq
  rw[hq]at KS;have KS':=A6 KS;have HG:Hid (∀w',Below E W0 w'->B5 RB W0 w'->AX E RB s w pv R (B2 er at_) w'):=fun w' a b=>by rw[HP];exact HRS.bad pv er at_ a b
  unfold AX B2 at KS';unfold B2 at HG;simp only at KS';clear h h0 hb0 hr0 KS hq HP hR hX hXR hE0;go_enter func51,ntmps51;exact Rs
 |ok r=>
  obtain⟨k,l',A1⟩:=r;rw[Au hq]at hR;rw[hq]at KS;have KS':=A6 KS;unfold AX at KS';simp only at KS';have HR0:=A6 hr0;have HRB:=A6 h.b.lt;have HX:Hid (w.heap.size<=X):=Nat.le_of_eq hX;have HRR:=A6 hR;clear h h0 hb0 hr0 KS hE0 hR hq;go_enter func51,ntmps51;go_upto_region 1 with fail;try rw[hW0]
  try rw[hX]
  clear hW0 hX;go_upto_region 2 with(go_at_call 85;(with_reducible refine KS'.out.mono ?_);rintro e9 w4 ⟨rfl,hb4,ho4,hm4,hl4,hd4⟩;have HB4:=A6 hb4;have HO4:=A6 ho4;have HM4:=A6 hm4;have HD4:=A6 hd4;have HL4:=A6 hl4;clear hb4 ho4 hm4 hl4 hd4)
  obtain⟨Y,hY⟩:=gA (w4.heap.size)
  obtain⟨V,hV⟩:=gA (w4.alloc (.cells #[.string ⟨#[]⟩,.int .i64 (k:Int),.int .i64 0] 59))
  have hbV:Below w4.heap.size w4 V:=by rw[<-hV];exact A7 _ _
  have r4:=AD HO4.out HR0.out hXR;have rx:=r4.of_block (hbV.block _ r4.lt);have ry:V.rowIs Y 59 3 (OQ (.string ⟨#[]⟩) (.int .i64 (k:Int)) (.int .i64 0)):=by
   rw[<-hV,<-hY];exact World.rowIs_alloc w4 #[.string ⟨#[]⟩,.int .i64 (k:Int),.int .i64 0] 59 _ (fun i hi=>by
   rcases(show i=0\/i=1\/i=2 by have:i<3:=hi;omega)with rfl|rfl|rfl<;>rfl)
  have hXY:X≠Y:=by have:=r4.lt;omega
  have hYR:Y≠RB:=by have:=HM4.b.lt;omega
  have hwY:w.heap.size<=Y:=by have:=r4.lt;have:=HX.out;omega
  have D1:BY E RB s A1 w V:=((HRS.next HB4.out HO4.out HM4.out).below hE hbV)
  have KM:Calls prog 84 #[.pointer (some ⟨RB,0,none⟩),.int .i64 64] V (AX E RB s V (fun(b:Nat)=>.int .i64 (b:Int)) (B4 64 ((Ab s).drop A1) A1)):=CN E RB s A1 64 V D1.2.2 HL4.out hs (gH hE D1.2.1.1);have hR:=HRR.out;rw[HD4.out]at hR;try rw[hV]
  try rw[hY]
  clear hV hY hbV HRR KS' HB4 HO4 HM4 HD4 HR0 HRS;cases hq2:B4 64 ((Ab s).drop A1) A1 with
  |error er=>
   obtain⟨er,at_⟩:=er;rw[An hq2]at hR;rw[hq2]at KM;have KM':=A6 KM;unfold AX B2 at KM';simp only at KM';have HG:Hid (∀w',Below E V w'->B5 RB V w'->AX E RB s w pv R (B2 er at_) w'):=fun w' a b=>by rw[<-hR];exact D1.bad pv er at_ a b
   unfold B2 at HG;clear D1 KM hq2 hR rx ry r4;go_wp2_with(go_at_call 84;(with_reducible refine KM'.out.mono ?_);rintro e9 w5 ⟨rfl,hb5,ho5⟩;have HR5:=A6 (HG.out _ hb5 ho5);clear hb5 ho5);exact⟨rfl,HR5.out⟩
  |ok r=>
   obtain⟨N,l2,A2⟩:=r;have hN64:=CU hq2;rw[Au hq2]at hR;rw[hq2]at KM;have KM':=A6 KM;unfold AX at KM';simp only at KM' hR;have KT:=A6 (fun(v:World) (a:BB E RB s A2 v) (b:A2<=s.size) (c:E<=v.heap.size)=>Gm E RB s A2 N v a b hs oM c);have HD1:=A6 D1;have HRX:=A6 rx;have HRY:=A6 ry;have HRR:=A6 hR;clear D1 KM hq2 hR rx ry r4;cases hq3:Bg N ((Ab s).drop A2) A2 with
   |error er=>
    obtain⟨er,at_⟩:=er;rw[hq3]at KT;unfold AX B2 at KT;simp only at KT;have HG:Hid (∀v w',l2=(Ab s).drop A2->Below E V v->B5 RB V v->BB E RB s A2 v->Below E v w'->B5 RB v w'->AX E RB s w pv R (B2 er at_) w'):=fun v w' e a b c d f=>by
     rw[<-HRR.out,e,An hq3];exact(HD1.next a b c).bad pv er at_ d f
    unfold B2 at HG;clear hq3 HRR;go_wp2_with(first|(go_at_call 84;(with_reducible refine KM'.out.mono ?_);rintro e9 w5 ⟨rfl,hb5,ho5,hm5,hl5,hd5⟩;have KT5:=A6 (KT.out w5 hm5 hl5 (gH hE (HD1.out.2.1.trans ho5).1));have HG5:=A6 (fun w'=>HG.out w5 w' hd5 hb5 ho5 hm5);clear hb5 ho5 hm5 hl5 hd5)|(go_at_call 83;(with_reducible refine KT5.out.mono ?_);rintro e9 w6 ⟨rfl,hb6,ho6⟩;have HR5:=A6 (HG5.out _ hb6 ho6);clear hb6 ho6));exact⟨rfl,HR5.out⟩
   |ok r=>
    obtain⟨nm,l3,A3⟩:=r;have hnm:=Kw hq3;rw[hq3]at KT;unfold AX at KT;simp only at KT;have HR3:Hid (l2=(Ab s).drop A2->l3=(Ab s).drop A3->R=(Ac Bf fun m=>Ax (⟨F5 nm,(k:Int),(m:Int)⟩:Bd)) ((Ab s).drop A3) A3):=fun e f=>by rw[<-HRR.out,e,Au hq3,f]
    have KC:=A6 (fun(v:World)=>Ib (F5 nm) (by rw[Cv];omega) v);have HG:Hid (∀w',Below E V w'->B5 RB V w'->BB E RB s A3 w'->BY E RB s A3 w w'/\w'.rowIs X 59 3 (OQ (.string ⟨#[]⟩) (.int .i64 0) (.int .i64 0))/\w'.rowIs Y 59 3 (OQ (.string ⟨#[]⟩) (.int .i64 (k:Int)) (.int .i64 0))):=fun w' a b c=>⟨HD1.next a b c,AD b HRX.out hXR,AD b HRY.out hYR⟩
    have HVE:Hid (E<=V.heap.size):=gH hE HD1.2.1.1;obtain⟨nb,hnb⟩:=gA (F5 nm)
    rw[hnb]at KT HR3 KC;clear hq3 HRR hnb hnm HRX HRY;go_upto_region 3 with(first|(go_at_call 84;(with_reducible refine KM'.out.mono ?_);rintro e9 w5 ⟨rfl,hb5,ho5,hm5,hl5,hd5⟩;have KT5:=A6 (KT.out w5 hm5 hl5 (gH HVE.out ho5.1));have HB5:=A6 hb5;have HO5:=A6 ho5;have HD5:=A6 hd5;clear hb5 ho5 hm5 hl5 hd5)|(go_at_call 83;(with_reducible refine KT5.out.mono ?_);rintro e9 w6 ⟨rfl,hb6,ho6,hm6,hl6,hd6⟩;have HB6:=A6 (HB5.out.trans hb6);have HO6:=A6 (HO5.out.trans ho6);have HM6:=A6 hm6;have HL6:=A6 hl6;have HD6:=A6 hd6;clear hb6 ho6 hm6 hl6 hd6)|(go_at_call 86;(with_reducible refine(KC.out _).mono ?_);rintro e9 w7 ⟨rfl,hb7⟩;obtain⟨D7,x7,z7⟩:=HG.out w7 (HB6.out.trans (hb7.mono (gH HVE.out HO6.out.1))) (HO6.out.trans (B5.of hb7)) (HM6.out.below hb7);have y7:w7.cell? ⟨Y,0,none⟩=some (.string ⟨#[]⟩):=z7.cell (i:=0) dE;have f7:=z7.frozen 0;clear hb7))
    obtain⟨V2,hV2⟩:=gA (w7.setCell ⟨Y,0,none⟩ (.string nb))
    have x8:=x7.of_block (w':=V2) (by rw[<-hV2];exact gE hXY);have z8:V2.rowIs Y 59 3 (OQ (.string nb) (.int .i64 (k:Int)) (.int .i64 0)):=by
     rw[<-hV2];exact(z7.set 0 (.string nb)).congr fun j hj=>by
      rcases(show j=0\/j=1\/j=2 by omega)with rfl|rfl|rfl<;>rfl
    have D8:BY E RB s A3 w V2:=by rw[<-hV2];exact D7.set hE HRB.out hwY 0 _
    have hR:=(HR3.out HD5.out HD6.out).symm;have KN:=Cu E RB s A3 V2 D8.2.2 HL6.out hs (gH hE D8.2.1.1);try rw[hV2]
    clear hV2 D7 x7 z7 y7 f7 HG KC KT KT5 KM' HB5 HO5 HD5 HB6 HO6 HM6 HR3 HD1;cases hq4:Bf ((Ab s).drop A3) A3 with
    |error er=>
     obtain⟨er,at_⟩:=er;rw[An hq4]at hR;rw[hq4]at KN;have KN':=A6 KN;unfold AX B2 at KN';simp only at KN';have HG:Hid (∀w',Below E V2 w'->B5 RB V2 w'->AX E RB s w pv R (B2 er at_) w'):=fun w' a b=>by rw[<-hR];exact D8.bad pv er at_ a b
     unfold B2 at HG;clear D8 KN hq4 hR x8 z8;exact Rx
    |ok r=>
     obtain⟨n,l4,A4⟩:=r;rw[Au hq4]at hR;rw[hq4]at KN;have KN':=A6 KN;unfold AX at KN';simp only at KN';have HG:Hid (∀w',Below E V2 w'->B5 RB V2 w'->BB E RB s A4 w'->BY E RB s A4 w w'/\w'.rowIs X 59 3 (OQ (.string ⟨#[]⟩) (.int .i64 0) (.int .i64 0))/\w'.rowIs Y 59 3 (OQ (.string nb) (.int .i64 (k:Int)) (.int .i64 0))):=fun w' a b c=>⟨D8.next a b c,AD b x8 hXR,AD b z8 hYR⟩
     have HRR:Hid (R=.ok (⟨nb,(k:Int),(n:Int)⟩,l4,A4)):=hR.symm;clear D8 KN hq4 hR x8 z8;go_upto_region 4 with(go_at_call 87;(with_reducible refine KN'.out.mono ?_);rintro e9 w8 ⟨rfl,hb7,ho7,hm7,hl7,hd7⟩;obtain⟨D9,x9,z9⟩:=HG.out _ hb7 ho7 hm7;have HL7:=A6 hl7;have HD7:=A6 hd7;have y9:w8.cell? ⟨Y,2,none⟩=some (.int .i64 0):=z9.cell (i:=2) dE;have f9:=z9.frozen 2;clear hb7 ho7 hm7 hl7 hd7)
     obtain⟨V3,hV3⟩:=gA (w8.setCell ⟨Y,2,none⟩ (.int .i64 (n:Int)))
     have xa:=x9.of_block (w':=V3) OF;have za:V3.rowIs Y 59 3 (OQ (.string nb) (.int .i64 (k:Int)) (.int .i64 (n:Int))):=by
      rw[<-hV3];exact(z9.set 2 (.int .i64 (n:Int))).congr fun j hj=>by
       rcases(show j=0\/j=1\/j=2 by omega)with rfl|rfl|rfl<;>rfl
     have Da:BY E RB s A4 w V3:=by rw[<-hV3];exact D9.set hE HRB.out hwY 2 _
     have b0:V3.cell? ⟨Y,0,none⟩=some (.string nb):=za.cell (i:=0) dE;have b1:V3.cell? ⟨Y,1,none⟩=some (.int .i64 (k:Int)):=za.cell (i:=1) dE;have b2:V3.cell? ⟨Y,2,none⟩=some (.int .i64 (n:Int)):=za.cell (i:=2) dE;have x0:V3.cell? ⟨X,0,none⟩=some (.string ⟨#[]⟩):=xa.cell (i:=0) dE;have x1:V3.cell? ⟨X,1,none⟩=some (.int .i64 0):=xa.cell (i:=1) dE;have x2:V3.cell? ⟨X,2,none⟩=some (.int .i64 0):=xa.cell (i:=2) dE;have f0:=xa.frozen 0;have f1:=xa.frozen 1;have f2:=xa.frozen 2;have HD:=A6 (((Da.set hE HRB.out HX.out 0 (.string nb)).set hE HRB.out HX.out 1 (.int .i64 (k:Int))).set hE HRB.out HX.out 2 (.int .i64 (n:Int)));try rw[hV3]
     clear hV3 D9 Da x9 z9 xa za y9 f9 KN' HG;go_wp2;refine bodyPost_ret (by simp[results,results51,go_sem, *];try rfl) rfl ?_;rw[HRR.out];exact HD.fin HL7.out HD7.out
theorem Ct{α:Type}{e:α->List Nat}{m:Nat}(l:List α)(h:∀x∈l,(e x).length<=m)(hl:l.length<9223372036854775808):(B7 e l).length<=9+m*l.length:=by
 unfold B7;rw[List.length_append];have:=AU hl;have:=Bw l h;omega
def Lu:ByteArray:=⟨#[108,116,104,49]⟩
theorem Lp(E WB:Nat)(l:List Nat)(v:Value)(w:World)(h:Bm E WB l v w)(c:Cd)(hc:C9 c)(hl:l.length<=1000)(CB:Nat)(p0 p1 p2 p3:Option Addr)(q0 q1 q2 q3:Nat)
 (hcl:∀u,Below E w u->u.cell? ⟨CB,0,none⟩=some (.slice p0 c.sign.length q0)/\u.cell? ⟨CB,1,none⟩=some (.slice p1 c.regs.length q1)/\u.cell? ⟨CB,2,none⟩=some (.slice p2 c.slots.length q2)/\u.cell? ⟨CB,3,none⟩=some (.slice p3 c.list.length q3))
 (hrw:∀u,Below E w u->Bl 3 As u (.slice p0 c.sign.length q0) c.sign/\Bl 2 Ed u (.slice p1 c.regs.length q1) c.regs/\Bl 5 EP u (.slice p2 c.slots.length q2) c.slots/\Bl 7 C2 u (.slice p3 c.list.length q3) c.list):
 Calls prog 17 #[.pointer (some ⟨WB,0,none⟩),.pointer (some ⟨CB,0,none⟩)] w fun e w'=>e=.returned (.tuple #[])/\Below E w w'/\∃v',Bm E WB (l++(Ab Lu++C1 c)) v' w'/\Bh WB v w v' w':=by
 obtain⟨⟨s1,s2⟩,⟨r1,r2⟩,⟨t1,t2⟩,⟨i1,i2⟩⟩:=hc;have lm:(Ab Lu).length=4:=by rw[Ah];rfl
 have l0:=Ct (e:=BL) (m:=90) c.sign (fun x hx=>Fm (s2 x hx)) oM;have l1:=Ct (e:=Dw) (m:=10) c.regs (fun x hx=>Ei (r2 x hx)) oM;have l2:=Ct (e:=Dr) (m:=20) c.slots (fun x hx=>Gt (t2 x hx)) oM;have HT:Hid (l++(Ab Lu++C1 c)=(((((l++Ab Lu)++B7 BL c.sign)++B7 Dw c.regs)++B7 Dr c.slots)++B7 Ce c.list)):=by
  show _=_;unfold C1;simp
 obtain⟨p,q,p',q',n',w6,hv6,hrun,c6,f6,hb6,hm6,ho6,hg6⟩:=h.appS Lu (by show l.length+4<=_;omega);subst hv6;have b0:w.cell? ⟨WB,0,none⟩=some (.slice p l.length q):=h.b.cell (i:=0) dE;have hrun':(Builtin.append_ #[49,9] 49 #[.slice p l.length q,.string ⟨#[108,116,104,49]⟩]).run prog w=.ok (.slice p' n' q') w6:=hrun;have HRUN:=A6 hrun';obtain⟨W6,hW6⟩:∃W,w6.setCell ⟨WB,0,none⟩ (.slice p' n' q')=W:=⟨_,rfl⟩
 rw[hW6]at hb6 hm6 ho6;have HB6:=A6 hb6;have HO6:=A6 ho6;have K0:=A6 (IW E WB _ _ W6 hm6 c.sign s2 s1 p0 q0 (fun u hu=>(hrw u (hb6.trans hu)).1) (by rw[List.length_append];omega));have K1:Hid (∀ (v:Value) (u:World),Below E w u->Bm E WB ((l++Ab Lu)++B7 BL c.sign) v u->Calls prog 42 #[.pointer (some ⟨WB,0,none⟩),.slice p1 c.regs.length q1,.func (.func 43) #[.pointer (some ⟨WB,0,none⟩)] #[]] u fun e w'=>e=.returned (.tuple #[])/\Below E u w'/\∃v',Bm E WB (((l++Ab Lu)++B7 BL c.sign)++B7 Dw c.regs) v' w'/\Bh WB v u v' w'):=fun v u hu a=>IY E WB _ v u a c.regs r2 r1 p1 q1 (fun x hx=>(hrw x (hu.trans hx)).2.1) (by rw[List.length_append,List.length_append];omega);have K2:Hid (∀ (v:Value) (u:World),Below E w u->Bm E WB (((l++Ab Lu)++B7 BL c.sign)++B7 Dw c.regs) v u->Calls prog 44 #[.pointer (some ⟨WB,0,none⟩),.slice p2 c.slots.length q2,.func (.func 45) #[.pointer (some ⟨WB,0,none⟩)] #[]] u fun e w'=>e=.returned (.tuple #[])/\Below E u w'/\∃v',Bm E WB ((((l++Ab Lu)++B7 BL c.sign)++B7 Dw c.regs)++B7 Dr c.slots) v' w'/\Bh WB v u v' w'):=fun v u hu a=>IX E WB _ v u a c.slots t2 t1 p2 q2 (fun x hx=>(hrw x (hu.trans hx)).2.2.1) (by rw[List.length_append,List.length_append,List.length_append];omega);have K3:Hid (∀ (v:Value) (u:World),Below E w u->Bm E WB ((((l++Ab Lu)++B7 BL c.sign)++B7 Dw c.regs)++B7 Dr c.slots) v u->Calls prog 46 #[.pointer (some ⟨WB,0,none⟩),.slice p3 c.list.length q3,.func (.func 47) #[.pointer (some ⟨WB,0,none⟩)] #[]] u fun e w'=>e=.returned (.tuple #[])/\Below E u w'/\∃v',Bm E WB (((((l++Ab Lu)++B7 BL c.sign)++B7 Dw c.regs)++B7 Dr c.slots)++B7 Ce c.list) v' w'/\Bh WB v u v' w'):=fun v u hu a=>IV E WB _ v u a c.list i2 i1 p3 q3 (fun x hx=>(hrw x (hu.trans hx)).2.2.2) (by rw[List.length_append,List.length_append,List.length_append,List.length_append];omega);have HCL:=A6 hcl;have HGE:=A6 h.ge;obtain⟨N0,hN0⟩:∃n,c.sign.length=n:=⟨_,rfl⟩
 obtain⟨N1,hN1⟩:∃n,c.regs.length=n:=⟨_,rfl⟩
 obtain⟨N2,hN2⟩:∃n,c.slots.length=n:=⟨_,rfl⟩
 obtain⟨N3,hN3⟩:∃n,c.list.length=n:=⟨_,rfl⟩
 simp only[hN0,hN1,hN2,hN3]at K0 K1 K2 K3 HCL;obtain⟨x0,x1,x2,x3⟩:=HCL.out W6 hb6;rw[<-hW6]at x0 x1 x2 x3;have HW6:=A6 hW6;clear hrun hrun' hb6 hm6 ho6 hg6 hcl hrw h s1 s2 r1 r2 t1 t2 i1 i2 lm l0 l1 l2 hN0 hN1 hN2 hN3 hW6;go_enter func17,ntmps17;go_upto_region 1 with(at_builtin;refine F0 rF _ _ _ _ rF _ _ _ rF rF HRUN.out ?_)
 rw[HW6.out]at x0 x1 x2 x3 |-;clear b0 c6 f6 HRUN HW6;go_upto_region 2 with(go_at_call 40;(with_reducible refine K0.out.mono ?_);rintro e9 w7 ⟨rfl,hb7,v7,hm7,ho7⟩;have HB7:=A6 (HB6.out.trans hb7);have HM7:=A6 hm7;have HO7:=A6 (HO6.out.trans ho7);clear hb7 hm7 ho7)
 clear x0 x1 x2 x3;obtain⟨x0,x1,x2,x3⟩:=HCL.out _ HB7.out;have K7:=A6 (K1.out _ _ HB7.out HM7.out);clear K0 K1;go_upto_region 3 with(go_at_call 42;(with_reducible refine K7.out.mono ?_);rintro e9 w8 ⟨rfl,hb8,v8,hm8,ho8⟩;have HB8:=A6 (HB7.out.trans hb8);have HM8:=A6 hm8;have HO8:=A6 (HO7.out.trans ho8);clear hb8 hm8 ho8)
 clear x0 x1 x2 x3;obtain⟨x0,x1,x2,x3⟩:=HCL.out _ HB8.out;have K8:=A6 (K2.out _ _ HB8.out HM8.out);clear K7 K2;go_upto_region 4 with(go_at_call 44;(with_reducible refine K8.out.mono ?_);rintro e9 w9 ⟨rfl,hb9,v9,hm9,ho9⟩;have HB9:=A6 (HB8.out.trans hb9);have HM9:=A6 hm9;have HO9:=A6 (HO8.out.trans ho9);clear hb9 hm9 ho9)
 clear x0 x1 x2 x3;obtain⟨x0,x1,x2,x3⟩:=HCL.out _ HB9.out;have K9:=A6 (K3.out _ _ HB9.out HM9.out);clear K8 K3;go_wp2_with(go_at_call 46;(with_reducible refine K9.out.mono ?_);rintro e9 wA ⟨rfl,hbA,vA,hmA,hoA⟩;have HBA:=A6 (HB9.out.trans hbA);have HMA:=A6 hmA;have HOA:=A6 (HO9.out.trans hoA);clear hbA hmA hoA);first|go_end0|refine bodyPost_ret (results_none rfl _ _ _) rfl ?_
 refine⟨rfl,HBA.out,vA,?_,HOA.out⟩;rw[HT.out];exact HMA.out
theorem Bm.str{E WB:Nat}{l:List Nat}{v:Value}{w:World}(h:Bm E WB l v w)(hb:∀b∈l,b<256)(hn:0<l.length):
 ∃p q,v=.slice p l.length q/\(convert 49 9 (.slice p l.length q)).run prog w=.ok (.string (F5 l)) w:=by
 rcases h.o.2 with⟨-,e2⟩|⟨g,cap,cur,e1,-⟩
 .omega
 .refine⟨some ⟨g,0,none⟩,cap,e1,?_⟩;have hob:v.ownBlock=some g:=by rw[e1];rfl
  have hl:(l.map UInt8.ofNat).length=l.length:=List.length_map _;have:=run_convert_bytes_back (P:=prog) w 49 9 5 ⟨g,0,none⟩ cap (l.map UInt8.ofNat) underlying49 underlying5 underlying9 (fun j hj=>by
   have hj':j<l.length:=by rw[<-hl];exact hj
   have hlt:=hb l[j] (gD hj');have h9:=h.o.cells hob j (.int .u8 ((l[j]:Nat):Int)) (by unfold GQ;simp[hj'])
   rw[h9,List.getElem_map,UInt8.toNat_ofNat',Nat.mod_eq_of_lt hlt])
  rw[hl]at this;exact this
theorem Mk(j:Nat)(hj:j<(#[Value.slice none 0 0]:Array Value).size):(#[Value.slice none 0 0]:Array Value)[j]! =Value.slice none 0 0:=by
 have h0:j=0:=by simpa using hj
 subst h0;rfl
theorem Hb(v0 v1 v2 v3:Value)(c:Cd)(hk:BF c)(w:World)(hv:Ef w v0 v1 v2 v3 c)(hc:(AE c).1=0):
 Calls prog 8 #[.agg #[v0,v1,v2,v3]] w fun e w'=>e=.returned (.tuple #[.string (F5 (BS c)),.int .i64 0])/\Below w.heap.size w w':=by
 have hok:=Ic hk.sbits hk.ibits hc;have hlb:=Gp hok;have hmk:Ab Lu=GP:=dE;have hbl:(B6 c).length=4+(C1 c).length:=by unfold B6;rw[List.length_append];rfl
 have hcl:(C1 c).length<=3000000:=by
  obtain⟨⟨s1,s2⟩,⟨r1,r2⟩,⟨t1,t2⟩,⟨i1,i2⟩⟩:=hok;have l0:=Ct (e:=BL) (m:=90) c.sign (fun x hx=>Fm (s2 x hx)) oM;have l1:=Ct (e:=Dw) (m:=10) c.regs (fun x hx=>Ei (r2 x hx)) oM;have l2:=Ct (e:=Dr) (m:=20) c.slots (fun x hx=>Gt (t2 x hx)) oM;have l3:=Ct (e:=Ce) (m:=55) c.list (fun x hx=>Ha (i2 x hx)) oM;unfold C1;rw[List.length_append,List.length_append,List.length_append];omega
 have hle:∀b∈BS c,b<256:=fun b hb=>by
  unfold BS at hb;rcases List.mem_append.1 hb with hb|hb
  .exact hlb b hb
  .exact DL 8 _ b hb
 have hel:0<(BS c).length:=by unfold BS;rw[List.length_append];omega
 obtain⟨W0,hW0⟩:∃W,w.alloc (.cells #[v0,v1,v2,v3] 27)=W:=⟨_,rfl⟩
 have hb0:Below w.heap.size w W0:=by rw[<-hW0];exact A7 _ _
 have hs0:W0.heap.size=w.heap.size+1:=by rw[<-hW0];simp
 have KC:=A6 (G6 v0 v1 v2 v3 c hk W0 (hv.below hb0));have HV:=A6 hv;obtain⟨p0,q0,rfl⟩:∃p q,v0=.slice p c.sign.length q:=by obtain⟨p,q,e,_⟩:=hv.sign;exact⟨p,q,e⟩
 obtain⟨p1,q1,rfl⟩:∃p q,v1=.slice p c.regs.length q:=by obtain⟨p,q,e,_⟩:=hv.regs;exact⟨p,q,e⟩
 obtain⟨p2,q2,rfl⟩:∃p q,v2=.slice p c.slots.length q:=by obtain⟨p,q,e,_⟩:=hv.slots;exact⟨p,q,e⟩
 obtain⟨p3,q3,rfl⟩:∃p q,v3=.slice p c.list.length q:=by obtain⟨p,q,e,_⟩:=hv.list;exact⟨p,q,e⟩
 have x0:W0.cell? ⟨w.heap.size,0,none⟩=some (.slice p0 c.sign.length q0):=by rw[<-hW0];simp[go_sem]
 have x1:W0.cell? ⟨w.heap.size,1,none⟩=some (.slice p1 c.regs.length q1):=by rw[<-hW0];simp[go_sem]
 have x2:W0.cell? ⟨w.heap.size,2,none⟩=some (.slice p2 c.slots.length q2):=by rw[<-hW0];simp[go_sem]
 have x3:W0.cell? ⟨w.heap.size,3,none⟩=some (.slice p3 c.list.length q3):=by rw[<-hW0];simp[go_sem]
 have KW:Hid (∀ (u:World),Below W0.heap.size W0 u->Calls prog 17 #[.pointer (some ⟨u.heap.size,0,none⟩),.pointer (some ⟨w.heap.size,0,none⟩)] (u.alloc (.cells #[.slice none 0 0] 51)) fun e w'=>e=.returned (.tuple #[])/\Below u.heap.size (u.alloc (.cells #[.slice none 0 0] 51)) w'/\∃v',Bm u.heap.size u.heap.size (B6 c) v' w'/\Bh u.heap.size (.slice none 0 0) (u.alloc (.cells #[.slice none 0 0] 51)) v' w'):=fun u hu=>by
  have hbu:Below u.heap.size u (u.alloc (.cells #[.slice none 0 0] 51)):=A7 _ _;have hm:Bm u.heap.size u.heap.size [] (.slice none 0 0) (u.alloc (.cells #[.slice none 0 0] 51)):=⟨(S4 u #[.slice none 0 0] 51).congr (fun j hj=>Mk j hj),World.ownsRow_nil _ _ _ 1,gF _,hbu.size⟩
  have hx:∀x,Below u.heap.size (u.alloc (.cells #[.slice none 0 0] 51)) x->Below W0.heap.size W0 x:=fun x hx=>hu.trans ((hbu.trans hx).mono hu.size);have h9:=Lp u.heap.size u.heap.size [] (.slice none 0 0) _ hm c hok sM w.heap.size p0 p1 p2 p3 q0 q1 q2 q3 (fun x hxx=>⟨kc (hx x hxx) x0,kc (hx x hxx) x1,kc (hx x hxx) x2,kc (hx x hxx) x3⟩) (fun x hxx=>by
   have:=hv.below (bel hb0 (hx x hxx))
   exact⟨this.sign,this.regs,this.slots,this.list⟩)
  rw[List.nil_append,hmk]at h9;exact h9
 have KP:=A6 (fun u=>E2 (F5 (B6 c)) (by rw[Cv];omega) u);rw[CM hlb]at KP;obtain⟨CR,hCR⟩:∃n,EV (B6 c)=n:=⟨_,rfl⟩
 have hEN:BS c=B6 c++B0 8 CR:=by unfold BS;rw[hCR]
 rw[hCR]at KP;have hcr:CR<18446744073709551616:=by rw[<-hCR];exact If hlb
 have KF:Hid (∀ (E WB:Nat) (v:Value) (u:World),Bm E WB (B6 c) v u->Calls prog 18 #[.pointer (some ⟨WB,0,none⟩),.int .u64 (CR:Int),.int .i64 8] u fun e w'=>e=.returned (.tuple #[])/\Below E u w'/\∃v',Bm E WB (B6 c++B0 8 CR) v' w'/\Bh WB v u v' w'):=fun E WB v u a=>Ee E WB (B6 c) v u a CR hcr 8 oM oM;have HEN:=A6 hEN;obtain⟨BD,hBD⟩:∃l,B6 c=l:=⟨_,rfl⟩
 obtain⟨EN,hENc⟩:∃l,BS c=l:=⟨_,rfl⟩
 simp only[hBD,hENc]at KW KP KF HEN hle hel hlb |-;have HBP:Hid (0<BD.length):=by rw[<-hBD];show 0<(B6 c).length;omega
 have HLB:=A6 hlb;have HLE:=A6 hle;have HEL:=A6 hel;obtain⟨e2,he2⟩:∃e,(AE c).2=e:=⟨_,rfl⟩
 rw[hc,he2]at KC;have HB0:=A6 hb0;have HS0:=A6 hs0;clear hk hv he2 hb0 hs0 hok hlb hmk hbl hcl hle hel hCR hEN hcr hBD hENc hc;go_enter func8,ntmps8;go_upto_region 1 with fail;try rw[hW0]
 clear hW0;go_upto_region 4 with(go_at_call 16;(with_reducible refine KC.out.mono ?_);rintro e9 w4 ⟨rfl,hb4⟩;have HB4:=A6 hb4;clear hb4)
 have KW4:=A6 (KW.out w4 HB4.out);go_upto_region 6 with(go_at_call 17;(with_reducible refine KW4.out.mono ?_);rintro e9 w5 ⟨rfl,hb5,v5,hm5,ho5⟩;have HB5:=A6 hb5;have HM5:=A6 hm5;clear hb5 hm5 ho5)
 obtain⟨p5,q5,hv5,hcv⟩:=HM5.str HLB.out HBP.out;subst hv5;have b5:w5.cell? ⟨w4.heap.size,0,none⟩=some (.slice p5 BD.length q5):=HM5.b.cell (i:=0) dE;have KF5:=A6 (KF.out _ _ _ _ HM5.out);go_upto_region 7 with(first
  |(go_at_call 19;(with_reducible refine(KP.out _).mono ?_);rintro e9 w6 ⟨rfl,rfl⟩)
  |(go_at_call 18;(with_reducible refine KF5.out.mono ?_);rintro e9 w7 ⟨rfl,hb7,v7,hm7,ho7⟩;have HB7:=A6 hb7;have HM7:=A6 hm7;clear hb7 hm7 ho7))
 have HM8:=HM7.out;rw[<-HEN.out]at HM8;obtain⟨p7,q7,hv7,hcw⟩:=HM8.str HLE.out HEL.out;subst hv7;have b7:w7.cell? ⟨w4.heap.size,0,none⟩=some (.slice p7 EN.length q7):=HM8.b.cell (i:=0) dE;have HBZ:Hid (Below w.heap.size w w7):=by
  have h1:Below W0.heap.size W0 (w4.alloc (.cells #[.slice none 0 0] 51)):=bel HB4.out (A7 _ _);have h2:Below w4.heap.size (w4.alloc (.cells #[.slice none 0 0] 51)) w7:=HB5.trans HB7.out;exact bel HB0.out (h1.trans (h2.mono HB4.size))
 clear HM5 HM7 HM8 HB5 HB7 HB4 hcv b5;go_wp2;refine bodyPost_ret (by simp[results,results8,go_sem, *];try rfl) rfl ?_;exact⟨rfl,HBZ.out⟩
end Go.Proofs.YtnlgkkbmbijndaaGreat
