import Derived.Test.YtheanilpbnencaaChk9
import Derived.Test.YtheanilpbnencaaChk7
import Derived.Test.YtheanilpbnencaaChk1
namespace Go.Proofs.Ytheanilpbnencaa
open Go.RowKit Go.Proofs.Try
set_option linter.all false
set_option maxRecDepth 100000
set_option maxHeartbeats 16000000
theorem E3(v0 v1 v2 v3:Value)(c:Cd)(hk:AI c)(n p:Int)(hp:n=1->Ab p c.sign.length=true)(w:World)(hv:BE w v0 v1 v2 v3 c):
 Calls prog 72 #[.agg #[v0,v1,v2,v3],.int .i64 n,.int .i64 p] w fun e w'=>e=.returned (.bool (n==0||(n==1&&BD c.sign p==2)))/\Below w.heap.size w w':=by
 have HB:=hk.signL;by_cases h0:n=0
 .subst h0;clear hp hv;go_enter func72,ntmps72;go_wp2;go_ret;exact⟨rfl,A0 _ _⟩
 .have h0':(n==0)=false:=by simpa using h0
  by_cases h1:n=1
  .subst h1;obtain⟨k,rfl,hkl⟩:=Bu (hp rfl);have hr:=hv.sign;obtain⟨p,q,rfl,hrr⟩:=hv.sign;obtain⟨lb,lo,rfl,hc⟩:=hr.at hkl;have e:BD c.sign (k:Int)=c.sign[k].kind:=by unfold BD;rw[Int.toNat_natCast,gB hkl];rfl
   rw[e];obtain⟨⟨nm,K,L⟩,ht⟩:∃t:AR,c.sign[k]=t:=⟨_,rfl⟩
   rw[ht]at hc |-;have y1:w.cell? ⟨lb,lo+k*3+1,none⟩=some (.int .i64 K):=hc.at 1 rfl;have g1:∀o,(w.alloc o).cell? ⟨lb,lo+k*3+1,none⟩=some (.int .i64 K):=fun o=>kc (A0 _ _) y1;obtain⟨N,hN⟩:=gA (c.sign.length)
   rw[hN]at hkl HB |-;clear hr hrr hc ht e hp hv hN h0 hk;simp only;go_enter func72,ntmps72;go_wp2;go_ret;exact⟨A6 sM,A0 _ _⟩
  .have h1':(n==1)=false:=by simpa using h1
   rw[h0',h1'];clear hp hv h0 h1;go_enter func72,ntmps72;go_wp2;go_ret;exact⟨rfl,A0 _ _⟩
def BY(i:Av):Int:=if At i.op||(i.op==29||(i.op==30||i.op==32))then i.d else if i.op==31||i.op==33 then i.a else -1
def Cr(rs:List Ty)(n:Int):Int:=if Ab n rs.length&&(Ag rs n).kind==3 then(Ag rs n).par else -1
theorem EL(v0 v1 v2 v3:Value)(c:Cd)(hk:AI c)(i:Av)(w:World)(hv:BE w v0 v1 v2 v3 c):
 Calls prog 52 #[.agg #[v0,v1,v2,v3],BV i] w fun e w'=>e=.returned (.int .i64 (Cr c.regs (BY i)))/\Below w.heap.size w w':=by
 have HB:=hk.regsL;have KE:Hid (∀v,Calls prog 38 #[.int .i64 i.op] v fun e w'=>e=.returned (.bool (At i.op))/\w'=v):=E1 i.op;have hr:=hv.regs;obtain⟨p,q,rfl,hrr⟩:=hv.regs;clear hv hk hrr;obtain⟨op,D,A,B,E,nn,bb⟩:=i;unfold BV;simp only at KE |-;have CC:∀n:Int,(Ab n c.regs.length=false/\Cr c.regs n= -1)\/∃ (k:Nat) (lb lo:Nat) (K P:Int),n=(k:Int)/\k<c.regs.length/\p=some ⟨lb,lo,none⟩/\w.cell? ⟨lb,lo+k*2,none⟩=some (.int .i64 K)/\w.cell? ⟨lb,lo+k*2+1,none⟩=some (.int .i64 P)/\Cr c.regs n=if K==3 then P else -1:=by
  intro n;cases h:Ab n c.regs.length
  .exact .inl ⟨rfl,by unfold Cr;rw[h];rfl⟩
  .obtain⟨k,rfl,hkl⟩:=Bu h;obtain⟨lb,lo,hp,hc⟩:=hr.at hkl;refine .inr ⟨k,lb,lo,c.regs[k].kind,c.regs[k].par,rfl,hkl,hp,hc.at 0 rfl,hc.at 1 rfl,?_⟩;unfold Cr;rw[h,BL rfl hkl,Bool.true_and]
 obtain⟨N,hN⟩:=gA (c.regs.length)
 rw[hN]at HB CC |-;clear hr;cases hX:At op
 .rw[hX]at KE;by_cases a29:op=29
  .subst a29;rw[show BY ⟨29,D,A,B,E,nn,bb⟩=D from rfl];rcases CC D with⟨hpl,e9⟩|⟨k,lb,lo,K,P,rfl,hkl,rfl,y0,y1,e9⟩
   .rw[e9];clear CC e9;by_cases h0:D<0
    .exact Dj
    .have h1:(N:Int)<=D:=by unfold Ab at hpl;simp at hpl;omega
     exact Dj
   .rw[e9];clear CC e9;have g0:∀o o',((w.alloc o).alloc o').cell? ⟨lb,lo+k*2,none⟩=some (.int .i64 K):=fun o o'=>kc (bel (A0 _ _) (A0 _ _)) y0;have g1:∀o o',((w.alloc o).alloc o').cell? ⟨lb,lo+k*2+1,none⟩=some (.int .i64 P):=fun o o'=>kc (bel (A0 _ _) (A0 _ _)) y1;by_cases h3:K=3
    .subst h3;exact Dj
    .have h3':(K==3)=false:=by simpa using h3
     have h3b:(K != 3)=true:=by simpa using h3
     rw[h3'];clear h3;exact Dj
  by_cases a30:op=30
  .subst a30;rw[show BY ⟨30,D,A,B,E,nn,bb⟩=D from rfl];rcases CC D with⟨hpl,e9⟩|⟨k,lb,lo,K,P,rfl,hkl,rfl,y0,y1,e9⟩
   .rw[e9];clear CC e9;by_cases h0:D<0
    .exact Dj
    .have h1:(N:Int)<=D:=by unfold Ab at hpl;simp at hpl;omega
     exact Dj
   .rw[e9];clear CC e9;have g0:∀o o',((w.alloc o).alloc o').cell? ⟨lb,lo+k*2,none⟩=some (.int .i64 K):=fun o o'=>kc (bel (A0 _ _) (A0 _ _)) y0;have g1:∀o o',((w.alloc o).alloc o').cell? ⟨lb,lo+k*2+1,none⟩=some (.int .i64 P):=fun o o'=>kc (bel (A0 _ _) (A0 _ _)) y1;by_cases h3:K=3
    .subst h3;exact Dj
    .have h3':(K==3)=false:=by simpa using h3
     have h3b:(K != 3)=true:=by simpa using h3
     rw[h3'];clear h3;exact Dj
  by_cases a32:op=32
  .subst a32;rw[show BY ⟨32,D,A,B,E,nn,bb⟩=D from rfl];rcases CC D with⟨hpl,e9⟩|⟨k,lb,lo,K,P,rfl,hkl,rfl,y0,y1,e9⟩
   .rw[e9];clear CC e9;by_cases h0:D<0
    .exact Dj
    .have h1:(N:Int)<=D:=by unfold Ab at hpl;simp at hpl;omega
     exact Dj
   .rw[e9];clear CC e9;have g0:∀o o',((w.alloc o).alloc o').cell? ⟨lb,lo+k*2,none⟩=some (.int .i64 K):=fun o o'=>kc (bel (A0 _ _) (A0 _ _)) y0;have g1:∀o o',((w.alloc o).alloc o').cell? ⟨lb,lo+k*2+1,none⟩=some (.int .i64 P):=fun o o'=>kc (bel (A0 _ _) (A0 _ _)) y1;by_cases h3:K=3
    .subst h3;exact Dj
    .have h3':(K==3)=false:=by simpa using h3
     have h3b:(K != 3)=true:=by simpa using h3
     rw[h3'];clear h3;exact Dj
  by_cases a31:op=31
  .subst a31;rw[show BY ⟨31,D,A,B,E,nn,bb⟩=A from rfl];rcases CC A with⟨hpl,e9⟩|⟨k,lb,lo,K,P,rfl,hkl,rfl,y0,y1,e9⟩
   .rw[e9];clear CC e9;by_cases h0:A<0
    .exact Dj
    .have h1:(N:Int)<=A:=by unfold Ab at hpl;simp at hpl;omega
     exact Dj
   .rw[e9];clear CC e9;have g0:∀o o',((w.alloc o).alloc o').cell? ⟨lb,lo+k*2,none⟩=some (.int .i64 K):=fun o o'=>kc (bel (A0 _ _) (A0 _ _)) y0;have g1:∀o o',((w.alloc o).alloc o').cell? ⟨lb,lo+k*2+1,none⟩=some (.int .i64 P):=fun o o'=>kc (bel (A0 _ _) (A0 _ _)) y1;by_cases h3:K=3
    .subst h3;exact Dj
    .have h3':(K==3)=false:=by simpa using h3
     have h3b:(K != 3)=true:=by simpa using h3
     rw[h3'];clear h3;exact Dj
  by_cases a33:op=33
  .subst a33;rw[show BY ⟨33,D,A,B,E,nn,bb⟩=A from rfl];rcases CC A with⟨hpl,e9⟩|⟨k,lb,lo,K,P,rfl,hkl,rfl,y0,y1,e9⟩
   .rw[e9];clear CC e9;by_cases h0:A<0
    .exact Dj
    .have h1:(N:Int)<=A:=by unfold Ab at hpl;simp at hpl;omega
     exact Dj
   .rw[e9];clear CC e9;have g0:∀o o',((w.alloc o).alloc o').cell? ⟨lb,lo+k*2,none⟩=some (.int .i64 K):=fun o o'=>kc (bel (A0 _ _) (A0 _ _)) y0;have g1:∀o o',((w.alloc o).alloc o').cell? ⟨lb,lo+k*2+1,none⟩=some (.int .i64 P):=fun o o'=>kc (bel (A0 _ _) (A0 _ _)) y1;by_cases h3:K=3
    .subst h3;exact Dj
    .have h3':(K==3)=false:=by simpa using h3
     have h3b:(K != 3)=true:=by simpa using h3
     rw[h3'];clear h3;exact Dj
  .have b29:(op==29)=false:=by simpa using a29
   have b30:(op==30)=false:=by simpa using a30
   have b31:(op==31)=false:=by simpa using a31
   have b32:(op==32)=false:=by simpa using a32
   have b33:(op==33)=false:=by simpa using a33
   rw[show BY ⟨op,D,A,B,E,nn,bb⟩= -1 by unfold BY;simp[hX,b29,b30,b31,b32,b33]];rw[show Cr c.regs (-1)= -1 by unfold Cr Ab;simp];clear CC a29 a30 a31 a32 a33;exact Dj
 .rw[hX]at KE;rw[show BY ⟨op,D,A,B,E,nn,bb⟩=D by unfold BY;simp[hX]];rcases CC D with⟨hpl,e9⟩|⟨k,lb,lo,K,P,rfl,hkl,rfl,y0,y1,e9⟩
  .rw[e9];clear CC e9;by_cases h0:D<0
   .exact Dj
   .have h1:(N:Int)<=D:=by unfold Ab at hpl;simp at hpl;omega
    exact Dj
  .rw[e9];clear CC e9;have g0:∀o o',((w.alloc o).alloc o').cell? ⟨lb,lo+k*2,none⟩=some (.int .i64 K):=fun o o'=>kc (bel (A0 _ _) (A0 _ _)) y0;have g1:∀o o',((w.alloc o).alloc o').cell? ⟨lb,lo+k*2+1,none⟩=some (.int .i64 P):=fun o o'=>kc (bel (A0 _ _) (A0 _ _)) y1;by_cases h3:K=3
   .subst h3;exact Dj
   .have h3':(K==3)=false:=by simpa using h3
    have h3b:(K != 3)=true:=by simpa using h3
    rw[h3'];clear h3;exact Dj
structure Lt where
 a:Int
 b:Int
 c:Int
 d:Int
 e:Int
def Bh(op:Int):Lt:=
 if op=1 then⟨110,45,45,45,45⟩
 else if op=2 then⟨119,45,45,45,105⟩
 else if op=3 then⟨97,99,45,45,45⟩
 else if 4<=op/\op<=10 then⟨100,120,120,45,45⟩
 else if 11<=op/\op<=14 then⟨100,120,45,45,45⟩
 else if op=15 then⟨100,120,120,120,45⟩
 else if op=16 then⟨110,110,119,45,45⟩
 else if op=17 then⟨110,119,45,45,45⟩
 else if op=18 then⟨119,110,45,45,45⟩
 else if 19<=op/\op<=20 then⟨110,118,45,45,45⟩
 else if op=21\/op=25 then⟨119,119,45,45,45⟩
 else if op=26 then⟨119,119,119,119,45⟩
 else if 22<=op/\op<=28 then⟨119,119,119,45,45⟩
 else if 29<=op/\op<=30 then⟨118,45,45,45,112⟩
 else if op=31 then⟨45,118,45,45,112⟩
 else if op=32 then⟨97,45,45,45,115⟩
 else if op=33 then⟨45,97,45,45,115⟩
 else if op=34 then⟨45,119,45,45,45⟩
 else if op=36 then⟨45,45,45,45,113⟩
 else⟨45,45,45,45,45⟩
def dR(rs:List Ty)(l D:Int):Ty:=if l=45 then⟨0,0⟩else Ag rs D
def tR(rs:List Ty)(l0 l1 D A:Int):Ty:=if l0=45/\l1≠45 then Ag rs A else dR rs l0 D
def B9(c:Cd)(l n:Int)(t:Ty):Bool:=
 if l=105 then Bw n
 else if l=112 then n==0||(n==1&&BD c.sign t.par==2)
 else if l=115 then Ab n c.slots.length&&decide (Cg c.slots n=t)
 else if l=113 then Ab n c.sign.length
 else n==0
def By(c:Cd)(i:Av)(L:Lt):Bool:=
 (i.op==1||i.bits==0)&&(AW i.bits&&(Ad c.regs L.a i.d ⟨0,0⟩&&(Ad c.regs L.b i.a (dR c.regs L.a i.d)&&(Ad c.regs L.c i.b (dR c.regs L.a i.d)&&(Ad c.regs L.d i.c (dR c.regs L.a i.d)&&B9 c L.e i.n (tR c.regs L.a L.b i.d i.a))))))
theorem FM{c:Cd}(h:Ac c=true){n:Int}(hp:Ab n c.regs.length=true):Aj (Ag c.regs n) c.sign.length=true:=by
 obtain⟨k,rfl,hk⟩:=Bu hp;rw[BL rfl hk];unfold Ac at h;exact List.all_eq_true.1 h _ (gD hk)
theorem FN{c:Cd}(h:Ac c=true){n:Int}(hp:Ab n c.regs.length=true)(hk:(Ag c.regs n).kind=1):(Ag c.regs n).par=0:=by
 have:=FM h hp;unfold Aj at this;rw[if_pos (.inl hk)]at this;simpa using this
theorem Ls{c:Cd}(h:Ac c=true){n m:Int}(hn:Ab n c.regs.length=true)(hm:Ab m c.regs.length=true)(hk:((Ag c.regs m).kind==1||(Ag c.regs m).kind==3)=true):
 ((Ag c.regs n).kind==1||decide (Ag c.regs n=Ag c.regs m))=(decide (Ag c.regs n=Ag c.regs m)||((Ag c.regs n).kind==1&&(Ag c.regs m).kind==3)):=by
 have h1:=FN h hn;have h2:=FN h hm;generalize Ag c.regs n=t at *;generalize Ag c.regs m=d at *;obtain⟨K,P⟩:=t;obtain⟨A,B⟩:=d;simp only at h1 h2 hk |-;rw[Bool.eq_iff_iff];simp only[Bool.or_eq_true,beq_iff_eq,decide_eq_true_eq,Bool.and_eq_true,Ty.mk.injEq]at hk |-;constructor
 .rintro(e|e)
  .rcases hk with k|k
   .exact .inl ⟨oM,by rw[h1 e,h2 k]⟩
   .exact .inr ⟨e,k⟩
  .exact .inl e
 .rintro(e|e)
  .exact .inr e
  .exact .inl e.1
theorem Km:AW 0=true:=dE
theorem BG(rs:List Ty)(n:Int)(d:Ty):Ad rs 45 n d=(n==0):=if_pos rfl
theorem BH(rs:List Ty)(n:Int)(d:Ty):A8 rs 0 n d=(n==0):=if_pos rfl
theorem AM{l:Int}(h:l≠0)(rs:List Ty)(n:Int)(d:Ty):A8 rs l n d=(Ab n rs.length&&Ca l (Ag rs n) d):=if_neg h
theorem AK{l:Int}(h:l≠45)(rs:List Ty)(n:Int)(d:Ty):Ad rs l n d=(Ab n rs.length&&Cq l (Ag rs n) d):=if_neg h
theorem D4(rs:List Ty)(n:Int)(d m:Ty):Ad rs 110 n d=A8 rs 1 n m:=by rw[AK dE,AM dE];rfl
theorem B5(rs:List Ty)(n:Int)(d m:Ty):Ad rs 119 n d=A8 rs 2 n m:=by rw[AK dE,AM dE];rfl
theorem Fr(rs:List Ty)(n:Int)(d m:Ty):Ad rs 118 n d=A8 rs 3 n m:=by rw[AK dE,AM dE];rfl
theorem Fq(rs:List Ty)(n:Int)(d m:Ty):Ad rs 100 n d=A8 rs 4 n m:=by rw[AK dE,AM dE];rfl
theorem Af(rs:List Ty)(n:Int)(d m:Ty):Ad rs 45 n d=A8 rs 0 n m:=by rw[BG,BH]
theorem Fp(rs:List Ty)(n:Int)(d:Ty):Ad rs 97 n d=A8 rs 6 n (Ag rs n):=by rw[AK dE,AM dE];simp[Cq,Ca]
theorem JO(rs:List Ty)(n:Int)(d:Ty):Ad rs 99 n d=A8 rs 5 n d:=by rw[AK dE,AM dE];simp[Cq,Ca]
theorem JP{c:Cd}(h:Ac c=true)(n:Int){m:Int}(hd:A8 c.regs 4 m (Ag c.regs m)=true):Ad c.regs 120 n (Ag c.regs m)=A8 c.regs 5 n (Ag c.regs m):=by
 rw[AK dE,AM dE];rw[AM dE]at hd;simp only[Bool.and_eq_true]at hd;cases hn:Ab n c.regs.length
 .rfl
 .rw[Bool.true_and,Bool.true_and];exact Ls h hn hd.1 hd.2
theorem Aw{c:Cd}{i:Av}{L:Lt}{R:Rw}(h1:i.op≠1)(h7:R.n≠7)(ha:Ad c.regs L.a i.d ⟨0,0⟩=A8 c.regs R.d i.d (Al c.regs i R))
 (hb:A8 c.regs R.d i.d (Al c.regs i R)=true->Ad c.regs L.b i.a (dR c.regs L.a i.d)=A8 c.regs R.a i.a (Al c.regs i R))
 (hc:A8 c.regs R.d i.d (Al c.regs i R)=true->Ad c.regs L.c i.b (dR c.regs L.a i.d)=A8 c.regs R.b i.b (Al c.regs i R))
 (hd:A8 c.regs R.d i.d (Al c.regs i R)=true->Ad c.regs L.d i.c (dR c.regs L.a i.d)=A8 c.regs R.c i.c (Al c.regs i R))
 (he:B9 c L.e i.n (tR c.regs L.a L.b i.d i.a)=Ex c i.n R.n (Al c.regs i R)):By c i L=AG c i R:=by
 unfold By AG B4;rw[if_neg h7,ha,he];have:(i.op==1)=false:=by simpa using h1
 rw[this,Bool.false_or];cases hX:A8 c.regs R.d i.d (Al c.regs i R)
 .simp
 .rw[hb hX,hc hX,hd hX];cases hb:(i.bits==0)
  .simp
  .have:i.bits=0:=by simpa using hb
   rw[this,Km];simp
theorem Ey{c:Cd}(h:Ac c=true)(i:Av):By c i (Bh i.op)=AG c i (Aa i.op):=by
 have x:=fun n=>@JP c h n i.d;by_cases h1:i.op=1
 .have e1:Bh i.op=⟨110,45,45,45,45⟩:=by rw[h1];rfl
  have e2:Aa i.op=⟨1,0,0,0,7⟩:=by rw[h1];rfl
  rw[e1,e2];unfold By AG B4;simp only;rw[h1,D4 _ _ _ (Al c.regs i ⟨1,0,0,0,7⟩),BG,BG,BG,BH,BH,BH];rw[show B9 c 45 i.n (tR c.regs 110 45 i.d i.a)=(i.n==0)from rfl];generalize A8 c.regs 1 i.d _=A1;cases A1<;>cases AW i.bits<;>simp
 unfold Bh Aa;rw[if_neg h1,if_neg h1];by_cases h2:i.op=2
 .rw[if_pos h2,if_pos h2];exact Aw h1 dE (B5 _ _ _ _) (fun _=>Af _ _ _ _) (fun _=>Af _ _ _ _) (fun _=>Af _ _ _ _) rfl
 rw[if_neg h2,if_neg h2];by_cases h3:i.op=3
 .rw[if_pos h3,if_pos h3];exact Aw h1 dE (Fp _ _ _) (fun _=>JO _ _ _) (fun _=>Af _ _ _ _) (fun _=>Af _ _ _ _) rfl
 rw[if_neg h3,if_neg h3];by_cases h4:4<=i.op/\i.op<=10
 .rw[if_pos h4,if_pos h4];exact Aw h1 dE (Fq _ _ _ _) (x _) (x _) (fun _=>Af _ _ _ _) rfl
 rw[if_neg h4,if_neg h4];by_cases h5:11<=i.op/\i.op<=14
 .rw[if_pos h5,if_pos h5];exact Aw h1 dE (Fq _ _ _ _) (x _) (fun _=>Af _ _ _ _) (fun _=>Af _ _ _ _) rfl
 rw[if_neg h5,if_neg h5];by_cases h6:i.op=15
 .rw[if_pos h6,if_pos h6];exact Aw h1 dE (Fq _ _ _ _) (x _) (x _) (x _) rfl
 rw[if_neg h6,if_neg h6];by_cases h7:i.op=16
 .rw[if_pos h7,if_pos h7];exact Aw h1 dE (D4 _ _ _ _) (fun _=>D4 _ _ _ _) (fun _=>B5 _ _ _ _) (fun _=>Af _ _ _ _) rfl
 rw[if_neg h7,if_neg h7];by_cases h8:i.op=17
 .rw[if_pos h8,if_pos h8];exact Aw h1 dE (D4 _ _ _ _) (fun _=>B5 _ _ _ _) (fun _=>Af _ _ _ _) (fun _=>Af _ _ _ _) rfl
 rw[if_neg h8,if_neg h8];by_cases h9:i.op=18
 .rw[if_pos h9,if_pos h9];exact Aw h1 dE (B5 _ _ _ _) (fun _=>D4 _ _ _ _) (fun _=>Af _ _ _ _) (fun _=>Af _ _ _ _) rfl
 rw[if_neg h9,if_neg h9];by_cases h10:19<=i.op/\i.op<=20
 .rw[if_pos h10,if_pos h10];exact Aw h1 dE (D4 _ _ _ _) (fun _=>Fr _ _ _ _) (fun _=>Af _ _ _ _) (fun _=>Af _ _ _ _) rfl
 rw[if_neg h10,if_neg h10];by_cases h11:i.op=21\/i.op=25
 .rw[if_pos h11,if_pos h11];exact Aw h1 dE (B5 _ _ _ _) (fun _=>B5 _ _ _ _) (fun _=>Af _ _ _ _) (fun _=>Af _ _ _ _) rfl
 rw[if_neg h11,if_neg h11];by_cases h12:i.op=26
 .rw[if_pos h12,if_pos h12];exact Aw h1 dE (B5 _ _ _ _) (fun _=>B5 _ _ _ _) (fun _=>B5 _ _ _ _) (fun _=>B5 _ _ _ _) rfl
 rw[if_neg h12,if_neg h12];by_cases h13:22<=i.op/\i.op<=28
 .rw[if_pos h13,if_pos h13];exact Aw h1 dE (B5 _ _ _ _) (fun _=>B5 _ _ _ _) (fun _=>B5 _ _ _ _) (fun _=>Af _ _ _ _) rfl
 rw[if_neg h13,if_neg h13];by_cases h14:29<=i.op/\i.op<=30
 .rw[if_pos h14,if_pos h14];exact Aw h1 dE (Fr _ _ _ _) (fun _=>Af _ _ _ _) (fun _=>Af _ _ _ _) (fun _=>Af _ _ _ _) rfl
 rw[if_neg h14,if_neg h14];by_cases h15:i.op=31
 .rw[if_pos h15,if_pos h15];exact Aw h1 dE (Af _ _ _ _) (fun _=>Fr _ _ _ _) (fun _=>Af _ _ _ _) (fun _=>Af _ _ _ _) rfl
 rw[if_neg h15,if_neg h15];by_cases h16:i.op=32
 .rw[if_pos h16,if_pos h16];exact Aw h1 dE (Fp _ _ _) (fun _=>Af _ _ _ _) (fun _=>Af _ _ _ _) (fun _=>Af _ _ _ _) rfl
 rw[if_neg h16,if_neg h16];by_cases h17:i.op=33
 .rw[if_pos h17,if_pos h17];exact Aw h1 dE (Af _ _ _ _) (fun _=>Fp _ _ _) (fun _=>Af _ _ _ _) (fun _=>Af _ _ _ _) rfl
 rw[if_neg h17,if_neg h17];by_cases h18:i.op=34
 .rw[if_pos h18,if_pos h18];exact Aw h1 dE (Af _ _ _ _) (fun _=>B5 _ _ _ _) (fun _=>Af _ _ _ _) (fun _=>Af _ _ _ _) rfl
 rw[if_neg h18,if_neg h18];by_cases h19:i.op=36
 .rw[if_pos h19,if_pos h19];exact M2
 rw[if_neg h19,if_neg h19];exact M2
theorem Gj(op:Int)(hk:An op=true):∃a b c d e:UInt8,((a.toNat:Int)=(Bh op).a/\(b.toNat:Int)=(Bh op).b/\(c.toNat:Int)=(Bh op).c/\(d.toNat:Int)=(Bh op).d/\(e.toNat:Int)=(Bh op).e)/\∀w,Calls prog 54 #[.int .i64 op] w fun x w'=>x=.returned (.tuple #[.string ⟨#[a,b,c,d,e]⟩,.bool true])/\w'=w:=by
 have hh:1<=op/\op<=37:=by unfold An at hk;simp at hk;omega
 clear hk;have:op=1\/op=2\/op=3\/op=4\/op=5\/op=6\/op=7\/op=8\/op=9\/op=10\/op=11\/op=12\/op=13\/op=14\/op=15\/op=16\/op=17\/op=18\/op=19\/op=20\/op=21\/op=22\/op=23\/op=24\/op=25\/op=26\/op=27\/op=28\/op=29\/op=30\/op=31\/op=32\/op=33\/op=34\/op=35\/op=36\/op=37:=oM;rcases this with rfl|rfl|rfl|rfl|rfl|rfl|rfl|rfl|rfl|rfl|rfl|rfl|rfl|rfl|rfl|rfl|rfl|rfl|rfl|rfl|rfl|rfl|rfl|rfl|rfl|rfl|rfl|rfl|rfl|rfl|rfl|rfl|rfl|rfl|rfl|rfl|rfl
 .exact⟨_,_,_,_,_,⟨rfl,rfl,rfl,rfl,rfl⟩,fun w=>Ii w⟩
 .exact⟨_,_,_,_,_,⟨rfl,rfl,rfl,rfl,rfl⟩,fun w=>Ij w⟩
 .exact⟨_,_,_,_,_,⟨rfl,rfl,rfl,rfl,rfl⟩,fun w=>Ik w⟩
 .exact⟨_,_,_,_,_,⟨rfl,rfl,rfl,rfl,rfl⟩,fun w=>Il w⟩
 .exact⟨_,_,_,_,_,⟨rfl,rfl,rfl,rfl,rfl⟩,fun w=>Im w⟩
 .exact⟨_,_,_,_,_,⟨rfl,rfl,rfl,rfl,rfl⟩,fun w=>In w⟩
 .exact⟨_,_,_,_,_,⟨rfl,rfl,rfl,rfl,rfl⟩,fun w=>Io w⟩
 .exact⟨_,_,_,_,_,⟨rfl,rfl,rfl,rfl,rfl⟩,fun w=>Ip w⟩
 .exact⟨_,_,_,_,_,⟨rfl,rfl,rfl,rfl,rfl⟩,fun w=>Iq w⟩
 .exact⟨_,_,_,_,_,⟨rfl,rfl,rfl,rfl,rfl⟩,fun w=>FQ w⟩
 .exact⟨_,_,_,_,_,⟨rfl,rfl,rfl,rfl,rfl⟩,fun w=>FR w⟩
 .exact⟨_,_,_,_,_,⟨rfl,rfl,rfl,rfl,rfl⟩,fun w=>FS w⟩
 .exact⟨_,_,_,_,_,⟨rfl,rfl,rfl,rfl,rfl⟩,fun w=>FT w⟩
 .exact⟨_,_,_,_,_,⟨rfl,rfl,rfl,rfl,rfl⟩,fun w=>FU w⟩
 .exact⟨_,_,_,_,_,⟨rfl,rfl,rfl,rfl,rfl⟩,fun w=>FV w⟩
 .exact⟨_,_,_,_,_,⟨rfl,rfl,rfl,rfl,rfl⟩,fun w=>FX w⟩
 .exact⟨_,_,_,_,_,⟨rfl,rfl,rfl,rfl,rfl⟩,fun w=>FY w⟩
 .exact⟨_,_,_,_,_,⟨rfl,rfl,rfl,rfl,rfl⟩,fun w=>FZ w⟩
 .exact⟨_,_,_,_,_,⟨rfl,rfl,rfl,rfl,rfl⟩,fun w=>G0 w⟩
 .exact⟨_,_,_,_,_,⟨rfl,rfl,rfl,rfl,rfl⟩,fun w=>G1 w⟩
 .exact⟨_,_,_,_,_,⟨rfl,rfl,rfl,rfl,rfl⟩,fun w=>G2 w⟩
 .exact⟨_,_,_,_,_,⟨rfl,rfl,rfl,rfl,rfl⟩,fun w=>G3 w⟩
 .exact⟨_,_,_,_,_,⟨rfl,rfl,rfl,rfl,rfl⟩,fun w=>G4 w⟩
 .exact⟨_,_,_,_,_,⟨rfl,rfl,rfl,rfl,rfl⟩,fun w=>G5 w⟩
 .exact⟨_,_,_,_,_,⟨rfl,rfl,rfl,rfl,rfl⟩,fun w=>G6 w⟩
 .exact⟨_,_,_,_,_,⟨rfl,rfl,rfl,rfl,rfl⟩,fun w=>G7 w⟩
 .exact⟨_,_,_,_,_,⟨rfl,rfl,rfl,rfl,rfl⟩,fun w=>G8 w⟩
 .exact⟨_,_,_,_,_,⟨rfl,rfl,rfl,rfl,rfl⟩,fun w=>G9 w⟩
 .exact⟨_,_,_,_,_,⟨rfl,rfl,rfl,rfl,rfl⟩,fun w=>Ga w⟩
 .exact⟨_,_,_,_,_,⟨rfl,rfl,rfl,rfl,rfl⟩,fun w=>Gb w⟩
 .exact⟨_,_,_,_,_,⟨rfl,rfl,rfl,rfl,rfl⟩,fun w=>Gc w⟩
 .exact⟨_,_,_,_,_,⟨rfl,rfl,rfl,rfl,rfl⟩,fun w=>Gd w⟩
 .exact⟨_,_,_,_,_,⟨rfl,rfl,rfl,rfl,rfl⟩,fun w=>Ge w⟩
 .exact⟨_,_,_,_,_,⟨rfl,rfl,rfl,rfl,rfl⟩,fun w=>Gf w⟩
 .exact⟨_,_,_,_,_,⟨rfl,rfl,rfl,rfl,rfl⟩,fun w=>Gg w⟩
 .exact⟨_,_,_,_,_,⟨rfl,rfl,rfl,rfl,rfl⟩,fun w=>Gh w⟩
 .exact⟨_,_,_,_,_,⟨rfl,rfl,rfl,rfl,rfl⟩,fun w=>Gi w⟩
def AP(b:Int):Prop:=b=45\/b=110\/b=119\/b=118\/b=100\/b=120\/b=99\/b=97
instance (b:Int):Decidable (AP b):=by unfold AP;infer_instance
def Kj(L:Lt):Bool:=decide (AP L.a)&&(decide (AP L.b)&&(decide (AP L.c)&&(decide (AP L.d)&&(decide (L.e=45\/L.e=105\/L.e=112\/L.e=115\/L.e=113)&&decide (L.e=112->L.a=118\/(L.a=45/\L.b=118))))))
theorem J3{p:Prop}[Decidable p]{x y:Lt}(h:Kj x=true)(k:Kj y=true):Kj (if p then x else y)=true:=by
 split
 .exact h
 .exact k
theorem IX(op:Int):Kj (Bh op)=true:=by
 unfold Bh
 iterate 19 refine J3 dE ?_
 decide
theorem JL(op:Int):AP (Bh op).a/\AP (Bh op).b/\AP (Bh op).c/\AP (Bh op).d/\((Bh op).e=45\/(Bh op).e=105\/(Bh op).e=112\/(Bh op).e=115\/(Bh op).e=113)/\((Bh op).e=112->(Bh op).a=118\/((Bh op).a=45/\(Bh op).b=118)):=by
 have:=IX op;unfold Kj at this;simp only[Bool.and_eq_true,decide_eq_true_eq]at this;exact this
theorem Hp(v0 v1 v2 v3:Value)(i:Av)(h0:0<=i.bits)(h1:i.bits<4294967296)(h:(An i.op&&((i.op==1||i.bits==0)&&AW i.bits))=false)(w:World):
 Calls prog 51 #[.agg #[v0,v1,v2,v3],BV i] w fun e w'=>e=.returned (.bool false)/\Below w.heap.size w w':=by
 have HCAN:Hid (∀w,Calls prog 50 #[.int .u32 i.bits] w fun e w'=>e=.returned (.bool (AW i.bits))/\Below w.heap.size w w'):=Bv i.bits h0 h1;cases hk:An i.op
 .have HROW:Hid (∀w,Calls prog 54 #[.int .i64 i.op] w fun e w'=>e=.returned (.tuple #[.string ⟨#[]⟩,.bool false])/\w'=w):=E4 i.op hk;obtain⟨op,D,A,B,E,n,bt⟩:=i;unfold BV;simp only at HROW HCAN |-;clear h hk;go_enter func51,ntmps51;go_wp2_with(go_at_call 54;refine(HROW.out _).mono ?_;rintro e w1 ⟨rfl,rfl⟩);go_ret;exact IJ
 .obtain⟨a,b,c,d,e,-,hc⟩:=Gj i.op hk;have HROW:Hid (∀w,Calls prog 54 #[.int .i64 i.op] w fun x w'=>x=.returned (.tuple #[.string ⟨#[a,b,c,d,e]⟩,.bool true])/\w'=w):=hc;rw[hk,Bool.true_and]at h;clear hc hk;obtain⟨op,D,A,B,E,n,bt⟩:=i;unfold BV;simp only at HROW HCAN h |-;cases ho:(op==1)
  .have ho':(op != 1)=true:=by simpa using ho
   cases hz:(bt==0)
   .have hz':(bt != 0)=true:=by simpa using hz
    clear h;go_enter func51,ntmps51;go_wp2_with(go_at_call 54;refine(HROW.out _).mono ?_;rintro e w1 ⟨rfl,rfl⟩);go_ret;exact IJ
   .rw[ho,hz,Bool.false_or,Bool.true_and]at h;rw[h]at HCAN;have hz':(bt != 0)=false:=by simpa using hz
    exact LL
  .rw[ho,Bool.true_or,Bool.true_and]at h;rw[h]at HCAN;have ho':(op != 1)=false:=by simpa using ho
   exact LL
structure TW(w:World)(v0 v1 v2 v3:Value)(J:Nat)(op D A B E n bt:Int)(v:World):Prop where
 bel:Below w.heap.size w v
 c0:v.cell? ⟨w.heap.size,0,none⟩=some v0
 c1:v.cell? ⟨w.heap.size,1,none⟩=some v1
 c2:v.cell? ⟨w.heap.size,2,none⟩=some v2
 c3:v.cell? ⟨w.heap.size,3,none⟩=some v3
 i0:v.cell? ⟨J,0,none⟩=some (.int .i64 op)
 i1:v.cell? ⟨J,1,none⟩=some (.int .i64 D)
 i2:v.cell? ⟨J,2,none⟩=some (.int .i64 A)
 i3:v.cell? ⟨J,3,none⟩=some (.int .i64 B)
 i4:v.cell? ⟨J,4,none⟩=some (.int .i64 E)
 i5:v.cell? ⟨J,5,none⟩=some (.int .i64 n)
 i6:v.cell? ⟨J,6,none⟩=some (.int .u32 bt)
theorem TW.next{w:World}{v0 v1 v2 v3:Value}{J:Nat}{op D A B E n bt:Int}{v v':World}(h:TW w v0 v1 v2 v3 J op D A B E n bt v)(k:Below v.heap.size v v'):TW w v0 v1 v2 v3 J op D A B E n bt v':=
 ⟨Go.Proofs.Ytheanilpbnencaa.bel h.bel k,kc k h.c0,kc k h.c1,kc k h.c2,kc k h.c3,kc k h.i0,kc k h.i1,kc k h.i2,kc k h.i3,kc k h.i4,kc k h.i5,kc k h.i6⟩
theorem TW.keep{w:World}{v0 v1 v2 v3:Value}{J:Nat}{op D A B E n bt:Int}{v:World}(h:TW w v0 v1 v2 v3 J op D A B E n bt v){g o:Nat}(x:Value)(h1:w.heap.size<g)(h2:g≠J):TW w v0 v1 v2 v3 J op D A B E n bt (v.setCell ⟨g,o,none⟩ x):=by
 have f1:∀j,(v.setCell ⟨g,o,none⟩ x).cell? ⟨w.heap.size,j,none⟩=v.cell? ⟨w.heap.size,j,none⟩:=fun j=>gC (gE (by show w.heap.size≠g;omega));have f2:∀j,(v.setCell ⟨g,o,none⟩ x).cell? ⟨J,j,none⟩=v.cell? ⟨J,j,none⟩:=fun j=>gC (gE (by show J≠g;omega));exact⟨h.bel.setCell (by show w.heap.size<=g;omega) _,(f1 0).trans h.c0,(f1 1).trans h.c1,(f1 2).trans h.c2,(f1 3).trans h.c3,(f2 0).trans h.i0,(f2 1).trans h.i1,(f2 2).trans h.i2,(f2 3).trans h.i3,(f2 4).trans h.i4,(f2 5).trans h.i5,(f2 6).trans h.i6⟩
theorem TW.start(w:World)(v0 v1 v2 v3:Value)(op D A B E n bt:Int):TW w v0 v1 v2 v3 (w.heap.size+1) op D A B E n bt ((w.alloc (.cells #[v0,v1,v2,v3] 27)).alloc (.cells #[.int .i64 op,.int .i64 D,.int .i64 A,.int .i64 B,.int .i64 E,.int .i64 n,.int .u32 bt] 53)):=by
 have k:=A0 (w.alloc (.cells #[v0,v1,v2,v3] 27)) (.cells #[.int .i64 op,.int .i64 D,.int .i64 A,.int .i64 B,.int .i64 E,.int .i64 n,.int .u32 bt] 53);exact⟨Go.Proofs.Ytheanilpbnencaa.bel (A0 _ _) k,kc k sG,kc k sG,kc k sG,kc k sG,sG,sG,sG,sG,sG,sG,sG⟩
theorem Bm{n:Nat}{w v:World}(h:Below n w v):Below n w v.drew:=h.drew
def ES(s:Wk)(op:Int):Bool:=if op=34\/op=36 then decide (s.opens.length<64)else if op=35 then decide (0<s.opens.length)&& !Ar s else if op=37 then Ar s else true
def EA(c:Cd)(s:Wk)(i:Av):Bool:=Ar s&&(i.op != 37&&Cr c.regs (BY i) != B1 s)
def Bp(s:Wk):Prop:=∀b∈s.opens,b.loop=true->0<=b.par
theorem Bp.inner{s:Wk}(h:Bp s)(hl:Ar s=true):0<=B1 s:=by
 obtain⟨S,O⟩:=s;cases O with
 |nil=>exact Int.le_refl _
 |cons b r=>exact h b (List.mem_cons_self ..) hl
theorem Dc{i:Av}(h:AX i.op=false):BY i= -1:=by
 unfold AX at h;simp only[Bool.or_eq_false_iff]at h;have h1:(i.op==29)=false/\(i.op==30)=false/\(i.op==31)=false/\(i.op==32)=false/\(i.op==33)=false:=by
  have:=h.1;simp only[Bool.and_eq_false_iff,decide_eq_false_iff_not]at this;simp only[beq_eq_false_iff_ne,ne_eq];omega
 unfold BY;rw[h.2,h1.1,h1.2.1,h1.2.2.1,h1.2.2.2.1,h1.2.2.2.2];rfl
theorem GZ{i:Av}(h:AX i.op=true):BY i=EB i (Aa i.op):=by
 unfold AX At at h;simp only[Bool.or_eq_true,Bool.and_eq_true,decide_eq_true_eq]at h;obtain⟨op,D,A,B,E,n,bb⟩:=i;simp only at h |-;have:op=3\/op=4\/op=5\/op=6\/op=7\/op=8\/op=9\/op=10\/op=11\/op=12\/op=13\/op=14\/op=15\/op=29\/op=30\/op=31\/op=32\/op=33:=oM;rcases this with rfl|rfl|rfl|rfl|rfl|rfl|rfl|rfl|rfl|rfl|rfl|rfl|rfl|rfl|rfl|rfl|rfl|rfl<;>rfl
theorem Dd(rs:List Ty):Cr rs (-1)= -1:=by unfold Cr Ab;simp
theorem Js{rs:List Ty}{n q:Int}(hq:0<=q):(Cr rs n=q)↔Ag rs n=⟨3,q⟩:=by
 unfold Cr;cases h:Ab n rs.length
 .have:Ag rs n=⟨0,0⟩:=by unfold Ag;rw[h];rfl
  rw[this];simp;omega
 .rw[Bool.true_and];generalize Ag rs n=t;obtain⟨K,P⟩:=t;simp only[Ty.mk.injEq];by_cases hk:K=3
  .subst hk;simp
  .have:(K==3)=false:=by simpa using hk
   rw[this];constructor
   .intro e;simp at e;omega
   .intro e;exact absurd e.1 hk
theorem GW{c:Cd}{s:Wk}{i:Av}(hO:Bp s):Aq c s i (Aa i.op)=(!EA c s i&&ES s i.op):=by
 have hO':=hO.inner;unfold Aq EA ES;by_cases h1:i.op=34\/i.op=36
 .rw[if_pos h1,if_pos h1];have hv:Cr c.regs (BY i)= -1:=by
   rw[Dc (by rcases h1 with e|e<;>rw[e]<;>decide),Dd]
  have h37:(i.op != 37)=true:=by rcases h1 with e|e<;>rw[e]<;>decide
  rw[hv,h37];cases hl:Ar s
  .rfl
  .have:=hO' hl;have e:((-1:Int) != B1 s)=true:=sO;rw[e];rfl
 .rw[if_neg h1,if_neg h1];by_cases h2:i.op=35
  .rw[if_pos h2,if_pos h2];have hv:Cr c.regs (BY i)= -1:=by rw[Dc (by rw[h2];decide),Dd]
   rw[hv,h2];have hE:(!s.opens.isEmpty)=decide (0<s.opens.length):=by cases s.opens<;>simp
   rw[hE];cases hl:Ar s
   .simp
   .have:=hO' hl;have e:((-1:Int) != B1 s)=true:=sO;rw[e];simp
  .rw[if_neg h2,if_neg h2];by_cases h3:i.op=37
   .rw[if_pos h3,if_pos h3,h3];cases Ar s<;>rfl
   .rw[if_neg h3,if_neg h3];have h37:(i.op != 37)=true:=by simpa using h3
    rw[h37,Bool.true_and,Bool.and_true];cases hl:Ar s
    .rfl
    .have hq:=hO' hl;rw[Bool.not_true,Bool.false_or,Bool.true_and];cases hlp:AX i.op
     .rw[Dc hlp,Dd];have e:((-1:Int) != B1 s)=true:=sO;rw[e];rfl
     .rw[GZ hlp,Bool.true_and];unfold Al;rw[Bool.eq_iff_iff,decide_eq_true_eq,<-Js hq];simp
theorem GX{c:Cd}{s:Wk}{i:Av}(hT:Ac c=true)(hO:Bp s):AD c s i=((An i.op&&By c i (Bh i.op))&&(!EA c s i&&(D7 s i (Aa i.op)&&ES s i.op))):=by
 unfold AD;rw[Ey hT,GW hO];cases An i.op<;>cases AG c i (Aa i.op)<;>cases EA c s i<;>cases ES s i.op<;>simp
structure Ob where
 op:Int
 par:Int
 set:List Nat
def JN(S:List Nat)(b:Bk):Ob:=⟨if b.loop then 36 else 34,b.par,S.take b.ahead⟩
def DR(s:Wk):List Ob:=(s.opens.map (JN s.set)).reverse
theorem Dn(s:Wk):(DR s).length=s.opens.length:=by simp[DR]
theorem CG(S:List Nat)(b:Bk)(r:List Bk):DR ⟨S,b::r⟩=(r.map (JN S)).reverse++[JN S b]:=by simp[DR]
theorem Hg{s:Wk}(h:0<s.opens.length):∃X,(DR s)[s.opens.length-1]? =some ⟨if Ar s then 36 else 34,B1 s,X⟩:=by
 obtain⟨S,O⟩:=s;cases O with
 |nil=>simp at h
 |cons b r=>
  refine⟨S.take b.ahead,?_⟩;rw[CG];simp only[List.length_cons,Nat.add_sub_cancel];rw[List.getElem?_append_right sM];simp only[List.length_reverse,List.length_map,Nat.sub_self];rfl
theorem Ei{s:Wk}{i:Av}(h:i.op=34\/i.op=36):Am s i=⟨s.set,⟨i.op==36,i.n,s.set.length⟩::s.opens⟩:=by
 unfold Am DA;rw[DS (by rcases h with h|h<;>rw[h]<;>rfl)];unfold CR;rw[if_pos h]
theorem Ej{s:Wk}{i:Av}(h:i.op=35\/i.op=37):Am s i=Ay s:=by
 unfold Am DA;rw[DS (by rcases h with h|h<;>rw[h]<;>rfl)];unfold CR;rw[if_neg oM,if_pos h]
theorem Co{s:Wk}{i:Av}(h1:i.op≠34)(h2:i.op≠35)(h3:i.op≠36)(h4:i.op≠37):Am s i=⟨Dk s.set i,s.opens⟩:=by
 unfold Am DA CR;rw[if_neg oM,if_neg oM];unfold En Dk;split<;>rfl
theorem Hh{s:Wk}{i:Av}(h:i.op=34\/i.op=36):DR (Am s i)=DR s++[⟨i.op,i.n,s.set⟩]:=by
 rw[Ei h,CG];unfold DR JN;simp only[List.take_length];rcases h with h|h<;>rw[h]<;>rfl
theorem Hi{s:Wk}{i:Av}{n:Nat}(ho:BB n s)(h1:i.op≠34)(h2:i.op≠35)(h3:i.op≠36)(h4:i.op≠37):DR (Am s i)=DR s:=by
 rw[Co h1 h2 h3 h4];unfold DR;simp only;congr 1;apply List.map_congr_left;intro b hb;have:=Fo ho.opens b hb;have e:(Dk s.set i).take b.ahead=s.set.take b.ahead:=by
  unfold Dk;split
  .rw[List.take_append_of_le_length this]
  .rfl
 unfold JN;rw[e]
theorem Ck{s:Wk}{n:Nat}(ho:BB n s)(h:0<s.opens.length):DR (Ay s)=(DR s).take (s.opens.length-1):=by
 obtain⟨S,O⟩:=s;cases O with
 |nil=>simp at h
 |cons b r=>
  rw[CG];simp only[List.length_cons,Nat.add_sub_cancel];rw[List.take_append_of_le_length sM,List.take_of_length_le sM];unfold DR Ay;simp only;cases hb:b.loop
  .simp only[Bool.false_eq_true,if_false];congr 1;apply List.map_congr_left;intro a ha;have:=Fo ho.opens.2 a ha;unfold JN;rw[List.take_take,Nat.min_eq_left this]
  .simp only[if_true]
theorem GB{s:Wk}(hl:Ar s=false){o:Ob}(h:(DR s)[s.opens.length-1]? =some o)(h0:0<s.opens.length):(Ay s).set=o.set:=by
 obtain⟨S,O⟩:=s;cases O with
 |nil=>simp at h0
 |cons b r=>
  rw[CG]at h;simp only[List.length_cons,Nat.add_sub_cancel]at h;rw[List.getElem?_append_right sM]at h;simp at h;subst h;have:b.loop=false:=hl;simp[Ay,this,JN]
theorem Fh{s:Wk}(hl:Ar s=true):(Ay s).set=s.set:=by
 obtain⟨S,O⟩:=s;cases O with
 |nil=>rfl
 |cons b r=>
  have:b.loop=true:=hl;simp[Ay,this]
theorem Bz(s:Wk):(Ay s).opens.length=s.opens.length-1:=by
 obtain⟨S,O⟩:=s;cases O with
 |nil=>rfl
 |cons b r=>simp[Ay]
theorem Bp.step{c:Cd}{s:Wk}{i:Av}(h:Bp s)(t:AD c s i=true):Bp (Am s i):=by
 by_cases h1:i.op=34\/i.op=36
 .rw[Ei h1];intro b hb hl;rcases List.mem_cons.1 hb with rfl|hb
  .have h36:i.op=36:=by simpa using hl
   obtain⟨_,h2,_,_⟩:=Cz t;rw[h36]at h2;unfold AG B4 at h2;simp only[Bool.and_eq_true]at h2;have h3:=h2.2.2.2.2;rw[if_neg (show(Aa 36).n≠7 by decide)]at h3;simp only[Bool.and_eq_true]at h3;have h4:Ab i.n c.sign.length=true:=h3.2;exact(C9.1 h4).1
  .exact h b hb hl
 .by_cases h2:i.op=35\/i.op=37
  .rw[Ej h2];intro b hb hl;refine h b ?_ hl;unfold Ay at hb;split at hb
   .rename_i e;rw[e];exact List.mem_cons_of_mem _ hb
   .exact hb
  .rw[Co oM oM oM oM];exact h
theorem Bp.start:Bp ⟨[],[]⟩:=fun b hb=>by cases hb
end Go.Proofs.Ytheanilpbnencaa
