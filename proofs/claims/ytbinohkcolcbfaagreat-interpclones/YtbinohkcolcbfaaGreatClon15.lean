import Derived.Test.YtbinohkcolcbfaaGreatClon12
import Derived.Test.YtbinohkcolcbfaaGreatClon1
namespace Go.Proofs.YtbinohkcolcbfaaGreat
open Go.RowKit Go.Proofs.Tryz
set_option linter.all false
set_option maxRecDepth 100000
set_option maxHeartbeats 16000000
theorem Kc(v0 v1 v2 v3:Value)(c:Cd)(hk:B0 c)(n p:Int)(hp:n=1->Ak p c.sign.length=true)(w:World)(hv:Di w v0 v1 v2 v3 c):
 Calls prog 105 #[.agg #[v0,v1,v2,v3],.int .i64 n,.int .i64 p] w fun e w'=>e=.returned (.bool (n==0||(n==1&&Ce c.sign p==2)))/\Below w.heap.size w w':=by
 have HB:=hk.signL;by_cases h0:n=0
 ·subst h0;clear hp hv;go_enter func105,ntmps105;go_wp2;go_ret;exact⟨rfl,A0 _ _⟩
 ·have h0':(n==0)=false:=by simpa using h0
  by_cases h1:n=1
  ·subst h1;obtain⟨k,rfl,hkl⟩:=CZ (hp rfl);have hr:=hv.sign;obtain⟨p,q,rfl,hrr⟩:=hv.sign;obtain⟨lb,lo,rfl,hc⟩:=hr.at hkl;have e:Ce c.sign (k:Int)=c.sign[k].kind:=by unfold Ce;rw[Int.toNat_natCast,List.getElem?_eq_getElem hkl];rfl
   rw[e];obtain⟨⟨nm,K,L⟩,ht⟩:∃t:BO,c.sign[k]=t:=⟨_,rfl⟩
   rw[ht]at hc ⊢;have y1:w.cell? ⟨lb,lo+k*3+1,none⟩=some (.int .i64 K):=hc.at 1 rfl;have g1:∀o,(w.alloc o).cell? ⟨lb,lo+k*3+1,none⟩=some (.int .i64 K):=fun o=>kc (A0 _ _) y1;obtain⟨N,hN⟩:∃N,c.sign.length=N:=⟨_,rfl⟩
   rw[hN]at hkl HB ⊢;clear hr hrr hc ht e hp hv hN h0 hk;simp only;go_enter func105,ntmps105;go_wp2;go_ret;exact⟨A7 sM,A0 _ _⟩
  ·have h1':(n==1)=false:=by simpa using h1
   rw[h0',h1'];clear hp hv h0 h1;go_enter func105,ntmps105;go_wp2;go_ret;exact⟨rfl,A0 _ _⟩
def F4(i:Au):Int:=if Bg i.op||(i.op==29||(i.op==30||i.op==32))then i.d else if i.op==31||i.op==33 then i.a else -1
def FN(rs:List Ty)(n:Int):Int:=if Ak n rs.length&&(A8 rs n).kind==3 then(A8 rs n).par else -1
theorem MZ(v0 v1 v2 v3:Value)(c:Cd)(hk:B0 c)(i:Au)(w:World)(hv:Di w v0 v1 v2 v3 c):
 Calls prog 65 #[.agg #[v0,v1,v2,v3],Dk i] w fun e w'=>e=.returned (.int .i64 (FN c.regs (F4 i)))/\Below w.heap.size w w':=by
 have HB:=hk.regsL;have KE:Hid (∀v,Calls prog 106 #[.int .i64 i.op] v fun e w'=>e=.returned (.bool (Bg i.op))/\w'=v):=RP i.op;have hr:=hv.regs;obtain⟨p,q,rfl,hrr⟩:=hv.regs;clear hv hk hrr;obtain⟨op,D,A,B,E,nn,bb⟩:=i;unfold Dk;simp only at KE ⊢;have C5:∀n:Int,(Ak n c.regs.length=false/\FN c.regs n= -1)\/∃ (k:Nat) (lb lo:Nat) (K P:Int),n=(k:Int)/\k<c.regs.length/\p=some ⟨lb,lo,none⟩/\w.cell? ⟨lb,lo+k*2,none⟩=some (.int .i64 K)/\w.cell? ⟨lb,lo+k*2+1,none⟩=some (.int .i64 P)/\FN c.regs n=if K==3 then P else -1:=by
  intro n;cases h:Ak n c.regs.length
  ·exact .inl ⟨rfl,by unfold FN;rw[h];rfl⟩
  ·obtain⟨k,rfl,hkl⟩:=CZ h;obtain⟨lb,lo,hp,hc⟩:=hr.at hkl;refine .inr ⟨k,lb,lo,c.regs[k].kind,c.regs[k].par,rfl,hkl,hp,hc.at 0 rfl,hc.at 1 rfl,?_⟩;unfold FN;rw[h,EP rfl hkl,Bool.true_and]
 obtain⟨N,hN⟩:∃N,c.regs.length=N:=⟨_,rfl⟩
 rw[hN]at HB C5 ⊢;clear hr;cases hX:Bg op
 ·rw[hX]at KE;by_cases a29:op=29
  ·subst a29;rw[show F4 ⟨29,D,A,B,E,nn,bb⟩=D from rfl];rcases C5 D with⟨hpl,e9⟩|⟨k,lb,lo,K,P,rfl,hkl,rfl,y0,y1,e9⟩
   ·rw[e9];clear C5 e9;by_cases h0:D<0
    ·exact Hs
    ·have h1:(N:Int)<=D:=by unfold Ak at hpl;simp at hpl;omega
     exact Hs
   ·rw[e9];clear C5 e9;have g0:∀o o',((w.alloc o).alloc o').cell? ⟨lb,lo+k*2,none⟩=some (.int .i64 K):=fun o o'=>kc (bel (A0 _ _) (A0 _ _)) y0;have g1:∀o o',((w.alloc o).alloc o').cell? ⟨lb,lo+k*2+1,none⟩=some (.int .i64 P):=fun o o'=>kc (bel (A0 _ _) (A0 _ _)) y1;by_cases h3:K=3
    ·subst h3;exact Hs
    ·have h3':(K==3)=false:=by simpa using h3
     have h3b:(K != 3)=true:=by simpa using h3
     rw[h3'];clear h3;exact Hs
  by_cases a30:op=30
  ·subst a30;rw[show F4 ⟨30,D,A,B,E,nn,bb⟩=D from rfl];rcases C5 D with⟨hpl,e9⟩|⟨k,lb,lo,K,P,rfl,hkl,rfl,y0,y1,e9⟩
   ·rw[e9];clear C5 e9;by_cases h0:D<0
    ·exact Hs
    ·have h1:(N:Int)<=D:=by unfold Ak at hpl;simp at hpl;omega
     exact Hs
   ·rw[e9];clear C5 e9;have g0:∀o o',((w.alloc o).alloc o').cell? ⟨lb,lo+k*2,none⟩=some (.int .i64 K):=fun o o'=>kc (bel (A0 _ _) (A0 _ _)) y0;have g1:∀o o',((w.alloc o).alloc o').cell? ⟨lb,lo+k*2+1,none⟩=some (.int .i64 P):=fun o o'=>kc (bel (A0 _ _) (A0 _ _)) y1;by_cases h3:K=3
    ·subst h3;exact Hs
    ·have h3':(K==3)=false:=by simpa using h3
     have h3b:(K != 3)=true:=by simpa using h3
     rw[h3'];clear h3;exact Hs
  by_cases a32:op=32
  ·subst a32;rw[show F4 ⟨32,D,A,B,E,nn,bb⟩=D from rfl];rcases C5 D with⟨hpl,e9⟩|⟨k,lb,lo,K,P,rfl,hkl,rfl,y0,y1,e9⟩
   ·rw[e9];clear C5 e9;by_cases h0:D<0
    ·exact Hs
    ·have h1:(N:Int)<=D:=by unfold Ak at hpl;simp at hpl;omega
     exact Hs
   ·rw[e9];clear C5 e9;have g0:∀o o',((w.alloc o).alloc o').cell? ⟨lb,lo+k*2,none⟩=some (.int .i64 K):=fun o o'=>kc (bel (A0 _ _) (A0 _ _)) y0;have g1:∀o o',((w.alloc o).alloc o').cell? ⟨lb,lo+k*2+1,none⟩=some (.int .i64 P):=fun o o'=>kc (bel (A0 _ _) (A0 _ _)) y1;by_cases h3:K=3
    ·subst h3;exact Hs
    ·have h3':(K==3)=false:=by simpa using h3
     have h3b:(K != 3)=true:=by simpa using h3
     rw[h3'];clear h3;exact Hs
  by_cases a31:op=31
  ·subst a31;rw[show F4 ⟨31,D,A,B,E,nn,bb⟩=A from rfl];rcases C5 A with⟨hpl,e9⟩|⟨k,lb,lo,K,P,rfl,hkl,rfl,y0,y1,e9⟩
   ·rw[e9];clear C5 e9;by_cases h0:A<0
    ·exact Hs
    ·have h1:(N:Int)<=A:=by unfold Ak at hpl;simp at hpl;omega
     exact Hs
   ·rw[e9];clear C5 e9;have g0:∀o o',((w.alloc o).alloc o').cell? ⟨lb,lo+k*2,none⟩=some (.int .i64 K):=fun o o'=>kc (bel (A0 _ _) (A0 _ _)) y0;have g1:∀o o',((w.alloc o).alloc o').cell? ⟨lb,lo+k*2+1,none⟩=some (.int .i64 P):=fun o o'=>kc (bel (A0 _ _) (A0 _ _)) y1;by_cases h3:K=3
    ·subst h3;exact Hs
    ·have h3':(K==3)=false:=by simpa using h3
     have h3b:(K != 3)=true:=by simpa using h3
     rw[h3'];clear h3;exact Hs
  by_cases a33:op=33
  ·subst a33;rw[show F4 ⟨33,D,A,B,E,nn,bb⟩=A from rfl];rcases C5 A with⟨hpl,e9⟩|⟨k,lb,lo,K,P,rfl,hkl,rfl,y0,y1,e9⟩
   ·rw[e9];clear C5 e9;by_cases h0:A<0
    ·exact Hs
    ·have h1:(N:Int)<=A:=by unfold Ak at hpl;simp at hpl;omega
     exact Hs
   ·rw[e9];clear C5 e9;have g0:∀o o',((w.alloc o).alloc o').cell? ⟨lb,lo+k*2,none⟩=some (.int .i64 K):=fun o o'=>kc (bel (A0 _ _) (A0 _ _)) y0;have g1:∀o o',((w.alloc o).alloc o').cell? ⟨lb,lo+k*2+1,none⟩=some (.int .i64 P):=fun o o'=>kc (bel (A0 _ _) (A0 _ _)) y1;by_cases h3:K=3
    ·subst h3;exact Hs
    ·have h3':(K==3)=false:=by simpa using h3
     have h3b:(K != 3)=true:=by simpa using h3
     rw[h3'];clear h3;exact Hs
  ·have b29:(op==29)=false:=by simpa using a29
   have b30:(op==30)=false:=by simpa using a30
   have b31:(op==31)=false:=by simpa using a31
   have b32:(op==32)=false:=by simpa using a32
   have b33:(op==33)=false:=by simpa using a33
   rw[show F4 ⟨op,D,A,B,E,nn,bb⟩= -1 by unfold F4;simp[hX,b29,b30,b31,b32,b33]];rw[show FN c.regs (-1)= -1 by unfold FN Ak;simp];clear C5 a29 a30 a31 a32 a33;exact Hs
 ·rw[hX]at KE;rw[show F4 ⟨op,D,A,B,E,nn,bb⟩=D by unfold F4;simp[hX]];rcases C5 D with⟨hpl,e9⟩|⟨k,lb,lo,K,P,rfl,hkl,rfl,y0,y1,e9⟩
  ·rw[e9];clear C5 e9;by_cases h0:D<0
   ·exact Hs
   ·have h1:(N:Int)<=D:=by unfold Ak at hpl;simp at hpl;omega
    exact Hs
  ·rw[e9];clear C5 e9;have g0:∀o o',((w.alloc o).alloc o').cell? ⟨lb,lo+k*2,none⟩=some (.int .i64 K):=fun o o'=>kc (bel (A0 _ _) (A0 _ _)) y0;have g1:∀o o',((w.alloc o).alloc o').cell? ⟨lb,lo+k*2+1,none⟩=some (.int .i64 P):=fun o o'=>kc (bel (A0 _ _) (A0 _ _)) y1;by_cases h3:K=3
   ·subst h3;exact Hs
   ·have h3':(K==3)=false:=by simpa using h3
    have h3b:(K != 3)=true:=by simpa using h3
    rw[h3'];clear h3;exact Hs
structure Lt where
 a:Int
 b:Int
 c:Int
 d:Int
 e:Int
def ltR(op:Int):Lt:=
 if op=1 then⟨110,45,45,45,45⟩
 else if op=2 then⟨119,45,45,45,105⟩
 else if op=3 then⟨97,99,45,45,45⟩
 else if 4<=op/\op<=10 then⟨100,120,120,45,45⟩
 else if 11<=op/\op<=14 then⟨100,120,45,45,45⟩
 else if op=15 then⟨100,120,120,120,45⟩
 else if op=16 then⟨110,110,119,45,45⟩
 else if op=17 then⟨110,119,45,45,45⟩
 else if op=18 then⟨119,110,45,45,45⟩
 else if 19<=op/\op<=20 then⟨110,118,45,45,45⟩
 else if op=21\/op=25 then⟨119,119,45,45,45⟩
 else if op=26 then⟨119,119,119,119,45⟩
 else if 22<=op/\op<=28 then⟨119,119,119,45,45⟩
 else if 29<=op/\op<=30 then⟨118,45,45,45,112⟩
 else if op=31 then⟨45,118,45,45,112⟩
 else if op=32 then⟨97,45,45,45,115⟩
 else if op=33 then⟨45,97,45,45,115⟩
 else if op=34 then⟨45,119,45,45,45⟩
 else if op=36 then⟨45,45,45,45,113⟩
 else⟨45,45,45,45,45⟩
def dR(rs:List Ty)(l D:Int):Ty:=if l=45 then⟨0,0⟩else A8 rs D
def tR(rs:List Ty)(l0 l1 D A:Int):Ty:=if l0=45/\l1≠45 then A8 rs A else dR rs l0 D
def CQ(c:Cd)(l n:Int)(t:Ty):Bool:=
 if l=105 then CF n
 else if l=112 then n==0||(n==1&&Ce c.sign t.par==2)
 else if l=115 then Ak n c.slots.length&&decide (slotT c.slots n=t)
 else if l=113 then Ak n c.sign.length
 else n==0
def DX(c:Cd)(i:Au)(L:Lt):Bool:=
 (i.op==1||i.bits==0)&&(Cj i.bits&&(Aj c.regs L.a i.d ⟨0,0⟩&&(Aj c.regs L.b i.a (dR c.regs L.a i.d)&&(Aj c.regs L.c i.b (dR c.regs L.a i.d)&&(Aj c.regs L.d i.c (dR c.regs L.a i.d)&&CQ c L.e i.n (tR c.regs L.a L.b i.d i.a))))))
theorem PC{c:Cd}(h:Am c=true){n:Int}(hp:Ak n c.regs.length=true):At (A8 c.regs n) c.sign.length=true:=by
 obtain⟨k,rfl,hk⟩:=CZ hp;rw[EP rfl hk];unfold Am at h;exact List.all_eq_true.1 h _ (List.getElem_mem hk)
theorem PD{c:Cd}(h:Am c=true){n:Int}(hp:Ak n c.regs.length=true)(hk:(A8 c.regs n).kind=1):(A8 c.regs n).par=0:=by
 have:=PC h hp;unfold At at this;rw[if_pos (.inl hk)]at this;simpa using this
theorem x_eq{c:Cd}(h:Am c=true){n m:Int}(hn:Ak n c.regs.length=true)(hm:Ak m c.regs.length=true)(hk:((A8 c.regs m).kind==1||(A8 c.regs m).kind==3)=true):
 ((A8 c.regs n).kind==1||decide (A8 c.regs n=A8 c.regs m))=(decide (A8 c.regs n=A8 c.regs m)||((A8 c.regs n).kind==1&&(A8 c.regs m).kind==3)):=by
 have h1:=PD h hn;have h2:=PD h hm;generalize A8 c.regs n=t at *;generalize A8 c.regs m=d at *;obtain⟨K,P⟩:=t;obtain⟨A,B⟩:=d;simp only at h1 h2 hk ⊢;rw[Bool.eq_iff_iff];simp only[Bool.or_eq_true,beq_iff_eq,decide_eq_true_eq,Bool.and_eq_true,Ty.mk.injEq]at hk ⊢;constructor
 ·rintro(e|e)
  ·rcases hk with k|k
   ·exact .inl ⟨oM,by rw[h1 e,h2 k]⟩
   ·exact .inr ⟨e,k⟩
  ·exact .inl e
 ·rintro(e|e)
  ·exact .inr e
  ·exact .inl e.1
theorem told0:Cj 0=true:=dE
theorem Ex(rs:List Ty)(n:Int)(d:Ty):Aj rs 45 n d=(n==0):=if_pos rfl
theorem EG(rs:List Ty)(n:Int)(d:Ty):Ac rs 0 n d=(n==0):=if_pos rfl
theorem BM{l:Int}(h:l≠0)(rs:List Ty)(n:Int)(d:Ty):Ac rs l n d=(Ak n rs.length&&B5 l (A8 rs n) d):=if_neg h
theorem BF{l:Int}(h:l≠45)(rs:List Ty)(n:Int)(d:Ty):Aj rs l n d=(Ak n rs.length&&FM l (A8 rs n) d):=if_neg h
theorem GX(rs:List Ty)(n:Int)(d m:Ty):Aj rs 110 n d=Ac rs 1 n m:=by rw[BF dE,BM dE];rfl
theorem CD(rs:List Ty)(n:Int)(d m:Ty):Aj rs 119 n d=Ac rs 2 n m:=by rw[BF dE,BM dE];rfl
theorem OG(rs:List Ty)(n:Int)(d m:Ty):Aj rs 118 n d=Ac rs 3 n m:=by rw[BF dE,BM dE];rfl
theorem OF(rs:List Ty)(n:Int)(d m:Ty):Aj rs 100 n d=Ac rs 4 n m:=by rw[BF dE,BM dE];rfl
theorem Ap(rs:List Ty)(n:Int)(d m:Ty):Aj rs 45 n d=Ac rs 0 n m:=by rw[Ex,EG]
theorem OE(rs:List Ty)(n:Int)(d:Ty):Aj rs 97 n d=Ac rs 6 n (A8 rs n):=by rw[BF dE,BM dE];simp[FM,B5]
theorem Zb(rs:List Ty)(n:Int)(d:Ty):Aj rs 99 n d=Ac rs 5 n d:=by rw[BF dE,BM dE];simp[FM,B5]
theorem Zc{c:Cd}(h:Am c=true)(n:Int){m:Int}(hd:Ac c.regs 4 m (A8 c.regs m)=true):Aj c.regs 120 n (A8 c.regs m)=Ac c.regs 5 n (A8 c.regs m):=by
 rw[BF dE,BM dE];rw[BM dE]at hd;simp only[Bool.and_eq_true]at hd;cases hn:Ak n c.regs.length
 ·rfl
 ·rw[Bool.true_and,Bool.true_and];exact x_eq h hn hd.1 hd.2
theorem AV{c:Cd}{i:Au}{L:Lt}{R:Rw}(h1:i.op≠1)(h7:R.n≠7)(ha:Aj c.regs L.a i.d ⟨0,0⟩=Ac c.regs R.d i.d (Aw c.regs i R))
 (hb:Ac c.regs R.d i.d (Aw c.regs i R)=true->Aj c.regs L.b i.a (dR c.regs L.a i.d)=Ac c.regs R.a i.a (Aw c.regs i R))
 (hc:Ac c.regs R.d i.d (Aw c.regs i R)=true->Aj c.regs L.c i.b (dR c.regs L.a i.d)=Ac c.regs R.b i.b (Aw c.regs i R))
 (hd:Ac c.regs R.d i.d (Aw c.regs i R)=true->Aj c.regs L.d i.c (dR c.regs L.a i.d)=Ac c.regs R.c i.c (Aw c.regs i R))
 (he:CQ c L.e i.n (tR c.regs L.a L.b i.d i.a)=FO c i.n R.n (Aw c.regs i R)):DX c i L=Bu c i R:=by
 unfold DX Bu Bv;rw[if_neg h7,ha,he];have:(i.op==1)=false:=by simpa using h1
 rw[this,Bool.false_or];cases hX:Ac c.regs R.d i.d (Aw c.regs i R)
 ·simp
 ·rw[hb hX,hc hX,hd hX];cases hb:(i.bits==0)
  ·simp
  ·have:i.bits=0:=by simpa using hb
   rw[this,told0];simp
theorem Mj{c:Cd}(h:Am c=true)(i:Au):DX c i (ltR i.op)=Bu c i (A6 i.op):=by
 have x:=fun n=>@Zc c h n i.d;by_cases h1:i.op=1
 ·have e1:ltR i.op=⟨110,45,45,45,45⟩:=by rw[h1];rfl
  have e2:A6 i.op=⟨1,0,0,0,7⟩:=by rw[h1];rfl
  rw[e1,e2];unfold DX Bu Bv;simp only;rw[h1,GX _ _ _ (Aw c.regs i ⟨1,0,0,0,7⟩),Ex,Ex,Ex,EG,EG,EG];rw[show CQ c 45 i.n (tR c.regs 110 45 i.d i.a)=(i.n==0)from rfl];generalize Ac c.regs 1 i.d _=A1;cases A1<;>cases Cj i.bits<;>simp
 unfold ltR A6;rw[if_neg h1,if_neg h1];by_cases h2:i.op=2
 ·rw[if_pos h2,if_pos h2];exact AV h1 dE (CD _ _ _ _) (fun _=>Ap _ _ _ _) (fun _=>Ap _ _ _ _) (fun _=>Ap _ _ _ _) rfl
 rw[if_neg h2,if_neg h2];by_cases h3:i.op=3
 ·rw[if_pos h3,if_pos h3];exact AV h1 dE (OE _ _ _) (fun _=>Zb _ _ _) (fun _=>Ap _ _ _ _) (fun _=>Ap _ _ _ _) rfl
 rw[if_neg h3,if_neg h3];by_cases h4:4<=i.op/\i.op<=10
 ·rw[if_pos h4,if_pos h4];exact AV h1 dE (OF _ _ _ _) (x _) (x _) (fun _=>Ap _ _ _ _) rfl
 rw[if_neg h4,if_neg h4];by_cases h5:11<=i.op/\i.op<=14
 ·rw[if_pos h5,if_pos h5];exact AV h1 dE (OF _ _ _ _) (x _) (fun _=>Ap _ _ _ _) (fun _=>Ap _ _ _ _) rfl
 rw[if_neg h5,if_neg h5];by_cases h6:i.op=15
 ·rw[if_pos h6,if_pos h6];exact AV h1 dE (OF _ _ _ _) (x _) (x _) (x _) rfl
 rw[if_neg h6,if_neg h6];by_cases h7:i.op=16
 ·rw[if_pos h7,if_pos h7];exact AV h1 dE (GX _ _ _ _) (fun _=>GX _ _ _ _) (fun _=>CD _ _ _ _) (fun _=>Ap _ _ _ _) rfl
 rw[if_neg h7,if_neg h7];by_cases h8:i.op=17
 ·rw[if_pos h8,if_pos h8];exact AV h1 dE (GX _ _ _ _) (fun _=>CD _ _ _ _) (fun _=>Ap _ _ _ _) (fun _=>Ap _ _ _ _) rfl
 rw[if_neg h8,if_neg h8];by_cases h9:i.op=18
 ·rw[if_pos h9,if_pos h9];exact AV h1 dE (CD _ _ _ _) (fun _=>GX _ _ _ _) (fun _=>Ap _ _ _ _) (fun _=>Ap _ _ _ _) rfl
 rw[if_neg h9,if_neg h9];by_cases h10:19<=i.op/\i.op<=20
 ·rw[if_pos h10,if_pos h10];exact AV h1 dE (GX _ _ _ _) (fun _=>OG _ _ _ _) (fun _=>Ap _ _ _ _) (fun _=>Ap _ _ _ _) rfl
 rw[if_neg h10,if_neg h10];by_cases h11:i.op=21\/i.op=25
 ·rw[if_pos h11,if_pos h11];exact AV h1 dE (CD _ _ _ _) (fun _=>CD _ _ _ _) (fun _=>Ap _ _ _ _) (fun _=>Ap _ _ _ _) rfl
 rw[if_neg h11,if_neg h11];by_cases h12:i.op=26
 ·rw[if_pos h12,if_pos h12];exact AV h1 dE (CD _ _ _ _) (fun _=>CD _ _ _ _) (fun _=>CD _ _ _ _) (fun _=>CD _ _ _ _) rfl
 rw[if_neg h12,if_neg h12];by_cases h13:22<=i.op/\i.op<=28
 ·rw[if_pos h13,if_pos h13];exact AV h1 dE (CD _ _ _ _) (fun _=>CD _ _ _ _) (fun _=>CD _ _ _ _) (fun _=>Ap _ _ _ _) rfl
 rw[if_neg h13,if_neg h13];by_cases h14:29<=i.op/\i.op<=30
 ·rw[if_pos h14,if_pos h14];exact AV h1 dE (OG _ _ _ _) (fun _=>Ap _ _ _ _) (fun _=>Ap _ _ _ _) (fun _=>Ap _ _ _ _) rfl
 rw[if_neg h14,if_neg h14];by_cases h15:i.op=31
 ·rw[if_pos h15,if_pos h15];exact AV h1 dE (Ap _ _ _ _) (fun _=>OG _ _ _ _) (fun _=>Ap _ _ _ _) (fun _=>Ap _ _ _ _) rfl
 rw[if_neg h15,if_neg h15];by_cases h16:i.op=32
 ·rw[if_pos h16,if_pos h16];exact AV h1 dE (OE _ _ _) (fun _=>Ap _ _ _ _) (fun _=>Ap _ _ _ _) (fun _=>Ap _ _ _ _) rfl
 rw[if_neg h16,if_neg h16];by_cases h17:i.op=33
 ·rw[if_pos h17,if_pos h17];exact AV h1 dE (Ap _ _ _ _) (fun _=>OE _ _ _) (fun _=>Ap _ _ _ _) (fun _=>Ap _ _ _ _) rfl
 rw[if_neg h17,if_neg h17];by_cases h18:i.op=34
 ·rw[if_pos h18,if_pos h18];exact AV h1 dE (Ap _ _ _ _) (fun _=>CD _ _ _ _) (fun _=>Ap _ _ _ _) (fun _=>Ap _ _ _ _) rfl
 rw[if_neg h18,if_neg h18];by_cases h19:i.op=36
 ·rw[if_pos h19,if_pos h19];exact Zfi
 rw[if_neg h19,if_neg h19];exact Zfi
theorem Qn(op:Int)(hk:As op=true):∃a b c d e:UInt8,((a.toNat:Int)=(ltR op).a/\(b.toNat:Int)=(ltR op).b/\(c.toNat:Int)=(ltR op).c/\(d.toNat:Int)=(ltR op).d/\(e.toNat:Int)=(ltR op).e)/\∀w,Calls prog 67 #[.int .i64 op] w fun x w'=>x=.returned (.tuple #[.string ⟨#[a,b,c,d,e]⟩,.bool true])/\w'=w:=by
 have hh:1<=op/\op<=37:=by unfold As at hk;simp at hk;omega
 clear hk;have:op=1\/op=2\/op=3\/op=4\/op=5\/op=6\/op=7\/op=8\/op=9\/op=10\/op=11\/op=12\/op=13\/op=14\/op=15\/op=16\/op=17\/op=18\/op=19\/op=20\/op=21\/op=22\/op=23\/op=24\/op=25\/op=26\/op=27\/op=28\/op=29\/op=30\/op=31\/op=32\/op=33\/op=34\/op=35\/op=36\/op=37:=oM;rcases this with rfl|rfl|rfl|rfl|rfl|rfl|rfl|rfl|rfl|rfl|rfl|rfl|rfl|rfl|rfl|rfl|rfl|rfl|rfl|rfl|rfl|rfl|rfl|rfl|rfl|rfl|rfl|rfl|rfl|rfl|rfl|rfl|rfl|rfl|rfl|rfl|rfl
 ·exact⟨_,_,_,_,_,⟨rfl,rfl,rfl,rfl,rfl⟩,fun w=>UQ w⟩
 ·exact⟨_,_,_,_,_,⟨rfl,rfl,rfl,rfl,rfl⟩,fun w=>UR w⟩
 ·exact⟨_,_,_,_,_,⟨rfl,rfl,rfl,rfl,rfl⟩,fun w=>US w⟩
 ·exact⟨_,_,_,_,_,⟨rfl,rfl,rfl,rfl,rfl⟩,fun w=>UT w⟩
 ·exact⟨_,_,_,_,_,⟨rfl,rfl,rfl,rfl,rfl⟩,fun w=>UU w⟩
 ·exact⟨_,_,_,_,_,⟨rfl,rfl,rfl,rfl,rfl⟩,fun w=>UV w⟩
 ·exact⟨_,_,_,_,_,⟨rfl,rfl,rfl,rfl,rfl⟩,fun w=>UW w⟩
 ·exact⟨_,_,_,_,_,⟨rfl,rfl,rfl,rfl,rfl⟩,fun w=>UX w⟩
 ·exact⟨_,_,_,_,_,⟨rfl,rfl,rfl,rfl,rfl⟩,fun w=>UY w⟩
 ·exact⟨_,_,_,_,_,⟨rfl,rfl,rfl,rfl,rfl⟩,fun w=>PQ w⟩
 ·exact⟨_,_,_,_,_,⟨rfl,rfl,rfl,rfl,rfl⟩,fun w=>PR w⟩
 ·exact⟨_,_,_,_,_,⟨rfl,rfl,rfl,rfl,rfl⟩,fun w=>PT w⟩
 ·exact⟨_,_,_,_,_,⟨rfl,rfl,rfl,rfl,rfl⟩,fun w=>PU w⟩
 ·exact⟨_,_,_,_,_,⟨rfl,rfl,rfl,rfl,rfl⟩,fun w=>PV w⟩
 ·exact⟨_,_,_,_,_,⟨rfl,rfl,rfl,rfl,rfl⟩,fun w=>PX w⟩
 ·exact⟨_,_,_,_,_,⟨rfl,rfl,rfl,rfl,rfl⟩,fun w=>PY w⟩
 ·exact⟨_,_,_,_,_,⟨rfl,rfl,rfl,rfl,rfl⟩,fun w=>PZ w⟩
 ·exact⟨_,_,_,_,_,⟨rfl,rfl,rfl,rfl,rfl⟩,fun w=>Q0 w⟩
 ·exact⟨_,_,_,_,_,⟨rfl,rfl,rfl,rfl,rfl⟩,fun w=>Q4 w⟩
 ·exact⟨_,_,_,_,_,⟨rfl,rfl,rfl,rfl,rfl⟩,fun w=>Q5 w⟩
 ·exact⟨_,_,_,_,_,⟨rfl,rfl,rfl,rfl,rfl⟩,fun w=>Q6 w⟩
 ·exact⟨_,_,_,_,_,⟨rfl,rfl,rfl,rfl,rfl⟩,fun w=>Q7 w⟩
 ·exact⟨_,_,_,_,_,⟨rfl,rfl,rfl,rfl,rfl⟩,fun w=>Q8 w⟩
 ·exact⟨_,_,_,_,_,⟨rfl,rfl,rfl,rfl,rfl⟩,fun w=>Q9 w⟩
 ·exact⟨_,_,_,_,_,⟨rfl,rfl,rfl,rfl,rfl⟩,fun w=>Qa w⟩
 ·exact⟨_,_,_,_,_,⟨rfl,rfl,rfl,rfl,rfl⟩,fun w=>Qb w⟩
 ·exact⟨_,_,_,_,_,⟨rfl,rfl,rfl,rfl,rfl⟩,fun w=>Qc w⟩
 ·exact⟨_,_,_,_,_,⟨rfl,rfl,rfl,rfl,rfl⟩,fun w=>Qd w⟩
 ·exact⟨_,_,_,_,_,⟨rfl,rfl,rfl,rfl,rfl⟩,fun w=>Qe w⟩
 ·exact⟨_,_,_,_,_,⟨rfl,rfl,rfl,rfl,rfl⟩,fun w=>Qf w⟩
 ·exact⟨_,_,_,_,_,⟨rfl,rfl,rfl,rfl,rfl⟩,fun w=>Qg w⟩
 ·exact⟨_,_,_,_,_,⟨rfl,rfl,rfl,rfl,rfl⟩,fun w=>Qh w⟩
 ·exact⟨_,_,_,_,_,⟨rfl,rfl,rfl,rfl,rfl⟩,fun w=>Qi w⟩
 ·exact⟨_,_,_,_,_,⟨rfl,rfl,rfl,rfl,rfl⟩,fun w=>Qj w⟩
 ·exact⟨_,_,_,_,_,⟨rfl,rfl,rfl,rfl,rfl⟩,fun w=>Qk w⟩
 ·exact⟨_,_,_,_,_,⟨rfl,rfl,rfl,rfl,rfl⟩,fun w=>Ql w⟩
 ·exact⟨_,_,_,_,_,⟨rfl,rfl,rfl,rfl,rfl⟩,fun w=>Qm w⟩
def BS(b:Int):Prop:=b=45\/b=110\/b=119\/b=118\/b=100\/b=120\/b=99\/b=97
instance (b:Int):Decidable (BS b):=by unfold BS;infer_instance
def okL(L:Lt):Bool:=decide (BS L.a)&&(decide (BS L.b)&&(decide (BS L.c)&&(decide (BS L.d)&&(decide (L.e=45\/L.e=105\/L.e=112\/L.e=115\/L.e=113)&&decide (L.e=112->L.a=118\/(L.a=45/\L.b=118))))))
theorem Xo{p:Prop}[Decidable p]{x y:Lt}(h:okL x=true)(k:okL y=true):okL (if p then x else y)=true:=by
 split
 ·exact h
 ·exact k
theorem Xe(op:Int):okL (ltR op)=true:=by
 unfold ltR
 iterate 19 refine Xo dE ?_
 decide
theorem YZ(op:Int):BS (ltR op).a/\BS (ltR op).b/\BS (ltR op).c/\BS (ltR op).d/\((ltR op).e=45\/(ltR op).e=105\/(ltR op).e=112\/(ltR op).e=115\/(ltR op).e=113)/\((ltR op).e=112->(ltR op).a=118\/((ltR op).a=45/\(ltR op).b=118)):=by
 have:=Xe op;unfold okL at this;simp only[Bool.and_eq_true,decide_eq_true_eq]at this;exact this
theorem Ue(v0 v1 v2 v3:Value)(i:Au)(h0:0<=i.bits)(h1:i.bits<4294967296)(h:(As i.op&&((i.op==1||i.bits==0)&&Cj i.bits))=false)(w:World):
 Calls prog 64 #[.agg #[v0,v1,v2,v3],Dk i] w fun e w'=>e=.returned (.bool false)/\Below w.heap.size w w':=by
 have HCAN:Hid (∀w,Calls prog 63 #[.int .u32 i.bits] w fun e w'=>e=.returned (.bool (Cj i.bits))/\Below w.heap.size w w'):=DH i.bits h0 h1;cases hk:As i.op
 ·have HROW:Hid (∀w,Calls prog 67 #[.int .i64 i.op] w fun e w'=>e=.returned (.tuple #[.string ⟨#[]⟩,.bool false])/\w'=w):=Ke i.op hk;obtain⟨op,D,A,B,E,n,bt⟩:=i;unfold Dk;simp only at HROW HCAN ⊢;clear h hk;go_enter func64,ntmps64;go_wp2_with(go_at_call 67;refine(HROW.out _).mono ?_;rintro e w1 ⟨rfl,rfl⟩);go_ret;exact SC
 ·obtain⟨a,b,c,d,e,-,hc⟩:=Qn i.op hk;have HROW:Hid (∀w,Calls prog 67 #[.int .i64 i.op] w fun x w'=>x=.returned (.tuple #[.string ⟨#[a,b,c,d,e]⟩,.bool true])/\w'=w):=hc;rw[hk,Bool.true_and]at h;clear hc hk;obtain⟨op,D,A,B,E,n,bt⟩:=i;unfold Dk;simp only at HROW HCAN h ⊢;cases ho:(op==1)
  ·have ho':(op != 1)=true:=by simpa using ho
   cases hz:(bt==0)
   ·have hz':(bt != 0)=true:=by simpa using hz
    clear h;go_enter func64,ntmps64;go_wp2_with(go_at_call 67;refine(HROW.out _).mono ?_;rintro e w1 ⟨rfl,rfl⟩);go_ret;exact SC
   ·rw[ho,hz,Bool.false_or,Bool.true_and]at h;rw[h]at HCAN;have hz':(bt != 0)=false:=by simpa using hz
    exact Zcy
  ·rw[ho,Bool.true_or,Bool.true_and]at h;rw[h]at HCAN;have ho':(op != 1)=false:=by simpa using ho
   exact Zcy
structure TW(w:World)(v0 v1 v2 v3:Value)(J:Nat)(op D A B E n bt:Int)(v:World):Prop where
 bel:Below w.heap.size w v
 c0:v.cell? ⟨w.heap.size,0,none⟩=some v0
 c1:v.cell? ⟨w.heap.size,1,none⟩=some v1
 c2:v.cell? ⟨w.heap.size,2,none⟩=some v2
 c3:v.cell? ⟨w.heap.size,3,none⟩=some v3
 i0:v.cell? ⟨J,0,none⟩=some (.int .i64 op)
 i1:v.cell? ⟨J,1,none⟩=some (.int .i64 D)
 i2:v.cell? ⟨J,2,none⟩=some (.int .i64 A)
 i3:v.cell? ⟨J,3,none⟩=some (.int .i64 B)
 i4:v.cell? ⟨J,4,none⟩=some (.int .i64 E)
 i5:v.cell? ⟨J,5,none⟩=some (.int .i64 n)
 i6:v.cell? ⟨J,6,none⟩=some (.int .u32 bt)
theorem TW.next{w:World}{v0 v1 v2 v3:Value}{J:Nat}{op D A B E n bt:Int}{v v':World}(h:TW w v0 v1 v2 v3 J op D A B E n bt v)(k:Below v.heap.size v v'):TW w v0 v1 v2 v3 J op D A B E n bt v':=
 ⟨Go.Proofs.YtbinohkcolcbfaaGreat.bel h.bel k,kc k h.c0,kc k h.c1,kc k h.c2,kc k h.c3,kc k h.i0,kc k h.i1,kc k h.i2,kc k h.i3,kc k h.i4,kc k h.i5,kc k h.i6⟩
theorem TW.keep{w:World}{v0 v1 v2 v3:Value}{J:Nat}{op D A B E n bt:Int}{v:World}(h:TW w v0 v1 v2 v3 J op D A B E n bt v){g o:Nat}(x:Value)(h1:w.heap.size<g)(h2:g≠J):TW w v0 v1 v2 v3 J op D A B E n bt (v.setCell ⟨g,o,none⟩ x):=by
 have f1:∀j,(v.setCell ⟨g,o,none⟩ x).cell? ⟨w.heap.size,j,none⟩=v.cell? ⟨w.heap.size,j,none⟩:=fun j=>World.cell?_of_block (Below.heap_setCell _ _ _ _ (by show w.heap.size≠g;omega));have f2:∀j,(v.setCell ⟨g,o,none⟩ x).cell? ⟨J,j,none⟩=v.cell? ⟨J,j,none⟩:=fun j=>World.cell?_of_block (Below.heap_setCell _ _ _ _ (by show J≠g;omega));exact⟨h.bel.setCell Zhj _,(f1 0).trans h.c0,(f1 1).trans h.c1,(f1 2).trans h.c2,(f1 3).trans h.c3,(f2 0).trans h.i0,(f2 1).trans h.i1,(f2 2).trans h.i2,(f2 3).trans h.i3,(f2 4).trans h.i4,(f2 5).trans h.i5,(f2 6).trans h.i6⟩
theorem TW.start(w:World)(v0 v1 v2 v3:Value)(op D A B E n bt:Int):TW w v0 v1 v2 v3 (w.heap.size+1) op D A B E n bt ((w.alloc (.cells #[v0,v1,v2,v3] 27)).alloc (.cells #[.int .i64 op,.int .i64 D,.int .i64 A,.int .i64 B,.int .i64 E,.int .i64 n,.int .u32 bt] 45)):=by
 have k:=A0 (w.alloc (.cells #[v0,v1,v2,v3] 27)) (.cells #[.int .i64 op,.int .i64 D,.int .i64 A,.int .i64 B,.int .i64 E,.int .i64 n,.int .u32 bt] 45);exact⟨Go.Proofs.YtbinohkcolcbfaaGreat.bel (A0 _ _) k,kc k sG,kc k sG,kc k sG,kc k sG,sG,sG,sG,sG,sG,sG,sG⟩
theorem CS{n:Nat}{w v:World}(h:Below n w v):Below n w v.drew:=h.drew
theorem XN(v0 v1 v2 v3:Value)(c:Cd)(co:B0 c)(hT:Am c=true)(op D A B E n bt La Lb Lc Ld Le:Int)(a b cc d e:UInt8)
 (HROW:Hid (∀w,Calls prog 67 #[.int .i64 op] w fun x w'=>x=.returned (.tuple #[.string ⟨#[a,b,cc,d,e]⟩,.bool true])/\w'=w))
 (HCAN:Hid (∀w,Calls prog 63 #[.int .u32 bt] w fun e w'=>e=.returned (.bool true)/\Below w.heap.size w w'))
 (ix0:∀w,(Instr.index 9 (.string ⟨#[a,b,cc,d,e]⟩) (.int .i64 0)).run prog w=.ok (.int .u8 La) w)
 (ix1:∀w,(Instr.index 9 (.string ⟨#[a,b,cc,d,e]⟩) (.int .i64 1)).run prog w=.ok (.int .u8 Lb) w)
 (ix2:∀w,(Instr.index 9 (.string ⟨#[a,b,cc,d,e]⟩) (.int .i64 2)).run prog w=.ok (.int .u8 Lc) w)
 (ix3:∀w,(Instr.index 9 (.string ⟨#[a,b,cc,d,e]⟩) (.int .i64 3)).run prog w=.ok (.int .u8 Ld) w)
 (TG:∀w,(Instr.index 9 (.string ⟨#[a,b,cc,d,e]⟩) (.int .i64 4)).run prog w=.ok (.int .u8 Le) w)
 (oa:BS La) (ob:BS Lb) (oc:BS Lc) (od:BS Ld) (oT:Le=112->La=118\/(La=45/\Lb=118)) (o1:(op==1)=true) (o2:(op != 1)=false) (hz0:La≠45) (oe:Le=45)
 (w:World) (hv:Di w v0 v1 v2 v3 c):
 Calls prog 64 #[.agg #[v0,v1,v2,v3],.agg #[.int .i64 op,.int .i64 D,.int .i64 A,.int .i64 B,.int .i64 E,.int .i64 n,.int .u32 bt]] w fun e w'=>e=.returned (.bool (Aj c.regs La D ⟨0,0⟩&&(Aj c.regs Lb A (dR c.regs La D)&&(Aj c.regs Lc B (dR c.regs La D)&&(Aj c.regs Ld E (dR c.regs La D)&&CQ c Le n (tR c.regs La Lb D A))))))/\Below w.heap.size w w':=by
 have KO:∀ (l n:Int) (d:Ty),BS l->∀v,Below w.heap.size w v->Calls prog 104 #[.agg #[v0,v1,v2,v3],.int .u8 l,.int .i64 n,.agg #[.int .i64 d.kind,.int .i64 d.par]] v fun e w'=>e=.returned (.bool (Aj c.regs l n d))/\Below v.heap.size v w':=fun l n d hl v hb=>ER v0 v1 v2 v3 c co l n d hl v (hv.below hb);have HT0:Hid (TW w v0 v1 v2 v3 (w.heap.size+1) op D A B E n bt ((w.alloc (.cells #[v0,v1,v2,v3] 27)).alloc (.cells #[.int .i64 op,.int .i64 D,.int .i64 A,.int .i64 B,.int .i64 E,.int .i64 n,.int .u32 bt] 45))):=TW.start w v0 v1 v2 v3 op D A B E n bt;obtain⟨p0,q0,rfl,-⟩:=id hv.sign;obtain⟨p1,q1,rfl,hr1⟩:=id hv.regs;obtain⟨p2,q2,rfl,-⟩:=id hv.slots;have hREG:∀x:Int,Ak x c.regs.length=true->∃ (k lb lo:Nat),x=(k:Int)/\k<c.regs.length/\p1=some ⟨lb,lo,none⟩/\w.cell? ⟨lb,lo+k*2,none⟩=some (.int .i64 (A8 c.regs x).kind)/\w.cell? ⟨lb,lo+k*2+1,none⟩=some (.int .i64 (A8 c.regs x).par):=by
  exact Zcl
 have HREG:Hid (∀x:Int,Ak x c.regs.length=true->∃ (k lb lo:Nat),x=(k:Int)/\k<c.regs.length/\p1=some ⟨lb,lo,none⟩/\w.cell? ⟨lb,lo+k*2,none⟩=some (.int .i64 (A8 c.regs x).kind)/\w.cell? ⟨lb,lo+k*2+1,none⟩=some (.int .i64 (A8 c.regs x).par)):=hREG;have HCV:Hid (Di w (.slice p0 c.sign.length q0) (.slice p1 c.regs.length q1) (.slice p2 c.slots.length q2) v3 c):=hv;have HCO:Hid (B0 c):=co;have hB0:=co.signL;have hB1:=co.regsL;have hB2:=co.slotsL;have hTy:∀x:Int,Ak x c.regs.length=true->FM 118 (A8 c.regs x) ⟨0,0⟩=true->Ak (A8 c.regs x).par c.sign.length=true:=fun x hx hk=>by
  exact Zdc
 obtain⟨n0,hn0⟩:∃n0,c.sign.length=n0:=⟨_,rfl⟩
 obtain⟨n1,hn1⟩:∃n1,c.regs.length=n1:=⟨_,rfl⟩
 obtain⟨n2,hn2⟩:∃n2,c.slots.length=n2:=⟨_,rfl⟩
 have HN0:Hid (c.sign.length=n0):=hn0;have HN1:Hid (c.regs.length=n1):=hn1;have HN2:Hid (c.slots.length=n2):=hn2;rw[hn0]at hB0;rw[hn1]at hB1;rw[hn2]at hB2;rw[hn0,hn1,hn2]at HCV KO HT0 ⊢;clear hREG hv hr1 hn0 hn1 hn2 co;have HTY:Hid (∀x:Int,Ak x c.regs.length=true->FM 118 (A8 c.regs x) ⟨0,0⟩=true->Ak (A8 c.regs x).par c.sign.length=true):=hTy;clear hTy hT;have hKO0:=fun d=>KO La D d oa;have hKOA:=fun d=>KO Lb A d ob;have hKOB:=fun d=>KO Lc B d oc;have hKOC:=fun d=>KO Ld E d od;clear KO;have hPP0:Le=112->La=118\/(La=45/\Lb=118):=oT;clear oT oc od;obtain⟨RES,hRES⟩:∃R,(Aj c.regs La D ⟨0,0⟩&&(Aj c.regs Lb A (dR c.regs La D)&&(Aj c.regs Lc B (dR c.regs La D)&&(Aj c.regs Ld E (dR c.regs La D)&&CQ c Le n (tR c.regs La Lb D A)))))=R:=⟨_,rfl⟩
 rw[hRES];have hz1:(La==45)=false:=by simpa using hz0
 have hz2:(La != 45)=true:=by simpa using hz0
 have hPL:Aj c.regs La D ⟨0,0⟩=true->Ak D c.regs.length=true:=fun h=>by
  rw[BF hz0]at h;simp only[Bool.and_eq_true]at h;exact h.1
 have hPV:Aj c.regs La D ⟨0,0⟩=true->La=118->FM 118 (A8 c.regs D) ⟨0,0⟩=true:=fun h hl=>by
  exact Zeu
 have hdR:dR c.regs La D=A8 c.regs D:=if_neg hz0;have htR:tR c.regs La Lb D A=A8 c.regs D:=by unfold tR;rw[if_neg (fun e=>hz0 e.1),hdR]
 rw[htR,hdR]at hRES;have HPP0:Hid (Aj c.regs La D ⟨0,0⟩=true->Le=112->Ak (A8 c.regs D).par c.sign.length=true):=fun h e=>by
  rcases hPP0 e with h1|⟨h1,-⟩
  ·exact HTY.out _ (hPL h) (hPV h h1)
  ·exact absurd h1 hz0
 obtain⟨X0,hX0⟩:∃X,Aj c.regs La D ⟨0,0⟩=X:=⟨_,rfl⟩
 have HK0:Hid _:=hKO0 ⟨0,0⟩;rw[hX0]at hRES hPL HPP0 HK0;simp only at HK0;clear hX0 hPV hdR htR hKO0 hPP0 HTY;cases X0
 ·exact Zal
 obtain⟨kd,lb,lo,rfl,hkd,rfl,ya0,ya1⟩:=HREG.out D (hPL rfl);obtain⟨⟨dk,dp⟩,htt⟩:∃t:Ty,A8 c.regs (kd:Int)=t:=⟨_,rfl⟩
 rw[htt]at HPP0 ya0 ya1 hRES;obtain⟨XA,hXA⟩:∃X,Aj c.regs Lb A ⟨dk,dp⟩=X:=⟨_,rfl⟩
 obtain⟨XB,hXB⟩:∃X,Aj c.regs Lc B ⟨dk,dp⟩=X:=⟨_,rfl⟩
 obtain⟨XC,hXC⟩:∃X,Aj c.regs Ld E ⟨dk,dp⟩=X:=⟨_,rfl⟩
 rw[hXA,hXB,hXC]at hRES;have HKA:Hid _:=hKOA ⟨dk,dp⟩;have HKB:Hid _:=hKOB ⟨dk,dp⟩;have HKC:Hid _:=hKOC ⟨dk,dp⟩;rw[hXA]at HKA;rw[hXB]at HKB;rw[hXC]at HKC;simp only at HKA HKB HKC;have HRES:Hid ((XA&&(XB&&(XC&&CQ c Le n ⟨dk,dp⟩)))=RES):=hRES;have HPP:Hid (Le=112->Ak dp c.sign.length=true):=HPP0.out rfl;have ka0:(0:Int)<=(kd:Int):=oM;have ka1:(kd:Int)<(n1:Int):=by have:=HN1.out;omega
 clear hKOA hKOB hKOC hXA hXB hXC hRES HPP0 hPL htt;go_enter func64,ntmps64;go_wp2_with(first
  |(go_at_call 67;refine(HROW.out _).mono ?_;rintro e w1 ⟨rfl,rfl⟩)
  |(go_at_call 63;refine(HCAN.out _).mono ?_;rintro e w2 ⟨rfl,hb2⟩;have HT2:Hid (TW w (.slice p0 n0 q0) (.slice (some ⟨lb,lo,none⟩) n1 q1) (.slice p2 n2 q2) v3 (w.heap.size+1) op (kd:Int) A B E n bt (w2.alloc (.cells #[.int .i64 0,.int .i64 0] 69))):=(HT0.out.next hb2).next (A0 _ _);obtain⟨b1,c0,c1,c2,c3,i0,i1,i2,i3,i4,i5,i6⟩:=HT2.out;have HS2:Hid (w.heap.size+1<w2.heap.size):=A3 (HT0.out.next hb2).i0;clear hb2))
 have HTD0:Hid _:=HT2.out;have HD0:Hid ((w2.alloc (.cells #[.int .i64 0,.int .i64 0] 69)).cell? ⟨w2.heap.size,0,none⟩=some (.int .i64 0)/\(w2.alloc (.cells #[.int .i64 0,.int .i64 0] 69)).cell? ⟨w2.heap.size,1,none⟩=some (.int .i64 0)/\(w2.alloc (.cells #[.int .i64 0,.int .i64 0] 69)).frozen? ⟨w2.heap.size,0,none⟩=false/\(w2.alloc (.cells #[.int .i64 0,.int .i64 0] 69)).frozen? ⟨w2.heap.size,1,none⟩=false):=⟨sG,sG,sG,sG⟩
 have HBZ9:Hid (lb<w.heap.size):=A3 ya0;have HZ:Hid (w2.heap.size≠w.heap.size+1/\w.heap.size<w2.heap.size/\lb≠w2.heap.size):=by
  refine⟨?_,?_,?_⟩
  all_goals(have h3:=HS2.out;have h4:=HBZ9.out;omega)
 obtain⟨Z,hZ⟩:∃Z,w2.heap.size=Z:=⟨_,rfl⟩
 obtain⟨Wa,hWa⟩:∃W,w2.alloc (.cells #[.int .i64 0,.int .i64 0] 69)=W:=⟨_,rfl⟩
 rw[hZ]at HD0 HZ;rw[hWa]at HD0 HTD0 ⊢;try rw[hZ]
 clear hZ hWa HT2 b1 c0 c1 c2 c3 i0 i1 i2 i3 i4 i5 i6 HT0 HROW HCAN HS2;have HCD0:Hid (∀v,Below Wa.heap.size Wa v->v.cell? ⟨w.heap.size,0,none⟩=some (.slice p0 n0 q0)/\v.cell? ⟨w.heap.size,1,none⟩=some (.slice (some ⟨lb,lo,none⟩) n1 q1)/\v.cell? ⟨w.heap.size,2,none⟩=some (.slice p2 n2 q2)/\v.cell? ⟨w.heap.size,3,none⟩=some v3/\v.cell? ⟨w.heap.size+1,1,none⟩=some (.int .i64 (kd:Int))/\v.cell? ⟨w.heap.size+1,2,none⟩=some (.int .i64 A)/\v.cell? ⟨w.heap.size+1,3,none⟩=some (.int .i64 B)/\v.cell? ⟨w.heap.size+1,4,none⟩=some (.int .i64 E)/\v.cell? ⟨w.heap.size+1,5,none⟩=some (.int .i64 n)/\v.cell? ⟨Z,0,none⟩=some (.int .i64 0)/\v.cell? ⟨Z,1,none⟩=some (.int .i64 0)):=fun v hb=>⟨kc hb HTD0.out.c0,kc hb HTD0.out.c1,kc hb HTD0.out.c2,kc hb HTD0.out.c3,kc hb HTD0.out.i1,kc hb HTD0.out.i2,kc hb HTD0.out.i3,kc hb HTD0.out.i4,kc hb HTD0.out.i5,kc hb HD0.out.1,kc hb HD0.out.2.1⟩
 obtain⟨c0,c1,c2,c3,i1,i2,i3,i4,i5,d0,d1⟩:=HCD0.out Wa (B8 _);have HYA:Hid (∀v,Below Wa.heap.size Wa v->v.cell? ⟨lb,lo+kd*2,none⟩=some (.int .i64 dk)/\v.cell? ⟨lb,lo+kd*2+1,none⟩=some (.int .i64 dp)/\v.frozen? ⟨Z,0,none⟩=false/\v.frozen? ⟨Z,1,none⟩=false):=fun v hb=>⟨kc (bel HTD0.out.bel hb) ya0,kc (bel HTD0.out.bel hb) ya1,kf hb HD0.out.1 HD0.out.2.2.1,kf hb HD0.out.2.1 HD0.out.2.2.2⟩
 refine rG (fun v=>v.cell? ⟨w.heap.size,0,none⟩=some (.slice p0 n0 q0)/\v.cell? ⟨w.heap.size,1,none⟩=some (.slice (some ⟨lb,lo,none⟩) n1 q1)/\v.cell? ⟨w.heap.size,2,none⟩=some (.slice p2 n2 q2)/\v.cell? ⟨w.heap.size,3,none⟩=some v3/\v.cell? ⟨w.heap.size+1,1,none⟩=some (.int .i64 (kd:Int))/\v.cell? ⟨w.heap.size+1,2,none⟩=some (.int .i64 A)/\v.cell? ⟨w.heap.size+1,3,none⟩=some (.int .i64 B)/\v.cell? ⟨w.heap.size+1,4,none⟩=some (.int .i64 E)/\v.cell? ⟨w.heap.size+1,5,none⟩=some (.int .i64 n)/\v.cell? ⟨Z,0,none⟩=some (.int .i64 0)/\v.cell? ⟨Z,1,none⟩=some (.int .i64 0)) fun hHeld=>?_;refine Tf 0 1 2 3 4 5 ?_;clear hHeld;refine Ao 6 fun K hK=>?_;go_simp;(go_at_call 104;(with_reducible refine(HK0.out _ (bel HTD0.out.bel (A5 _))).mono ?_);rintro e w9 ⟨rfl,hb9⟩;have HB9:Hid (Below Wa.heap.size Wa w9):=bel (A5 _) hb9;clear hb9;obtain⟨ya2,ya3,fz0,fz1⟩:=HYA.out w9 HB9.out;obtain⟨c0,c1,c2,c3,i1,i2,i3,i4,i5,d0,d1⟩:=HCD0.out w9 HB9.out);try(go_wp2_with fail)
 refine An hK fun hHeld=>?_;clear hK K;refine AI 7 ?_;refine wpAnyH_done kR ?_ _;obtain⟨hz5,hz6,hz7⟩:=HZ.out;go_wp2;have HD:Hid (((w9.setCell ⟨Z,0,none⟩ (.int .i64 dk)).setCell ⟨Z,1,none⟩ (.int .i64 dp)).cell? ⟨Z,0,none⟩=some (.int .i64 dk)/\((w9.setCell ⟨Z,0,none⟩ (.int .i64 dk)).setCell ⟨Z,1,none⟩ (.int .i64 dp)).cell? ⟨Z,1,none⟩=some (.int .i64 dp)):=⟨by simp[go_sem,d0,d1],by simp[go_sem,d0,d1]⟩
 have HTD:Hid _:=((HTD0.out.next HB9.out).keep (g:=Z) (o:=0) (.int .i64 dk) hz6 hz5).keep (g:=Z) (o:=1) (.int .i64 dp) hz6 hz5;obtain⟨Wd,hWd⟩:∃W,(w9.setCell ⟨Z,0,none⟩ (.int .i64 dk)).setCell ⟨Z,1,none⟩ (.int .i64 dp)=W:=⟨_,rfl⟩
 rw[hWd]at HD HTD ⊢;clear hWd c0 c1 c2 c3 i1 i2 i3 i4 i5 d0 d1 ya2 ya3 fz0 fz1 HCD0 HYA HD0 HTD0 HB9 HK0 hz5 hz6 hz7 HZ;have HCD:Hid (∀v,Below Wd.heap.size Wd v->v.cell? ⟨w.heap.size,0,none⟩=some (.slice p0 n0 q0)/\v.cell? ⟨w.heap.size,1,none⟩=some (.slice (some ⟨lb,lo,none⟩) n1 q1)/\v.cell? ⟨w.heap.size,2,none⟩=some (.slice p2 n2 q2)/\v.cell? ⟨w.heap.size,3,none⟩=some v3/\v.cell? ⟨w.heap.size+1,1,none⟩=some (.int .i64 (kd:Int))/\v.cell? ⟨w.heap.size+1,2,none⟩=some (.int .i64 A)/\v.cell? ⟨w.heap.size+1,3,none⟩=some (.int .i64 B)/\v.cell? ⟨w.heap.size+1,4,none⟩=some (.int .i64 E)/\v.cell? ⟨w.heap.size+1,5,none⟩=some (.int .i64 n)/\v.cell? ⟨Z,0,none⟩=some (.int .i64 dk)/\v.cell? ⟨Z,1,none⟩=some (.int .i64 dp)):=fun v hb=>⟨kc hb HTD.out.c0,kc hb HTD.out.c1,kc hb HTD.out.c2,kc hb HTD.out.c3,kc hb HTD.out.i1,kc hb HTD.out.i2,kc hb HTD.out.i3,kc hb HTD.out.i4,kc hb HTD.out.i5,kc hb HD.out.1,kc hb HD.out.2⟩
 obtain⟨c0,c1,c2,c3,i1,i2,i3,i4,i5,d0,d1⟩:=HCD.out Wd (B8 _);cases XA
 ·exact Zba
 cases XB
 ·have HQF:Hid (false=RES):=HRES.out;go_wp2;refine rG (fun v=>v.cell? ⟨w.heap.size,0,none⟩=some (.slice p0 n0 q0)/\v.cell? ⟨w.heap.size,1,none⟩=some (.slice (some ⟨lb,lo,none⟩) n1 q1)/\v.cell? ⟨w.heap.size,2,none⟩=some (.slice p2 n2 q2)/\v.cell? ⟨w.heap.size,3,none⟩=some v3/\v.cell? ⟨w.heap.size+1,1,none⟩=some (.int .i64 (kd:Int))/\v.cell? ⟨w.heap.size+1,2,none⟩=some (.int .i64 A)/\v.cell? ⟨w.heap.size+1,3,none⟩=some (.int .i64 B)/\v.cell? ⟨w.heap.size+1,4,none⟩=some (.int .i64 E)/\v.cell? ⟨w.heap.size+1,5,none⟩=some (.int .i64 n)/\v.cell? ⟨Z,0,none⟩=some (.int .i64 dk)/\v.cell? ⟨Z,1,none⟩=some (.int .i64 dp)) fun hHeld=>?_;exact Zav
 cases XC
 ·have HQF:Hid (false=RES):=HRES.out;go_wp2;refine rG (fun v=>v.cell? ⟨w.heap.size,0,none⟩=some (.slice p0 n0 q0)/\v.cell? ⟨w.heap.size,1,none⟩=some (.slice (some ⟨lb,lo,none⟩) n1 q1)/\v.cell? ⟨w.heap.size,2,none⟩=some (.slice p2 n2 q2)/\v.cell? ⟨w.heap.size,3,none⟩=some v3/\v.cell? ⟨w.heap.size+1,1,none⟩=some (.int .i64 (kd:Int))/\v.cell? ⟨w.heap.size+1,2,none⟩=some (.int .i64 A)/\v.cell? ⟨w.heap.size+1,3,none⟩=some (.int .i64 B)/\v.cell? ⟨w.heap.size+1,4,none⟩=some (.int .i64 E)/\v.cell? ⟨w.heap.size+1,5,none⟩=some (.int .i64 n)/\v.cell? ⟨Z,0,none⟩=some (.int .i64 dk)/\v.cell? ⟨Z,1,none⟩=some (.int .i64 dp)) fun hHeld=>?_;exact Zan
 go_wp2;refine rG (fun v=>v.cell? ⟨w.heap.size,0,none⟩=some (.slice p0 n0 q0)/\v.cell? ⟨w.heap.size,1,none⟩=some (.slice (some ⟨lb,lo,none⟩) n1 q1)/\v.cell? ⟨w.heap.size,2,none⟩=some (.slice p2 n2 q2)/\v.cell? ⟨w.heap.size,3,none⟩=some v3/\v.cell? ⟨w.heap.size+1,1,none⟩=some (.int .i64 (kd:Int))/\v.cell? ⟨w.heap.size+1,2,none⟩=some (.int .i64 A)/\v.cell? ⟨w.heap.size+1,3,none⟩=some (.int .i64 B)/\v.cell? ⟨w.heap.size+1,4,none⟩=some (.int .i64 E)/\v.cell? ⟨w.heap.size+1,5,none⟩=some (.int .i64 n)/\v.cell? ⟨Z,0,none⟩=some (.int .i64 dk)/\v.cell? ⟨Z,1,none⟩=some (.int .i64 dp)) fun hHeld=>?_;refine Tf 0 1 2 3 4 5 ?_;clear hHeld;refine Ao 6 fun K hK=>?_;go_simp;(go_at_call 104;(with_reducible refine(HKA.out _ (bel HTD.out.bel (A5 _))).mono ?_);rintro e w3 ⟨rfl,hb9⟩;have HB3:Hid (Below Wd.heap.size Wd w3):=bel (A5 _) hb9;clear hb9;obtain⟨c0,c1,c2,c3,i1,i2,i3,i4,i5,d0,d1⟩:=HCD.out w3 HB3.out);try(go_wp2_with fail)
 refine An hK fun hHeld=>?_;clear hK K;refine Tf 7 8 9 10 11 12 ?_;refine Tb 13 14 ?_;clear hHeld;refine Ao 15 fun K hK=>?_;go_simp;(go_at_call 104;(with_reducible refine(HKB.out _ (bel HTD.out.bel HB3.out)).mono ?_);rintro e w4 ⟨rfl,hb9⟩;have HB4:Hid (Below Wd.heap.size Wd w4):=bel HB3.out hb9;clear hb9;clear c0 c1 c2 c3 i1 i2 i3 i4 i5 d0 d1;obtain⟨c0,c1,c2,c3,i1,i2,i3,i4,i5,d0,d1⟩:=HCD.out w4 HB4.out);try(go_wp2_with fail)
 refine An hK fun hHeld=>?_;clear hK K;refine Tf 16 17 18 19 20 21 ?_;refine Tc 22 23 24 ?_;clear hHeld;refine Ao 25 fun K hK=>?_;go_simp;(go_at_call 104;(with_reducible refine(HKC.out _ (bel HTD.out.bel HB4.out)).mono ?_);rintro e w5 ⟨rfl,hb9⟩;have HB5:Hid (Below Wd.heap.size Wd w5):=bel HB4.out hb9;clear hb9;clear c0 c1 c2 c3 i1 i2 i3 i4 i5 d0 d1;obtain⟨c0,c1,c2,c3,i1,i2,i3,i4,i5,d0,d1⟩:=HCD.out w5 HB5.out);try(go_wp2_with fail)
 refine An hK fun hHeld=>?_;clear hK K;refine Tb 26 27 ?_;refine wpAnyH_done kR ?_ _;clear c0 c1 c2 c3 i1 i2 i3 i4 i5 d0 d1;have HT5:Hid (TW w (.slice p0 n0 q0) (.slice (some ⟨lb,lo,none⟩) n1 q1) (.slice p2 n2 q2) v3 (w.heap.size+1) op (kd:Int) A B E n bt w5):=HTD.out.next HB5.out;obtain⟨hb5,c0,c1,c2,c3,i0,i1,i2,i3,i4,i5,i6⟩:=HT5.out;obtain⟨-,-,-,-,-,-,-,-,-,d0,d1⟩:=HCD.out w5 HB5.out;have hs5:w5.heap.size≠w.heap.size+1/\w.heap.size<w5.heap.size:=⟨fun e=>by have:=A3 i0;simp only at this;omega,by have:=A3 c0;simp only at this;omega⟩
 have HAL:Hid (TW w (.slice p0 n0 q0) (.slice (some ⟨lb,lo,none⟩) n1 q1) (.slice p2 n2 q2) v3 (w.heap.size+1) op (kd:Int) A B E n bt (w5.alloc (.cells #[.int .i64 dk,.int .i64 dp] 69))):=HT5.out.next (A0 _ _);have HRT:Hid (CQ c Le n ⟨dk,dp⟩=RES):=HRES.out;clear c0 c1 c2 c3 i0 i1 i2 i3 i4 i5 i6;have t0:(w5.alloc (.cells #[.int .i64 dk,.int .i64 dp] 69)).cell? ⟨w5.heap.size,0,none⟩=some (.int .i64 dk):=sG;have t1:(w5.alloc (.cells #[.int .i64 dk,.int .i64 dp] 69)).cell? ⟨w5.heap.size,1,none⟩=some (.int .i64 dp):=sG;obtain⟨hbx,c0,c1,c2,c3,i0,i1,i2,i3,i4,i5,i6⟩:=HAL.out;clear d0 d1 HRES;have hbt:=hbx;subst oe;exact Zdk
end Go.Proofs.YtbinohkcolcbfaaGreat
