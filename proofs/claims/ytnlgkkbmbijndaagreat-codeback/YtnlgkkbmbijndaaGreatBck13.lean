import Derived.Test.YtnlgkkbmbijndaaGreatBck9
import Derived.Test.YtnlgkkbmbijndaaGreatBck10
import Derived.Test.YtnlgkkbmbijndaaGreatBck8
import Derived.Test.YtnlgkkbmbijndaaGreatBck11
import Derived.Test.YtnlgkkbmbijndaaGreatBck2
import Derived.Test.YtnlgkkbmbijndaaGreatRows
import Derived.Test.YtnlgkkbmbijndaaGreatBck1
import Derived.Deep.DeepCutAuto
import Derived.Deep.CutBlock
namespace Go.Proofs.YtnlgkkbmbijndaaGreat
open Go.RowKit Go.Proofs.Tryz
set_option linter.all false
set_option maxRecDepth 100000
set_option maxHeartbeats 16000000
theorem IC(op:Int)(h:Ax op=false)(w:World):Calls prog 74 #[.int .i64 op] w fun e w'=>e=.returned (.tuple #[BV ⟨0,0,0,0,0⟩,.bool false])/\Below w.heap.size w w':=by
 have hh:op<1\/37<op:=by unfold Ax at h;simp at h;omega
 have e1:(op==1)=false:=by have:op≠1:=oM;simpa using this
 have e2:(op==2)=false:=by have:op≠2:=oM;simpa using this
 have e3:(op==3)=false:=by have:op≠3:=oM;simpa using this
 have e4:(op==4)=false:=by have:op≠4:=oM;simpa using this
 have e5:(op==5)=false:=by have:op≠5:=oM;simpa using this
 have e6:(op==6)=false:=by have:op≠6:=oM;simpa using this
 have e7:(op==7)=false:=by have:op≠7:=oM;simpa using this
 have e8:(op==8)=false:=by have:op≠8:=oM;simpa using this
 have e9:(op==9)=false:=by have:op≠9:=oM;simpa using this
 have e10:(op==10)=false:=by have:op≠10:=oM;simpa using this
 have e11:(op==11)=false:=by have:op≠11:=oM;simpa using this
 have e12:(op==12)=false:=by have:op≠12:=oM;simpa using this
 have e13:(op==13)=false:=by have:op≠13:=oM;simpa using this
 have e14:(op==14)=false:=by have:op≠14:=oM;simpa using this
 have e15:(op==15)=false:=by have:op≠15:=oM;simpa using this
 have e16:(op==16)=false:=by have:op≠16:=oM;simpa using this
 have e17:(op==17)=false:=by have:op≠17:=oM;simpa using this
 have e18:(op==18)=false:=by have:op≠18:=oM;simpa using this
 have e19:(op==19)=false:=by have:op≠19:=oM;simpa using this
 have e20:(op==20)=false:=by have:op≠20:=oM;simpa using this
 have e21:(op==21)=false:=by have:op≠21:=oM;simpa using this
 have e22:(op==22)=false:=by have:op≠22:=oM;simpa using this
 have e23:(op==23)=false:=by have:op≠23:=oM;simpa using this
 have e24:(op==24)=false:=by have:op≠24:=oM;simpa using this
 have e25:(op==25)=false:=by have:op≠25:=oM;simpa using this
 have e26:(op==26)=false:=by have:op≠26:=oM;simpa using this
 have e27:(op==27)=false:=by have:op≠27:=oM;simpa using this
 have e28:(op==28)=false:=by have:op≠28:=oM;simpa using this
 have e29:(op==29)=false:=by have:op≠29:=oM;simpa using this
 have e30:(op==30)=false:=by have:op≠30:=oM;simpa using this
 have e31:(op==31)=false:=by have:op≠31:=oM;simpa using this
 have e32:(op==32)=false:=by have:op≠32:=oM;simpa using this
 have e33:(op==33)=false:=by have:op≠33:=oM;simpa using this
 have e34:(op==34)=false:=by have:op≠34:=oM;simpa using this
 have e35:(op==35)=false:=by have:op≠35:=oM;simpa using this
 have e36:(op==36)=false:=by have:op≠36:=oM;simpa using this
 have e37:(op==37)=false:=by have:op≠37:=oM;simpa using this
 clear hh h;exact Dd
theorem Ej(op:Int)(h:Ax op=false):Ad op=⟨0,0,0,0,0⟩:=by
 have hh:op<1\/37<op:=by unfold Ax at h;simp at h;omega
 unfold Ad
 repeat rw[if_neg oM]
theorem Ey(op:Int)(w:World):Calls prog 74 #[.int .i64 op] w fun e w'=>e=.returned (.tuple #[BV (Ad op),.bool (Ax op)])/\Below w.heap.size w w':=by
 by_cases h:Ax op=false
 .rw[h,Ej op h];exact IC op h w
 .have hh:1<=op/\op<=37:=by unfold Ax at h;simp at h;omega
  rw[show Ax op=true by simpa using h];clear h;by_cases k1:op=1
  .subst k1;exact O5 w
  by_cases k2:op=2
  .subst k2;exact O6 w
  by_cases k3:op=3
  .subst k3;exact O7 w
  by_cases k4:op=4
  .subst k4;exact O8 w
  by_cases k5:op=5
  .subst k5;exact O9 w
  by_cases k6:op=6
  .subst k6;exact Oa w
  by_cases k7:op=7
  .subst k7;exact Oc w
  by_cases k8:op=8
  .subst k8;exact Od w
  by_cases k9:op=9
  .subst k9;exact Oe w
  by_cases k10:op=10
  .subst k10;exact Mb w
  by_cases k11:op=11
  .subst k11;exact Mc w
  by_cases k12:op=12
  .subst k12;exact Md w
  by_cases k13:op=13
  .subst k13;exact Me w
  by_cases k14:op=14
  .subst k14;exact Mf w
  by_cases k15:op=15
  .subst k15;exact Mg w
  by_cases k16:op=16
  .subst k16;exact Mh w
  by_cases k17:op=17
  .subst k17;exact Mi w
  by_cases k18:op=18
  .subst k18;exact Mj w
  by_cases k19:op=19
  .subst k19;exact Mk w
  by_cases k20:op=20
  .subst k20;exact Ml w
  by_cases k21:op=21
  .subst k21;exact Mm w
  by_cases k22:op=22
  .subst k22;exact Mn w
  by_cases k23:op=23
  .subst k23;exact Mo w
  by_cases k24:op=24
  .subst k24;exact Mp w
  by_cases k25:op=25
  .subst k25;exact Mq w
  by_cases k26:op=26
  .subst k26;exact Mr w
  by_cases k27:op=27
  .subst k27;exact Ms w
  by_cases k28:op=28
  .subst k28;exact Mt w
  by_cases k29:op=29
  .subst k29;exact Mu w
  by_cases k30:op=30
  .subst k30;exact Mv w
  by_cases k31:op=31
  .subst k31;exact Mw w
  by_cases k32:op=32
  .subst k32;exact Mx w
  by_cases k33:op=33
  .subst k33;exact My w
  by_cases k34:op=34
  .subst k34;exact Mz w
  by_cases k35:op=35
  .subst k35;exact MA w
  by_cases k36:op=36
  .subst k36;exact MB w
  by_cases k37:op=37
  .subst k37;exact MC w
  omega
theorem G9(op:Int)(h:Ax op=false)(w:World):Calls prog 48 #[.int .i64 op] w fun e w'=>e=.returned (.tuple #[.string ⟨#[]⟩,.bool false])/\w'=w:=by
 have hh:op<1\/37<op:=by unfold Ax at h;simp at h;omega
 have e1:(op==1)=false:=by have:op≠1:=oM;simpa using this
 have e2:(op==2)=false:=by have:op≠2:=oM;simpa using this
 have e3:(op==3)=false:=by have:op≠3:=oM;simpa using this
 have e4:(op==4)=false:=by have:op≠4:=oM;simpa using this
 have e5:(op==5)=false:=by have:op≠5:=oM;simpa using this
 have e6:(op==6)=false:=by have:op≠6:=oM;simpa using this
 have e7:(op==7)=false:=by have:op≠7:=oM;simpa using this
 have e8:(op==8)=false:=by have:op≠8:=oM;simpa using this
 have e9:(op==9)=false:=by have:op≠9:=oM;simpa using this
 have e10:(op==10)=false:=by have:op≠10:=oM;simpa using this
 have e11:(op==11)=false:=by have:op≠11:=oM;simpa using this
 have e12:(op==12)=false:=by have:op≠12:=oM;simpa using this
 have e13:(op==13)=false:=by have:op≠13:=oM;simpa using this
 have e14:(op==14)=false:=by have:op≠14:=oM;simpa using this
 have e15:(op==15)=false:=by have:op≠15:=oM;simpa using this
 have e16:(op==16)=false:=by have:op≠16:=oM;simpa using this
 have e17:(op==17)=false:=by have:op≠17:=oM;simpa using this
 have e18:(op==18)=false:=by have:op≠18:=oM;simpa using this
 have e19:(op==19)=false:=by have:op≠19:=oM;simpa using this
 have e20:(op==20)=false:=by have:op≠20:=oM;simpa using this
 have e21:(op==21)=false:=by have:op≠21:=oM;simpa using this
 have e22:(op==22)=false:=by have:op≠22:=oM;simpa using this
 have e23:(op==23)=false:=by have:op≠23:=oM;simpa using this
 have e24:(op==24)=false:=by have:op≠24:=oM;simpa using this
 have e25:(op==25)=false:=by have:op≠25:=oM;simpa using this
 have e26:(op==26)=false:=by have:op≠26:=oM;simpa using this
 have e27:(op==27)=false:=by have:op≠27:=oM;simpa using this
 have e28:(op==28)=false:=by have:op≠28:=oM;simpa using this
 have e29:(op==29)=false:=by have:op≠29:=oM;simpa using this
 have e30:(op==30)=false:=by have:op≠30:=oM;simpa using this
 have e31:(op==31)=false:=by have:op≠31:=oM;simpa using this
 have e32:(op==32)=false:=by have:op≠32:=oM;simpa using this
 have e33:(op==33)=false:=by have:op≠33:=oM;simpa using this
 have e34:(op==34)=false:=by have:op≠34:=oM;simpa using this
 have e35:(op==35)=false:=by have:op≠35:=oM;simpa using this
 have e36:(op==36)=false:=by have:op≠36:=oM;simpa using this
 have e37:(op==37)=false:=by have:op≠37:=oM;simpa using this
 clear hh h;exact De
structure Nh(r:Rw)(a b c d e:UInt8):Prop where
 a:(a==45)=(r.d==0)
 b:(b==45)=(r.a==0)
 c:(c==45)=(r.b==0)
 d:(d==45)=(r.c==0)
theorem Hf(op:Int)(w:World):(Ax op=false/\Calls prog 48 #[.int .i64 op] w fun e w'=>e=.returned (.tuple #[.string ⟨#[]⟩,.bool false])/\w'=w)\/(Ax op=true/\∃a b c d e:UInt8,Nh (Ad op) a b c d e/\∀w,Calls prog 48 #[.int .i64 op] w fun x w'=>x=.returned (.tuple #[.string ⟨#[a,b,c,d,e]⟩,.bool true])/\w'=w):=by
 by_cases h:Ax op=false
 .exact .inl ⟨h,G9 op h w⟩
 .have hh:1<=op/\op<=37:=by unfold Ax at h;simp at h;omega
  refine .inr ⟨by simpa using h,?_⟩;clear h;by_cases k1:op=1
  .subst k1;exact⟨_,_,_,_,_,⟨rfl,rfl,rfl,rfl⟩,fun w=>ME w⟩
  by_cases k2:op=2
  .subst k2;exact⟨_,_,_,_,_,⟨rfl,rfl,rfl,rfl⟩,fun w=>MF w⟩
  by_cases k3:op=3
  .subst k3;exact⟨_,_,_,_,_,⟨rfl,rfl,rfl,rfl⟩,fun w=>MG w⟩
  by_cases k4:op=4
  .subst k4;exact⟨_,_,_,_,_,⟨rfl,rfl,rfl,rfl⟩,fun w=>MH w⟩
  by_cases k5:op=5
  .subst k5;exact⟨_,_,_,_,_,⟨rfl,rfl,rfl,rfl⟩,fun w=>MI w⟩
  by_cases k6:op=6
  .subst k6;exact⟨_,_,_,_,_,⟨rfl,rfl,rfl,rfl⟩,fun w=>MJ w⟩
  by_cases k7:op=7
  .subst k7;exact⟨_,_,_,_,_,⟨rfl,rfl,rfl,rfl⟩,fun w=>MK w⟩
  by_cases k8:op=8
  .subst k8;exact⟨_,_,_,_,_,⟨rfl,rfl,rfl,rfl⟩,fun w=>ML w⟩
  by_cases k9:op=9
  .subst k9;exact⟨_,_,_,_,_,⟨rfl,rfl,rfl,rfl⟩,fun w=>MM w⟩
  by_cases k10:op=10
  .subst k10;exact⟨_,_,_,_,_,⟨rfl,rfl,rfl,rfl⟩,fun w=>Jg w⟩
  by_cases k11:op=11
  .subst k11;exact⟨_,_,_,_,_,⟨rfl,rfl,rfl,rfl⟩,fun w=>Jh w⟩
  by_cases k12:op=12
  .subst k12;exact⟨_,_,_,_,_,⟨rfl,rfl,rfl,rfl⟩,fun w=>Ji w⟩
  by_cases k13:op=13
  .subst k13;exact⟨_,_,_,_,_,⟨rfl,rfl,rfl,rfl⟩,fun w=>Jj w⟩
  by_cases k14:op=14
  .subst k14;exact⟨_,_,_,_,_,⟨rfl,rfl,rfl,rfl⟩,fun w=>Jk w⟩
  by_cases k15:op=15
  .subst k15;exact⟨_,_,_,_,_,⟨rfl,rfl,rfl,rfl⟩,fun w=>Jl w⟩
  by_cases k16:op=16
  .subst k16;exact⟨_,_,_,_,_,⟨rfl,rfl,rfl,rfl⟩,fun w=>Jm w⟩
  by_cases k17:op=17
  .subst k17;exact⟨_,_,_,_,_,⟨rfl,rfl,rfl,rfl⟩,fun w=>Jn w⟩
  by_cases k18:op=18
  .subst k18;exact⟨_,_,_,_,_,⟨rfl,rfl,rfl,rfl⟩,fun w=>Jo w⟩
  by_cases k19:op=19
  .subst k19;exact⟨_,_,_,_,_,⟨rfl,rfl,rfl,rfl⟩,fun w=>Jp w⟩
  by_cases k20:op=20
  .subst k20;exact⟨_,_,_,_,_,⟨rfl,rfl,rfl,rfl⟩,fun w=>Jq w⟩
  by_cases k21:op=21
  .subst k21;exact⟨_,_,_,_,_,⟨rfl,rfl,rfl,rfl⟩,fun w=>Jr w⟩
  by_cases k22:op=22
  .subst k22;exact⟨_,_,_,_,_,⟨rfl,rfl,rfl,rfl⟩,fun w=>Js w⟩
  by_cases k23:op=23
  .subst k23;exact⟨_,_,_,_,_,⟨rfl,rfl,rfl,rfl⟩,fun w=>Jt w⟩
  by_cases k24:op=24
  .subst k24;exact⟨_,_,_,_,_,⟨rfl,rfl,rfl,rfl⟩,fun w=>Ju w⟩
  by_cases k25:op=25
  .subst k25;exact⟨_,_,_,_,_,⟨rfl,rfl,rfl,rfl⟩,fun w=>Jv w⟩
  by_cases k26:op=26
  .subst k26;exact⟨_,_,_,_,_,⟨rfl,rfl,rfl,rfl⟩,fun w=>Jw w⟩
  by_cases k27:op=27
  .subst k27;exact⟨_,_,_,_,_,⟨rfl,rfl,rfl,rfl⟩,fun w=>Jx w⟩
  by_cases k28:op=28
  .subst k28;exact⟨_,_,_,_,_,⟨rfl,rfl,rfl,rfl⟩,fun w=>Jy w⟩
  by_cases k29:op=29
  .subst k29;exact⟨_,_,_,_,_,⟨rfl,rfl,rfl,rfl⟩,fun w=>Jz w⟩
  by_cases k30:op=30
  .subst k30;exact⟨_,_,_,_,_,⟨rfl,rfl,rfl,rfl⟩,fun w=>JA w⟩
  by_cases k31:op=31
  .subst k31;exact⟨_,_,_,_,_,⟨rfl,rfl,rfl,rfl⟩,fun w=>JB w⟩
  by_cases k32:op=32
  .subst k32;exact⟨_,_,_,_,_,⟨rfl,rfl,rfl,rfl⟩,fun w=>JC w⟩
  by_cases k33:op=33
  .subst k33;exact⟨_,_,_,_,_,⟨rfl,rfl,rfl,rfl⟩,fun w=>JD w⟩
  by_cases k34:op=34
  .subst k34;exact⟨_,_,_,_,_,⟨rfl,rfl,rfl,rfl⟩,fun w=>JE w⟩
  by_cases k35:op=35
  .subst k35;exact⟨_,_,_,_,_,⟨rfl,rfl,rfl,rfl⟩,fun w=>JF w⟩
  by_cases k36:op=36
  .subst k36;exact⟨_,_,_,_,_,⟨rfl,rfl,rfl,rfl⟩,fun w=>JG w⟩
  by_cases k37:op=37
  .subst k37;exact⟨_,_,_,_,_,⟨rfl,rfl,rfl,rfl⟩,fun w=>JH w⟩
  omega
def FH(op:Nat)(v:Int):List Nat:=if op=1 then AQ 4 v.toNat else []
def Ef(op:Nat):Pz Int:=if op=1 then Ac (C5 4) fun n=>Av (n:Int)else Av 0
theorem MN(op:Nat):Rt (FH op) (Ef op) (fun v=>0<=v/\v<2^32/\(op≠1->v=0)):=by
 by_cases q:op=1
 .subst q;refine⟨fun v hv rest p=>?_,fun l p x l' p' hb hh=>?_⟩
  .show Ac (C5 4) (fun n=>Av (n:Int)) (AQ 4 v.toNat++rest) p=_;rw[(Fy 4).go (x:=v.toNat) (by show v.toNat<256^4;have:=hv.2.1;omega)];show Except.ok ((v.toNat:Int),rest,_)=_;rw[Int.toNat_of_nonneg hv.1];rfl
  .obtain⟨n,m,k,e1,e2,e3,e4,e5⟩:=(Fy 4).open hb hh;have e3':n<256^4:=e3;have e5':Except.ok ((n:Int),m,k)=Except.ok (x,l',p'):=e5;simp only[Except.ok.injEq,Prod.mk.injEq]at e5';obtain⟨rfl,rfl,rfl⟩:=e5';exact⟨by show l=AQ 4 (n:Int).toNat++m;rw[Int.toNat_natCast];exact e1,by show k=p+(AQ 4 (n:Int).toNat).length;rw[Int.toNat_natCast];exact e2,oM,oM,fun h=>absurd rfl h⟩
 .refine⟨fun v hv rest p=>?_,fun l p x l' p' hb hh=>?_⟩
  .have:=hv.2.2 q;subst this;unfold FH Ef;rw[if_neg q,if_neg q];rfl
  .unfold Ef at hh;rw[if_neg q]at hh;have e5':Except.ok ((0:Int),l,p)=Except.ok (x,l',p'):=hh;simp only[Except.ok.injEq,Prod.mk.injEq]at e5';obtain⟨rfl,rfl,rfl⟩:=e5';unfold FH;rw[if_neg q];exact⟨rfl,rfl,oM,oM,fun _=>rfl⟩
def Nf(op:Nat):Bool:=decide ((Ad (op:Int)).d≠0)
def LK(op:Nat):Bool:=decide ((Ad (op:Int)).a≠0)
def Lm(op:Nat):Bool:=decide ((Ad (op:Int)).b≠0)
def LL(op:Nat):Bool:=decide ((Ad (op:Int)).c≠0)
def GB(op:Nat):Bool:=decide ((Ad (op:Int)).n≠0/\(Ad (op:Int)).n≠7)
def BN(i:AA):List Nat:=[i.op.toNat]++(Cv (Nf i.op.toNat) i.d++(Cv (LK i.op.toNat) i.a++(Cv (Lm i.op.toNat) i.b++(Cv (LL i.op.toNat) i.c++(Cv (GB i.op.toNat) i.n++FH i.op.toNat i.bits)))))
def DP:Pz AA:=Ac (B8 1 37) fun op=>Ac (Cp (Nf op)) fun d=>Ac (Cp (LK op)) fun a=>Ac (Cp (Lm op)) fun b=>Ac (Cp (LL op)) fun c=>Ac (Cp (GB op)) fun n=>Ac (Ef op) fun z=>Av (⟨(op:Int),d,a,b,c,n,z⟩:AA)
def Pk(b:Bool)(v:Int):Prop:=0<=v/\v<2^63/\(b=false->v=0)
def Dv(i:AA):Prop:=1<=i.op/\i.op<=37/\Pk (Nf i.op.toNat) i.d/\Pk (LK i.op.toNat) i.a/\Pk (Lm i.op.toNat) i.b/\Pk (LL i.op.toNat) i.c/\Pk (GB i.op.toNat) i.n/\0<=i.bits/\i.bits<2^32/\(i.op.toNat≠1->i.bits=0)
theorem MO:Rt BN DP Dv:=by
 refine⟨fun s hs rest p=>?_,fun l p x l' p' hb hh=>?_⟩
 .obtain⟨op,d,a,b,c,n,z⟩:=s;obtain⟨h1,h2,h3,h4,h5,h6,h7,h8,h9,h10⟩:=hs;have b1:1<=op:=h1;have b2:op<=37:=h2;unfold BN DP;simp only[List.append_assoc];rw[(DJ 1 37).go (x:=op.toNat) (by show 1<=op.toNat/\op.toNat<=37;omega),(C6 _).go h3,(C6 _).go h4,(C6 _).go h5,(C6 _).go h6,(C6 _).go h7,(MN _).go ⟨h8,h9,h10⟩];show Except.ok ((⟨(op.toNat:Int),d,a,b,c,n,z⟩:AA),rest,_)=_;rw[Int.toNat_of_nonneg oM];simp only[List.length_append,Nat.add_assoc]
 .obtain⟨op,m1,j1,e1,e2,e3,e4,e5⟩:=(DJ 1 37).open hb hh;obtain⟨d,m2,j2,f1,f2,f3,f4,f5⟩:=(C6 _).open e4 e5;obtain⟨a,m3,j3,g1,g2,g3,g4,g5⟩:=(C6 _).open f4 f5;obtain⟨b,m4,j4,h1,h2,h3,h4,h5⟩:=(C6 _).open g4 g5;obtain⟨c,m5,j5,i1,i2,i3,i4,i5⟩:=(C6 _).open h4 h5;obtain⟨n,m6,j6,k1,k2,k3,k4,k5⟩:=(C6 _).open i4 i5;obtain⟨z,m7,j7,n1,n2,n3,n4,n5⟩:=(MN _).open k4 k5;have n5':Except.ok ((⟨(op:Int),d,a,b,c,n,z⟩:AA),m7,j7)=Except.ok (x,l',p'):=n5;simp only[Except.ok.injEq,Prod.mk.injEq]at n5';obtain⟨rfl,rfl,rfl⟩:=n5';refine⟨?_,?_,?_⟩
  .unfold BN;simp only[Int.toNat_natCast,List.append_assoc];rw[e1,f1,g1,h1,i1,k1,n1]
  .unfold BN;simp only[Int.toNat_natCast,List.length_append];rw[n2,k2,i2,h2,g2,f2,e2];omega
  .unfold Dv;simp only[Int.toNat_natCast];exact⟨oM,oM,f3,g3,h3,i3,k3,n3.1,n3.2.1,n3.2.2⟩
def Bx(c:Cd):List Nat:=AU Bu c.sign++(AU Dj c.regs++(AU Dh c.slots++AU BN c.list))
def Fs:Pz Cd:=Ac (Bp 64 DZ) fun s=>Ac (Bp 16384 GC) fun r=>Ac (Bp 4096 Is) fun t=>Ac (Bp 32768 DP) fun l=>Av (⟨s,r,t,l⟩:Cd)
def BO(c:Cd):Prop:=(c.sign.length<=64/\∀x∈c.sign,Ec x)/\(c.regs.length<=16384/\∀x∈c.regs,FN x)/\(c.slots.length<=4096/\∀x∈c.slots,H8 x)/\(c.list.length<=32768/\∀x∈c.list,Dv x)
theorem Gv:Rt Bx Fs BO:=by
 refine⟨fun c hc rest p=>?_,fun l p x l' p' hb hh=>?_⟩
 .obtain⟨s,r,t,l⟩:=c;unfold Bx Fs;simp only[List.append_assoc];rw[(Dy MQ dE).go (x:=s) hc.1,(Dy JK dE).go (x:=r) hc.2.1,(Dy Ow dE).go (x:=t) hc.2.2.1,(Dy MO dE).go (x:=l) hc.2.2.2];show Except.ok ((⟨s,r,t,l⟩:Cd),rest,_)=_;simp only[List.length_append,Nat.add_assoc]
 .obtain⟨s,m1,j1,e1,e2,e3,e4,e5⟩:=(Dy MQ dE).open hb hh;obtain⟨r,m2,j2,f1,f2,f3,f4,f5⟩:=(Dy JK dE).open e4 e5;obtain⟨t,m3,j3,g1,g2,g3,g4,g5⟩:=(Dy Ow dE).open f4 f5;obtain⟨i,m4,j4,h1,h2,h3,h4,h5⟩:=(Dy MO dE).open g4 g5;have h5':Except.ok ((⟨s,r,t,i⟩:Cd),m4,j4)=Except.ok (x,l',p'):=h5;simp only[Except.ok.injEq,Prod.mk.injEq]at h5';obtain⟨rfl,rfl,rfl⟩:=h5';refine⟨?_,?_,e3,f3,g3,h3⟩
  .unfold Bx;simp only[List.append_assoc];rw[e1,f1,g1,h1]
  .unfold Bx;simp only[List.length_append];rw[h2,g2,f2,e2];omega
def Kj:List Nat:=[108,116,104,49]
def AW(c:Cd):List Nat:=Kj++Bx c
def Bv(c:Cd):List Nat:=AW c++AQ 8 (Fb (AW c))
def DU(s:List Nat):Except (Int×Nat) Cd:=
 if s.take (min s.length 4)≠Kj.take (min s.length 4)then .error (240,0)
 else if s.length<4 then .error (242,0)
 else match Fs (s.drop 4) 4 with
  | .error e=>.error e
  | .ok (c,l,p)=>
   if l.length<8 then .error (242,p)
   else if BE (l.take 8)≠Fb (s.take p)then .error (241,p)
   else if 8<l.length then .error (244,p+8)
   else if(AB c).1≠0 then .error ((AB c).1,0)
   else .ok c
theorem I0{l:List Nat}(h:∀b∈l,b<256):Fb l<256^8:=by
 have h1:Hs IV l<2^64:=I1 l Qj h;unfold Fb;exact Nat.lt_of_lt_of_eq (Nat.xor_lt_two_pow (n:=64) Qj h1) dE
theorem Lu{c:Cd}(hc:BO c)(hb:∀b∈AW c,b<256)(rest:List Nat):DU (Bv c++rest)=if rest≠[] then .error (244,(Bv c).length)else if(AB c).1≠0 then .error ((AB c).1,0)else .ok c:=by
 have hlen:(Bv c++rest).length=4+(Bx c).length+8+rest.length:=by
  unfold Bv AW;simp only[List.length_append,AR];rfl
 have ht:(Bv c++rest).take 4=Kj:=by
  unfold Bv AW;simp only[List.append_assoc];rw[List.take_append_of_le_length dE];rfl
 have hd:(Bv c++rest).drop 4=Bx c++(AQ 8 (Fb (AW c))++rest):=by
  unfold Bv AW;simp only[List.append_assoc];rw[List.drop_append_of_le_length dE];rfl
 have hm:min (Bv c++rest).length 4=4:=oM;unfold DU;rw[hm,ht,if_neg (by simp[Kj]),if_neg oM,hd,Gv.fw c hc];simp only;have h8:(AQ 8 (Fb (AW c))++rest).length=8+rest.length:=by rw[List.length_append,AR]
 have hp:(Bv c++rest).take (4+(Bx c).length)=AW c:=by
  unfold Bv;rw[List.append_assoc,List.take_append_of_le_length Qe,List.take_of_length_le Qe]
 have hl8:(AQ 8 (Fb (AW c))++rest).take 8=AQ 8 (Fb (AW c)):=by
  rw[List.take_append_of_le_length Pg,List.take_of_length_le Pg]
 rw[if_neg oM,hl8,Ev 8 _ (I0 hb),hp,if_neg sM,h8];have he:(Bv c).length=4+(Bx c).length+8:=by
  unfold Bv AW;simp only[List.length_append,AR];rfl
 cases rest with
 |nil=>rw[if_neg (show¬8<8+([]:List Nat).length by simp),if_neg (show¬ (([]:List Nat)≠[]) by simp)]
 |cons a r=>rw[if_pos sM,if_pos sM,he]
theorem OK{s:List Nat}{c:Cd}(hb:∀b∈s,b<256)(h:DU s=.ok c):s=Bv c/\BO c/\(AB c).1=0/\BE (AQ 8 (Fb (AW c)))=Fb (AW c):=by
 unfold DU at h;split at h
 .cases h
 .rename_i h1;split at h
  .cases h
  .rename_i h2;split at h
   .cases h
   .rename_i d l p hp;obtain⟨e1,e2,e3⟩:=Gv.bw (s.drop 4) 4 d l p (fun b hx=>hb b (List.mem_of_mem_drop hx)) hp;split at h
    .cases h
    .rename_i h3;split at h
     .cases h
     .rename_i h4;split at h
      .cases h
      .rename_i h5;split at h
       .cases h
       .rename_i h6;simp only[Except.ok.injEq]at h;subst h;have hm:min s.length 4=4:=oM;rw[hm]at h1;have ht:s.take 4=Kj:=by
         have h1':s.take 4=Kj.take 4:=by simpa using h1
         rw[h1'];rfl
        have hl:l.length=8:=oM;have hs:s=AW d++l:=by
         unfold AW;rw[<-ht,List.append_assoc,<-e1,List.take_append_drop]
        have hpp:s.take p=AW d:=by
         rw[hs,e2,List.take_append_of_le_length Qe,List.take_of_length_le Qe]
        have h4':BE l=Fb (AW d):=by
         have h9:BE (l.take 8)=Fb (s.take p):=by simpa using h4
         rw[List.take_of_length_le oM,hpp]at h9;exact h9
        have hlb:∀b∈l,b<256:=fun b hx=>hb b (by rw[hs];exact List.mem_append.2 (.inr hx));have e8:=Eu l hlb;rw[hl,h4']at e8;refine⟨?_,e3,by simpa using h6,by rw[e8];exact h4'⟩;unfold Bv;rw[e8];exact hs
theorem P4{p:Bc}(h:Bo p=true):Ec p:=by
 unfold Bo B1 at h;simp only[Bool.and_eq_true,Bool.or_eq_true,decide_eq_true_eq,beq_iff_eq]at h;obtain⟨⟨⟨⟨h1,h2⟩,h3⟩,h4⟩,h5,h6⟩:=h;exact⟨oM,oM,h2,oM,oM⟩
theorem Ot{t:Ty}{n:Nat}(hn:n<=64)(h:Ay t n=true):FN t:=by
 unfold Ay at h;split at h
 .rename_i q;have h':t.par=0:=by simpa using h
  exact⟨oM,oM,oM,oM,fun _=>h'⟩
 .split at h
  .rename_i q;unfold Ak at h;simp only[Bool.and_eq_true,decide_eq_true_eq]at h;exact⟨oM,oM,oM,oM,fun r=>absurd q r⟩
  .cases h
theorem PJ{s:Sl}{n:Nat}(hn:n<=64)(hb:0<=s.bits/\s.bits<4294967296)(h:AX s n=true):H8 s:=by
 unfold AX at h;simp only[Bool.and_eq_true]at h;have ht:=Ot hn h.1;have hs:=h.2;unfold DS at hs;split at hs
 .rename_i q;unfold BP at hs;simp only[Bool.and_eq_true,decide_eq_true_eq,beq_iff_eq]at hs;exact⟨ht,oM,oM,oM,oM,fun _=>hs.1,fun r=>absurd q r⟩
 .rename_i q;simp only[Bool.and_eq_true,beq_iff_eq]at hs;exact⟨ht,oM,oM,oM,oM,fun r=>absurd r q,fun _=>hs.1⟩
theorem Gh{rs:List Ty}{l v:Int}{m:Ty}(hr:rs.length<=16384)(h:Ah rs l v m=true):Pk (decide (l≠0)) v:=by
 unfold Ah at h;by_cases q:l=0
 .rw[if_pos q]at h;have h':v=0:=by simpa using h
  exact⟨oM,oM,fun _=>h'⟩
 .rw[if_neg q]at h;unfold Ak at h;simp only[Bool.and_eq_true,decide_eq_true_eq]at h;exact⟨oM,oM,fun r=>by simp[q]at r⟩
theorem KJ:∀n:Nat,n<38->1<=n->((Ad (n:Int)).n=7↔n=1):=dE
theorem P3{c:Cd}{i:AA}(hr:c.regs.length<=16384)(hs:c.slots.length<=4096)(hg:c.sign.length<=64)(hb:0<=i.bits/\i.bits<4294967296)(hk:Ax i.op=true)(hf:B4 c i (Ad i.op)=true):Dv i:=by
 unfold Ax at hk;simp only[Bool.and_eq_true,decide_eq_true_eq]at hk;unfold B4 at hf;simp only[Bool.and_eq_true]at hf;obtain⟨f1,f2,f3,f4,f5⟩:=hf;have e:((i.op.toNat:Nat):Int)=i.op:=Int.toNat_of_nonneg oM;have h7:=KJ i.op.toNat oM oM;rw[e]at h7;unfold Dv Nf LK Lm LL GB;rw[e];refine⟨hk.1,hk.2,Gh hr f1,Gh hr f2,Gh hr f3,Gh hr f4,?_,oM,oM,fun q=>?_⟩
 .unfold By at f5;by_cases q:(Ad i.op).n=7
  .rw[if_pos q]at f5;simp only[Bool.and_eq_true,beq_iff_eq]at f5;exact⟨oM,oM,fun _=>f5.1⟩
  .rw[if_neg q]at f5;simp only[Bool.and_eq_true,beq_iff_eq]at f5;have g:=f5.2;unfold G0 at g;by_cases q8:(Ad i.op).n=8
   .rw[if_pos q8]at g;unfold BP at g;simp only[Bool.and_eq_true,decide_eq_true_eq]at g;exact⟨oM,oM,fun r=>by simp[q8]at r⟩
   .rw[if_neg q8]at g;by_cases q9:(Ad i.op).n=9
    .rw[if_pos q9]at g;simp only[Bool.or_eq_true,Bool.and_eq_true,beq_iff_eq]at g;exact⟨oM,oM,fun r=>by simp[q9]at r⟩
    .rw[if_neg q9]at g;by_cases qa:(Ad i.op).n=10
     .rw[if_pos qa]at g;unfold Ak at g;simp only[Bool.and_eq_true,decide_eq_true_eq]at g;exact⟨oM,oM,fun r=>by simp[qa]at r⟩
     .rw[if_neg qa]at g;by_cases qb:(Ad i.op).n=11
      .rw[if_pos qb]at g;unfold Ak at g;simp only[Bool.and_eq_true,decide_eq_true_eq]at g;exact⟨oM,oM,fun r=>by simp[qb]at r⟩
      .rw[if_neg qb]at g;have g':i.n=0:=by simpa using g
       exact⟨oM,oM,fun _=>g'⟩
 .unfold By at f5;rw[if_neg (fun r=>q (h7.1 r))]at f5;simp only[Bool.and_eq_true,beq_iff_eq]at f5;exact f5.1
theorem CK(b:Bool)(v:Int):∀x∈Cv b v,x<256:=fun x hx=>by
 unfold Cv at hx;split at hx
 .exact EZ _ x hx
 .cases hx
theorem ET{α:Type}{e:α->List Nat}{l:List α}(h:∀a∈l,∀x∈e a,x<256):∀x∈AU e l,x<256:=fun x hx=>by
 unfold AU at hx;rcases List.mem_append.1 hx with q|q
 .exact EZ _ x q
 .obtain⟨a,ha,hq⟩:=List.mem_flatMap.1 q;exact h a ha x hq
theorem Nv{p:Bc}(h:Ec p):∀x∈Bu p,x<256:=fun x hx=>by
 unfold Bu Fe at hx;simp only[List.mem_append,List.mem_singleton]at hx;obtain⟨h1,h2,-⟩:=h;rcases hx with q|(q|q)|q
 .omega
 .exact EZ _ x q
 .exact C7 _ x q
 .exact CK _ _ x q
theorem Lv{t:Ty}(h:FN t):∀x∈Dj t,x<256:=fun x hx=>by
 unfold Dj at hx;simp only[List.mem_append,List.mem_singleton]at hx;obtain⟨h1,h2,-⟩:=h;rcases hx with q|q
 .omega
 .exact CK _ _ x q
theorem OL{s:Sl}(h:H8 s):∀x∈Dh s,x<256:=fun x hx=>by
 unfold Dh at hx;simp only[List.mem_append,List.mem_singleton]at hx;rcases hx with q|q|q
 .split at q<;>omega
 .exact Lv h.1 x q
 .split at q
  .exact EZ _ x q
  .exact CN _ _ x q
theorem Nu{i:AA}(h:Dv i):∀x∈BN i,x<256:=fun x hx=>by
 unfold BN at hx;simp only[List.mem_append,List.mem_singleton]at hx;obtain⟨h1,h2,-⟩:=h;rcases hx with q|q|q|q|q|q|q
 .omega
 .exact CK _ _ x q
 .exact CK _ _ x q
 .exact CK _ _ x q
 .exact CK _ _ x q
 .exact CK _ _ x q
 .unfold FH at q;split at q
  .exact CN _ _ x q
  .cases q
theorem Gc{c:Cd}(h:BO c):∀x∈AW c,x<256:=fun x hx=>by
 unfold AW Bx at hx;simp only[List.mem_append]at hx;rcases hx with q|q|q|q|q
 .unfold Kj at q;simp only[List.mem_cons,List.not_mem_nil,or_false]at q;omega
 .exact ET (fun a ha=>Nv (h.1.2 a ha)) x q
 .exact ET (fun a ha=>Lv (h.2.1.2 a ha)) x q
 .exact ET (fun a ha=>OL (h.2.2.1.2 a ha)) x q
 .exact ET (fun a ha=>Nu (h.2.2.2.2 a ha)) x q
theorem I2{c:Cd}(h:BO c):∀x∈Bv c,x<256:=fun x hx=>by
 unfold Bv at hx;rcases List.mem_append.1 hx with q|q
 .exact Gc h x q
 .exact CN _ _ x q
theorem Ls{c:Cd}(h:BO c)(hc:(AB c).1=0):DU (Bv c)=.ok c:=by
 have h9:=Lu h (Gc h) [];rw[List.append_nil,if_neg sM,if_neg (by simpa using hc)]at h9;exact h9
theorem EC{c:Cd}:∀ (l:List AA) (x:Wk),E4 c x l=true->∀i∈l,Ax i.op=true/\B4 c i (Ad i.op)=true
 |[],x,_,i,hi=>by cases hi
 |a::l,x,h,i,hi=>by
  have h':(Ba c x a&&E4 c (AC x a) l)=true:=h;simp only[Bool.and_eq_true]at h';rcases List.mem_cons.1 hi with e|e
  .subst e;obtain⟨k1,k2,-,-⟩:=Db h'.1;exact⟨k1,k2⟩
  .exact EC l _ h'.2 i e
theorem F9{c:Cd}(hsb:∀s∈c.slots,0<=s.bits/\s.bits<4294967296)(hib:∀i∈c.list,0<=i.bits/\i.bits<4294967296)(hc:(AB c).1=0):BO c:=by
 obtain⟨h1,h2,-⟩:=JT.1 hc;unfold BI at h1;by_cases e1:AM c.sign=0
 .rw[if_neg (by simp[e1])]at h1;by_cases e2:16384<c.regs.length\/32768<c.list.length
  .rw[if_pos e2]at h1;cases h1
  .rw[if_neg e2]at h1;by_cases e3:4096<c.slots.length
   .rw[if_pos e3]at h1;cases h1
   .rw[if_neg e3]at h1;by_cases e4:(Am c&&Be c)=true
    .simp only[Bool.and_eq_true]at e4;have hg:=JU e1;have hty:∀t∈c.regs,Ay t c.sign.length=true:=List.all_eq_true.1 e4.1;have hsl:∀s∈c.slots,AX s c.sign.length=true:=List.all_eq_true.1 e4.2;exact⟨⟨hg,fun p hp=>P4 (JV e1 p hp)⟩,⟨oM,fun t ht=>Ot hg (hty t ht)⟩,⟨oM,fun s hs=>PJ hg (hsb s hs) (hsl s hs)⟩,⟨oM,fun i hi=>P3 oM oM hg (hib i hi) (EC _ _ h2 i hi).1 (EC _ _ h2 i hi).2⟩⟩
    .rw[if_neg e4]at h1;cases h1
 .rw[if_pos e1]at h1;exact absurd h1 e1
theorem JR{x y:Nat}(hx:x<2^64)(hy:y<2^64):bits .xor .u64 (x:Int) (y:Int)=((x^^^y:Nat):Int):=by
 have h:(BitVec.ofInt 64 (x:Int)^^^BitVec.ofInt 64 (y:Int)).toNat=x^^^y:=by
  rw[BitVec.toNat_xor];simp only[BitVec.ofInt_natCast,BitVec.toNat_ofNat];rw[Nat.mod_eq_of_lt hx,Nat.mod_eq_of_lt hy]
 have h2:x^^^y<2^64:=Nat.xor_lt_two_pow hx hy;show IntKind.u64.wrap (((BitVec.ofInt 64 (x:Int)^^^BitVec.ofInt 64 (y:Int)).toNat:Nat):Int)=_;exact QF
theorem QJ{x:Nat}(hx:x<2^64):bits .and .u64 (x:Int) 1=((x%2:Nat):Int):=by
 have h:(BitVec.ofInt 64 (x:Int)&&& BitVec.ofInt 64 1).toNat=x%2:=by
  rw[BitVec.toNat_and,show BitVec.ofInt 64 1=BitVec.ofNat 64 1 from rfl];simp only[BitVec.ofInt_natCast,BitVec.toNat_ofNat];rw[Nat.mod_eq_of_lt hx,show 1%2^64=1 by decide,Nat.and_one_is_mod]
 show IntKind.u64.wrap (((BitVec.ofInt 64 (x:Int)&&& BitVec.ofInt 64 1).toNat:Nat):Int)=_;exact QF
theorem Pd{C:Nat}(hn:C<2^64):bits .xor .u64 ((C:Int)/2) (IntKind.u64.wrap (bits .and .u64 (C:Int) 1*14514072000185962306))=((IW C:Nat):Int):=by
 rw[QJ hn,show((C:Int)/2)=((C/2:Nat):Int) by omega];unfold IW;rcases Nat.mod_two_eq_zero_or_one C with r|r
 .rw[r,if_neg dE,show IntKind.u64.wrap (((0:Nat):Int)*14514072000185962306)=((0:Nat):Int) by rfl];exact JR oM dE
 .rw[r,if_pos rfl,show IntKind.u64.wrap (((1:Nat):Int)*14514072000185962306)=((Pj:Nat):Int) by rfl];exact JR oM (by unfold Pj;decide)
theorem O0{a b:Int}(h:a=b):Ending.returned (.int .u64 a)=.returned (.int .u64 b):=by rw[h]
theorem PB{x:Nat}(hx:x<2^64):bits .xor .u64 IntKind.u64.max (x:Int)=((IV^^^x:Nat):Int):=by
 rw[show IntKind.u64.max=((IV:Nat):Int)from rfl];exact JR Qj hx
theorem IS{s:ByteArray}{k:Nat}(h:k<s.size):(Aa s).take (k+1)=(Aa s).take k++[s[k].toNat]:=by
 have hl:k<(Aa s).length:=by rw[As];exact h
 rw[List.take_succ_eq_append_getElem hl];congr 2;show(s.data.toList.map UInt8.toNat)[k]'(by rw[List.length_map,Array.length_toList];exact h)=_;rw[List.getElem_map];rfl
theorem GR(c:Nat)(l:List Nat)(b:Nat):Hs c (l++[b])=Nd 8 (Hs c l^^^b):=by rw[Nr];rfl
theorem Fa:∀ (n c:Nat),Nd (n+1) c=IW (Nd n c)
 |0,c=>rfl
 |n+1,c=>Fa n (IW c)
theorem JM(s:ByteArray)(k:Nat):Hs IV ((Aa s).take k)<2^64:=I1 _ Qj (fun b hb=>C7 s b (List.mem_of_mem_take hb))
theorem DT(s:ByteArray)(hs:s.size<=140737488355328)(w:World):
 Calls prog 19 #[.string s] w fun e w'=>e=.returned (.int .u64 ((Fb (Aa s):Nat):Int))/\w'=w:=by
 obtain⟨N,hN⟩:=gA (s.size)
 go_enter func19,ntmps19;go_upto_block 0 with fail;go_wp2_with fail
 go_loopw [3,7] (fun cv iv wx=>wx=w/\∃k:Nat,k<=N/\iv=.int .i64 (k:Int)/\cv=.int .u64 ((Hs IV ((Aa s).take k):Nat):Int)) (fun _ iv _=>N-(intOf iv).toNat)
 case atStart=>exact⟨rfl,0,gI _,rfl,rfl⟩
 case round=>
  obtain⟨rfl,k,hk,rfl,rfl⟩:=hrel;have hc:=JM s k;by_cases hlt:k<N
  .have hks:k<s.size:=oM;have hmo:=IS hks;have hcm:=GR IV ((Aa s).take k) s[k].toNat;rw[<-hmo]at hcm;obtain⟨X,hX⟩:=gA (Hs IV ((Aa s).take k))
   rw[hX]at hc hcm;obtain⟨B,hB⟩:=gA (s[k].toNat)
   have hb:B<256:=by rw[<-hB];exact s[k].toNat_lt
   rw[hB]at hcm;have i1:(0:Int)<=(k:Int):=oM;have i2:(k:Int)<(N:Int):=oM;have wi:IntKind.i64.wrap ((k:Int)+1)=((k+1:Nat):Int):=by rw[IntKind.wrap_i64];omega
   have hxb:=JR hc (show B<2^64 by omega);have hY:X^^^B<2^64:=Nat.xor_lt_two_pow hc oM;obtain⟨Y,hYe⟩:=gA (X^^^B)
   rw[hYe]at hcm hxb hY;clear hmo hYe;go_upto_block 2 with fail;clear hX hB;go_wp2_with fail
   go_loopw [3,16] (fun cv iv wx=>wx=wr/\∃j:Nat,j<=8/\iv=.int .i64 (j:Int)/\cv=.int .u64 ((Nd j Y:Nat):Int)) (fun _ iv _=>8-(intOf iv).toNat)
   case atStart=>exact⟨rfl,0,oM,rfl,rfl⟩
   case round=>
    obtain⟨rfl,j,hj,rfl,rfl⟩:=hrel;have hn:=Gf j hY;have hm:=Fa j Y;have hst:=Pd hn;by_cases hl:j<8
    .have q2:(j:Int)<8:=oM;have wj:IntKind.i64.wrap ((j:Int)+1)=((j+1:Nat):Int):=by rw[IntKind.wrap_i64];omega
     rw[<-hm]at hst;clear hm hn hcm;go_wp2;go_roundw
     case rel=>exact⟨by trivial,j+1,oM,gN,rfl⟩
     case measure=>simp[intOf];omega
    .have q2:¬ (j:Int)<8:=oM;obtain rfl:j=8:=oM;have HCM:Hid _:=hcm;clear hst hm hn hcm hl;go_wp2;go_roundw
     case rel=>exact⟨by trivial,k+1,oM,gN,by rw[HCM.out]⟩
     case measure=>simp[intOf];omega
  .exact R9
theorem ID(s:ByteArray)(hs:s.size<=140737488355328)(w:World):
 Calls prog 24 #[.string s] w fun e w'=>e=.returned (.int .u64 ((Fb (Aa s):Nat):Int))/\w'=w:=by
 obtain⟨N,hN⟩:=gA (s.size)
 go_enter func24,ntmps24;go_upto_block 0 with fail;go_wp2_with fail
 go_loopw [3,4] (fun cv iv wx=>wx=w/\∃k:Nat,k<=N/\iv=.int .i64 (k:Int)/\cv=.int .u64 ((Hs IV ((Aa s).take k):Nat):Int)) (fun _ iv _=>N-(intOf iv).toNat)
 case atStart=>exact⟨rfl,0,gI _,rfl,rfl⟩
 case round=>
  obtain⟨rfl,k,hk,rfl,rfl⟩:=hrel;have hc:=JM s k;by_cases hlt:k<N
  .have hks:k<s.size:=oM;have hmo:=IS hks;have hcm:=GR IV ((Aa s).take k) s[k].toNat;rw[<-hmo]at hcm;obtain⟨X,hX⟩:=gA (Hs IV ((Aa s).take k))
   rw[hX]at hc hcm;obtain⟨B,hB⟩:=gA (s[k].toNat)
   have hb:B<256:=by rw[<-hB];exact s[k].toNat_lt
   rw[hB]at hcm;have i1:(0:Int)<=(k:Int):=oM;have i2:(k:Int)<(N:Int):=oM;have wi:IntKind.i64.wrap ((k:Int)+1)=((k+1:Nat):Int):=by rw[IntKind.wrap_i64];omega
   have hxb:=JR hc (show B<2^64 by omega);have hY:X^^^B<2^64:=Nat.xor_lt_two_pow hc oM;obtain⟨Y,hYe⟩:=gA (X^^^B)
   rw[hYe]at hcm hxb hY;clear hmo hYe;go_upto_block 2 with fail;clear hX hB;go_wp2_with fail
   go_loopw [3,5] (fun cv iv wx=>wx=wr/\∃j:Nat,j<=8/\iv=.int .i64 (j:Int)/\cv=.int .u64 ((Nd j Y:Nat):Int)) (fun _ iv _=>8-(intOf iv).toNat)
   case atStart=>exact⟨rfl,0,oM,rfl,rfl⟩
   case round=>
    obtain⟨rfl,j,hj,rfl,rfl⟩:=hrel;have hn:=Gf j hY;have hm:=Fa j Y;by_cases hl:j<8
    .have q2:(j:Int)<8:=oM;have wj:IntKind.i64.wrap ((j:Int)+1)=((j+1:Nat):Int):=by rw[IntKind.wrap_i64];omega
     obtain⟨C,hC⟩:=gA (Nd j Y)
     rw[hC]at hn hm;have hx1:=JR (show C/2<2^64 by omega) (show Pj<2^64 by unfold Pj;decide);have HM:=show Hid (Nd (j+1) Y=IW C)from hm;clear hcm hm;rcases Nat.mod_two_eq_zero_or_one C with r|r
     .have r1:((C:Int)%2==1)=false:=by rw[show(C:Int)%2=0 by omega];rfl
      have HT:Hid (((C:Int)/2)=((IW C:Nat):Int)):=by
       show((C:Int)/2)=((IW C:Nat):Int);unfold IW;rw[if_neg oM,Nat.xor_zero];omega
      clear hn;exact Ru
     .have r1:((C:Int)%2==1)=true:=by rw[show(C:Int)%2=1 by omega];rfl
      have HT:Hid (bits .xor .u64 ((C:Int)/2) 14514072000185962306=((IW C:Nat):Int)):=by
       show bits .xor .u64 ((C:Int)/2) 14514072000185962306=((IW C:Nat):Int);unfold IW;rw[if_pos r,show((C:Int)/2)=((C/2:Nat):Int) by omega];exact hx1
      clear hn hx1;exact Ru
    .have q2:¬ (j:Int)<8:=oM;obtain rfl:j=8:=oM;have HCM:Hid _:=hcm;clear hm hn hcm hl;go_wp2;go_roundw
     case rel=>exact⟨by trivial,k+1,oM,gN,by rw[HCM.out]⟩
     case measure=>simp[intOf];omega
  .exact R9
end Go.Proofs.YtnlgkkbmbijndaaGreat
