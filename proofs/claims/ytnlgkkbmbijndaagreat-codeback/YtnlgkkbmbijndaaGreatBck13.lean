import Derived.Test.YtnlgkkbmbijndaaGreatBck9
import Derived.Test.YtnlgkkbmbijndaaGreatBck10
import Derived.Test.YtnlgkkbmbijndaaGreatBck8
import Derived.Test.YtnlgkkbmbijndaaGreatBck11
import Derived.Test.YtnlgkkbmbijndaaGreatBck2
import Derived.Test.YtnlgkkbmbijndaaGreatRows
import Derived.Test.YtnlgkkbmbijndaaGreatBck1
import Derived.Deep.DeepCutAuto
import Derived.Deep.CutBlock
namespace Go.Proofs.YtnlgkkbmbijndaaGreat
open Go.RowKit Go.Proofs.Tryz
set_option linter.all false
set_option maxRecDepth 100000
set_option maxHeartbeats 16000000
theorem ID(op:Int)(h:Ax op=false)(w:World):Calls prog 74 #[.int .i64 op] w fun e w'=>e=.returned (.tuple #[BY ⟨0,0,0,0,0⟩,.bool false])/\Below w.heap.size w w':=by
 have hh:op<1\/37<op:=by unfold Ax at h;simp at h;omega
 have e1:(op==1)=false:=by have:op≠1:=oM;simpa using this
 have e2:(op==2)=false:=by have:op≠2:=oM;simpa using this
 have e3:(op==3)=false:=by have:op≠3:=oM;simpa using this
 have e4:(op==4)=false:=by have:op≠4:=oM;simpa using this
 have e5:(op==5)=false:=by have:op≠5:=oM;simpa using this
 have e6:(op==6)=false:=by have:op≠6:=oM;simpa using this
 have e7:(op==7)=false:=by have:op≠7:=oM;simpa using this
 have e8:(op==8)=false:=by have:op≠8:=oM;simpa using this
 have e9:(op==9)=false:=by have:op≠9:=oM;simpa using this
 have e10:(op==10)=false:=by have:op≠10:=oM;simpa using this
 have e11:(op==11)=false:=by have:op≠11:=oM;simpa using this
 have e12:(op==12)=false:=by have:op≠12:=oM;simpa using this
 have e13:(op==13)=false:=by have:op≠13:=oM;simpa using this
 have e14:(op==14)=false:=by have:op≠14:=oM;simpa using this
 have e15:(op==15)=false:=by have:op≠15:=oM;simpa using this
 have e16:(op==16)=false:=by have:op≠16:=oM;simpa using this
 have e17:(op==17)=false:=by have:op≠17:=oM;simpa using this
 have e18:(op==18)=false:=by have:op≠18:=oM;simpa using this
 have e19:(op==19)=false:=by have:op≠19:=oM;simpa using this
 have e20:(op==20)=false:=by have:op≠20:=oM;simpa using this
 have e21:(op==21)=false:=by have:op≠21:=oM;simpa using this
 have e22:(op==22)=false:=by have:op≠22:=oM;simpa using this
 have e23:(op==23)=false:=by have:op≠23:=oM;simpa using this
 have e24:(op==24)=false:=by have:op≠24:=oM;simpa using this
 have e25:(op==25)=false:=by have:op≠25:=oM;simpa using this
 have e26:(op==26)=false:=by have:op≠26:=oM;simpa using this
 have e27:(op==27)=false:=by have:op≠27:=oM;simpa using this
 have e28:(op==28)=false:=by have:op≠28:=oM;simpa using this
 have e29:(op==29)=false:=by have:op≠29:=oM;simpa using this
 have e30:(op==30)=false:=by have:op≠30:=oM;simpa using this
 have e31:(op==31)=false:=by have:op≠31:=oM;simpa using this
 have e32:(op==32)=false:=by have:op≠32:=oM;simpa using this
 have e33:(op==33)=false:=by have:op≠33:=oM;simpa using this
 have e34:(op==34)=false:=by have:op≠34:=oM;simpa using this
 have e35:(op==35)=false:=by have:op≠35:=oM;simpa using this
 have e36:(op==36)=false:=by have:op≠36:=oM;simpa using this
 have e37:(op==37)=false:=by have:op≠37:=oM;simpa using this
 clear hh h;exact De
theorem Ek(op:Int)(h:Ax op=false):Ac op=⟨0,0,0,0,0⟩:=by
 have hh:op<1\/37<op:=by unfold Ax at h;simp at h;omega
 unfold Ac
 repeat rw[if_neg oM]
theorem Ez(op:Int)(w:World):Calls prog 74 #[.int .i64 op] w fun e w'=>e=.returned (.tuple #[BY (Ac op),.bool (Ax op)])/\Below w.heap.size w w':=by
 by_cases h:Ax op=false
 .rw[h,Ek op h];exact ID op h w
 .have hh:1<=op/\op<=37:=by unfold Ax at h;simp at h;omega
  rw[show Ax op=true by simpa using h];clear h;by_cases k1:op=1
  .subst k1;exact O6 w
  by_cases k2:op=2
  .subst k2;exact O7 w
  by_cases k3:op=3
  .subst k3;exact O8 w
  by_cases k4:op=4
  .subst k4;exact O9 w
  by_cases k5:op=5
  .subst k5;exact Oa w
  by_cases k6:op=6
  .subst k6;exact Oc w
  by_cases k7:op=7
  .subst k7;exact Od w
  by_cases k8:op=8
  .subst k8;exact Oe w
  by_cases k9:op=9
  .subst k9;exact Of w
  by_cases k10:op=10
  .subst k10;exact Mc w
  by_cases k11:op=11
  .subst k11;exact Md w
  by_cases k12:op=12
  .subst k12;exact Me w
  by_cases k13:op=13
  .subst k13;exact Mf w
  by_cases k14:op=14
  .subst k14;exact Mg w
  by_cases k15:op=15
  .subst k15;exact Mh w
  by_cases k16:op=16
  .subst k16;exact Mi w
  by_cases k17:op=17
  .subst k17;exact Mj w
  by_cases k18:op=18
  .subst k18;exact Mk w
  by_cases k19:op=19
  .subst k19;exact Ml w
  by_cases k20:op=20
  .subst k20;exact Mm w
  by_cases k21:op=21
  .subst k21;exact Mn w
  by_cases k22:op=22
  .subst k22;exact Mo w
  by_cases k23:op=23
  .subst k23;exact Mp w
  by_cases k24:op=24
  .subst k24;exact Mq w
  by_cases k25:op=25
  .subst k25;exact Mr w
  by_cases k26:op=26
  .subst k26;exact Ms w
  by_cases k27:op=27
  .subst k27;exact Mt w
  by_cases k28:op=28
  .subst k28;exact Mu w
  by_cases k29:op=29
  .subst k29;exact Mv w
  by_cases k30:op=30
  .subst k30;exact Mw w
  by_cases k31:op=31
  .subst k31;exact Mx w
  by_cases k32:op=32
  .subst k32;exact My w
  by_cases k33:op=33
  .subst k33;exact Mz w
  by_cases k34:op=34
  .subst k34;exact MA w
  by_cases k35:op=35
  .subst k35;exact MB w
  by_cases k36:op=36
  .subst k36;exact MC w
  by_cases k37:op=37
  .subst k37;exact MD w
  omega
theorem Ga(op:Int)(h:Ax op=false)(w:World):Calls prog 48 #[.int .i64 op] w fun e w'=>e=.returned (.tuple #[.string ⟨#[]⟩,.bool false])/\w'=w:=by
 have hh:op<1\/37<op:=by unfold Ax at h;simp at h;omega
 have e1:(op==1)=false:=by have:op≠1:=oM;simpa using this
 have e2:(op==2)=false:=by have:op≠2:=oM;simpa using this
 have e3:(op==3)=false:=by have:op≠3:=oM;simpa using this
 have e4:(op==4)=false:=by have:op≠4:=oM;simpa using this
 have e5:(op==5)=false:=by have:op≠5:=oM;simpa using this
 have e6:(op==6)=false:=by have:op≠6:=oM;simpa using this
 have e7:(op==7)=false:=by have:op≠7:=oM;simpa using this
 have e8:(op==8)=false:=by have:op≠8:=oM;simpa using this
 have e9:(op==9)=false:=by have:op≠9:=oM;simpa using this
 have e10:(op==10)=false:=by have:op≠10:=oM;simpa using this
 have e11:(op==11)=false:=by have:op≠11:=oM;simpa using this
 have e12:(op==12)=false:=by have:op≠12:=oM;simpa using this
 have e13:(op==13)=false:=by have:op≠13:=oM;simpa using this
 have e14:(op==14)=false:=by have:op≠14:=oM;simpa using this
 have e15:(op==15)=false:=by have:op≠15:=oM;simpa using this
 have e16:(op==16)=false:=by have:op≠16:=oM;simpa using this
 have e17:(op==17)=false:=by have:op≠17:=oM;simpa using this
 have e18:(op==18)=false:=by have:op≠18:=oM;simpa using this
 have e19:(op==19)=false:=by have:op≠19:=oM;simpa using this
 have e20:(op==20)=false:=by have:op≠20:=oM;simpa using this
 have e21:(op==21)=false:=by have:op≠21:=oM;simpa using this
 have e22:(op==22)=false:=by have:op≠22:=oM;simpa using this
 have e23:(op==23)=false:=by have:op≠23:=oM;simpa using this
 have e24:(op==24)=false:=by have:op≠24:=oM;simpa using this
 have e25:(op==25)=false:=by have:op≠25:=oM;simpa using this
 have e26:(op==26)=false:=by have:op≠26:=oM;simpa using this
 have e27:(op==27)=false:=by have:op≠27:=oM;simpa using this
 have e28:(op==28)=false:=by have:op≠28:=oM;simpa using this
 have e29:(op==29)=false:=by have:op≠29:=oM;simpa using this
 have e30:(op==30)=false:=by have:op≠30:=oM;simpa using this
 have e31:(op==31)=false:=by have:op≠31:=oM;simpa using this
 have e32:(op==32)=false:=by have:op≠32:=oM;simpa using this
 have e33:(op==33)=false:=by have:op≠33:=oM;simpa using this
 have e34:(op==34)=false:=by have:op≠34:=oM;simpa using this
 have e35:(op==35)=false:=by have:op≠35:=oM;simpa using this
 have e36:(op==36)=false:=by have:op≠36:=oM;simpa using this
 have e37:(op==37)=false:=by have:op≠37:=oM;simpa using this
 clear hh h;exact Df
structure Ni(r:Rw)(a b c d e:UInt8):Prop where
 a:(a==45)=(r.d==0)
 b:(b==45)=(r.a==0)
 c:(c==45)=(r.b==0)
 d:(d==45)=(r.c==0)
theorem Hg(op:Int)(w:World):(Ax op=false/\Calls prog 48 #[.int .i64 op] w fun e w'=>e=.returned (.tuple #[.string ⟨#[]⟩,.bool false])/\w'=w)\/(Ax op=true/\∃a b c d e:UInt8,Ni (Ac op) a b c d e/\∀w,Calls prog 48 #[.int .i64 op] w fun x w'=>x=.returned (.tuple #[.string ⟨#[a,b,c,d,e]⟩,.bool true])/\w'=w):=by
 by_cases h:Ax op=false
 .exact .inl ⟨h,Ga op h w⟩
 .have hh:1<=op/\op<=37:=by unfold Ax at h;simp at h;omega
  refine .inr ⟨by simpa using h,?_⟩;clear h;by_cases k1:op=1
  .subst k1;exact⟨_,_,_,_,_,⟨rfl,rfl,rfl,rfl⟩,fun w=>MF w⟩
  by_cases k2:op=2
  .subst k2;exact⟨_,_,_,_,_,⟨rfl,rfl,rfl,rfl⟩,fun w=>MG w⟩
  by_cases k3:op=3
  .subst k3;exact⟨_,_,_,_,_,⟨rfl,rfl,rfl,rfl⟩,fun w=>MH w⟩
  by_cases k4:op=4
  .subst k4;exact⟨_,_,_,_,_,⟨rfl,rfl,rfl,rfl⟩,fun w=>MI w⟩
  by_cases k5:op=5
  .subst k5;exact⟨_,_,_,_,_,⟨rfl,rfl,rfl,rfl⟩,fun w=>MJ w⟩
  by_cases k6:op=6
  .subst k6;exact⟨_,_,_,_,_,⟨rfl,rfl,rfl,rfl⟩,fun w=>MK w⟩
  by_cases k7:op=7
  .subst k7;exact⟨_,_,_,_,_,⟨rfl,rfl,rfl,rfl⟩,fun w=>ML w⟩
  by_cases k8:op=8
  .subst k8;exact⟨_,_,_,_,_,⟨rfl,rfl,rfl,rfl⟩,fun w=>MM w⟩
  by_cases k9:op=9
  .subst k9;exact⟨_,_,_,_,_,⟨rfl,rfl,rfl,rfl⟩,fun w=>MN w⟩
  by_cases k10:op=10
  .subst k10;exact⟨_,_,_,_,_,⟨rfl,rfl,rfl,rfl⟩,fun w=>Jh w⟩
  by_cases k11:op=11
  .subst k11;exact⟨_,_,_,_,_,⟨rfl,rfl,rfl,rfl⟩,fun w=>Ji w⟩
  by_cases k12:op=12
  .subst k12;exact⟨_,_,_,_,_,⟨rfl,rfl,rfl,rfl⟩,fun w=>Jj w⟩
  by_cases k13:op=13
  .subst k13;exact⟨_,_,_,_,_,⟨rfl,rfl,rfl,rfl⟩,fun w=>Jk w⟩
  by_cases k14:op=14
  .subst k14;exact⟨_,_,_,_,_,⟨rfl,rfl,rfl,rfl⟩,fun w=>Jl w⟩
  by_cases k15:op=15
  .subst k15;exact⟨_,_,_,_,_,⟨rfl,rfl,rfl,rfl⟩,fun w=>Jm w⟩
  by_cases k16:op=16
  .subst k16;exact⟨_,_,_,_,_,⟨rfl,rfl,rfl,rfl⟩,fun w=>Jn w⟩
  by_cases k17:op=17
  .subst k17;exact⟨_,_,_,_,_,⟨rfl,rfl,rfl,rfl⟩,fun w=>Jo w⟩
  by_cases k18:op=18
  .subst k18;exact⟨_,_,_,_,_,⟨rfl,rfl,rfl,rfl⟩,fun w=>Jp w⟩
  by_cases k19:op=19
  .subst k19;exact⟨_,_,_,_,_,⟨rfl,rfl,rfl,rfl⟩,fun w=>Jq w⟩
  by_cases k20:op=20
  .subst k20;exact⟨_,_,_,_,_,⟨rfl,rfl,rfl,rfl⟩,fun w=>Jr w⟩
  by_cases k21:op=21
  .subst k21;exact⟨_,_,_,_,_,⟨rfl,rfl,rfl,rfl⟩,fun w=>Js w⟩
  by_cases k22:op=22
  .subst k22;exact⟨_,_,_,_,_,⟨rfl,rfl,rfl,rfl⟩,fun w=>Jt w⟩
  by_cases k23:op=23
  .subst k23;exact⟨_,_,_,_,_,⟨rfl,rfl,rfl,rfl⟩,fun w=>Ju w⟩
  by_cases k24:op=24
  .subst k24;exact⟨_,_,_,_,_,⟨rfl,rfl,rfl,rfl⟩,fun w=>Jv w⟩
  by_cases k25:op=25
  .subst k25;exact⟨_,_,_,_,_,⟨rfl,rfl,rfl,rfl⟩,fun w=>Jw w⟩
  by_cases k26:op=26
  .subst k26;exact⟨_,_,_,_,_,⟨rfl,rfl,rfl,rfl⟩,fun w=>Jx w⟩
  by_cases k27:op=27
  .subst k27;exact⟨_,_,_,_,_,⟨rfl,rfl,rfl,rfl⟩,fun w=>Jy w⟩
  by_cases k28:op=28
  .subst k28;exact⟨_,_,_,_,_,⟨rfl,rfl,rfl,rfl⟩,fun w=>Jz w⟩
  by_cases k29:op=29
  .subst k29;exact⟨_,_,_,_,_,⟨rfl,rfl,rfl,rfl⟩,fun w=>JA w⟩
  by_cases k30:op=30
  .subst k30;exact⟨_,_,_,_,_,⟨rfl,rfl,rfl,rfl⟩,fun w=>JB w⟩
  by_cases k31:op=31
  .subst k31;exact⟨_,_,_,_,_,⟨rfl,rfl,rfl,rfl⟩,fun w=>JC w⟩
  by_cases k32:op=32
  .subst k32;exact⟨_,_,_,_,_,⟨rfl,rfl,rfl,rfl⟩,fun w=>JD w⟩
  by_cases k33:op=33
  .subst k33;exact⟨_,_,_,_,_,⟨rfl,rfl,rfl,rfl⟩,fun w=>JE w⟩
  by_cases k34:op=34
  .subst k34;exact⟨_,_,_,_,_,⟨rfl,rfl,rfl,rfl⟩,fun w=>JF w⟩
  by_cases k35:op=35
  .subst k35;exact⟨_,_,_,_,_,⟨rfl,rfl,rfl,rfl⟩,fun w=>JG w⟩
  by_cases k36:op=36
  .subst k36;exact⟨_,_,_,_,_,⟨rfl,rfl,rfl,rfl⟩,fun w=>JH w⟩
  by_cases k37:op=37
  .subst k37;exact⟨_,_,_,_,_,⟨rfl,rfl,rfl,rfl⟩,fun w=>JI w⟩
  omega
def FI(op:Nat)(v:Int):List Nat:=if op=1 then AR 4 v.toNat else []
def Eg(op:Nat):Pz Int:=if op=1 then Ab (C6 4) fun n=>Av (n:Int)else Av 0
theorem MO(op:Nat):Rt (FI op) (Eg op) (fun v=>0<=v/\v<2^32/\(op≠1->v=0)):=by
 by_cases q:op=1
 .subst q;refine⟨fun v hv rest p=>?_,fun l p x l' p' hb hh=>?_⟩
  .show Ab (C6 4) (fun n=>Av (n:Int)) (AR 4 v.toNat++rest) p=_;rw[(Fz 4).go (x:=v.toNat) (by show v.toNat<256^4;have:=hv.2.1;omega)];show Except.ok ((v.toNat:Int),rest,_)=_;rw[Int.toNat_of_nonneg hv.1];rfl
  .obtain⟨n,m,k,e1,e2,e3,e4,e5⟩:=(Fz 4).open hb hh;have e3':n<256^4:=e3;have e5':Except.ok ((n:Int),m,k)=Except.ok (x,l',p'):=e5;simp only[Except.ok.injEq,Prod.mk.injEq]at e5';obtain⟨rfl,rfl,rfl⟩:=e5';exact⟨by show l=AR 4 (n:Int).toNat++m;rw[Int.toNat_natCast];exact e1,by show k=p+(AR 4 (n:Int).toNat).length;rw[Int.toNat_natCast];exact e2,oM,oM,fun h=>absurd rfl h⟩
 .refine⟨fun v hv rest p=>?_,fun l p x l' p' hb hh=>?_⟩
  .have:=hv.2.2 q;subst this;unfold FI Eg;rw[if_neg q,if_neg q];rfl
  .unfold Eg at hh;rw[if_neg q]at hh;have e5':Except.ok ((0:Int),l,p)=Except.ok (x,l',p'):=hh;simp only[Except.ok.injEq,Prod.mk.injEq]at e5';obtain⟨rfl,rfl,rfl⟩:=e5';unfold FI;rw[if_neg q];exact⟨rfl,rfl,oM,oM,fun _=>rfl⟩
def Ng(op:Nat):Bool:=decide ((Ac (op:Int)).d≠0)
def LL(op:Nat):Bool:=decide ((Ac (op:Int)).a≠0)
def Ln(op:Nat):Bool:=decide ((Ac (op:Int)).b≠0)
def LM(op:Nat):Bool:=decide ((Ac (op:Int)).c≠0)
def GC(op:Nat):Bool:=decide ((Ac (op:Int)).n≠0/\(Ac (op:Int)).n≠7)
def BO(i:AB):List Nat:=[i.op.toNat]++(Cw (Ng i.op.toNat) i.d++(Cw (LL i.op.toNat) i.a++(Cw (Ln i.op.toNat) i.b++(Cw (LM i.op.toNat) i.c++(Cw (GC i.op.toNat) i.n++FI i.op.toNat i.bits)))))
def DQ:Pz AB:=Ab (B9 1 37) fun op=>Ab (Cq (Ng op)) fun d=>Ab (Cq (LL op)) fun a=>Ab (Cq (Ln op)) fun b=>Ab (Cq (LM op)) fun c=>Ab (Cq (GC op)) fun n=>Ab (Eg op) fun z=>Av (⟨(op:Int),d,a,b,c,n,z⟩:AB)
def Pl(b:Bool)(v:Int):Prop:=0<=v/\v<2^63/\(b=false->v=0)
def Dw(i:AB):Prop:=1<=i.op/\i.op<=37/\Pl (Ng i.op.toNat) i.d/\Pl (LL i.op.toNat) i.a/\Pl (Ln i.op.toNat) i.b/\Pl (LM i.op.toNat) i.c/\Pl (GC i.op.toNat) i.n/\0<=i.bits/\i.bits<2^32/\(i.op.toNat≠1->i.bits=0)
theorem MP:Rt BO DQ Dw:=by
 refine⟨fun s hs rest p=>?_,fun l p x l' p' hb hh=>?_⟩
 .obtain⟨op,d,a,b,c,n,z⟩:=s;obtain⟨h1,h2,h3,h4,h5,h6,h7,h8,h9,h10⟩:=hs;have b1:1<=op:=h1;have b2:op<=37:=h2;unfold BO DQ;simp only[List.append_assoc];rw[(DK 1 37).go (x:=op.toNat) (by show 1<=op.toNat/\op.toNat<=37;omega),(C7 _).go h3,(C7 _).go h4,(C7 _).go h5,(C7 _).go h6,(C7 _).go h7,(MO _).go ⟨h8,h9,h10⟩];show Except.ok ((⟨(op.toNat:Int),d,a,b,c,n,z⟩:AB),rest,_)=_;rw[Int.toNat_of_nonneg oM];simp only[List.length_append,Nat.add_assoc]
 .obtain⟨op,m1,j1,e1,e2,e3,e4,e5⟩:=(DK 1 37).open hb hh;obtain⟨d,m2,j2,f1,f2,f3,f4,f5⟩:=(C7 _).open e4 e5;obtain⟨a,m3,j3,g1,g2,g3,g4,g5⟩:=(C7 _).open f4 f5;obtain⟨b,m4,j4,h1,h2,h3,h4,h5⟩:=(C7 _).open g4 g5;obtain⟨c,m5,j5,i1,i2,i3,i4,i5⟩:=(C7 _).open h4 h5;obtain⟨n,m6,j6,k1,k2,k3,k4,k5⟩:=(C7 _).open i4 i5;obtain⟨z,m7,j7,n1,n2,n3,n4,n5⟩:=(MO _).open k4 k5;have n5':Except.ok ((⟨(op:Int),d,a,b,c,n,z⟩:AB),m7,j7)=Except.ok (x,l',p'):=n5;simp only[Except.ok.injEq,Prod.mk.injEq]at n5';obtain⟨rfl,rfl,rfl⟩:=n5';refine⟨?_,?_,?_⟩
  .unfold BO;simp only[Int.toNat_natCast,List.append_assoc];rw[e1,f1,g1,h1,i1,k1,n1]
  .unfold BO;simp only[Int.toNat_natCast,List.length_append];rw[n2,k2,i2,h2,g2,f2,e2];omega
  .unfold Dw;simp only[Int.toNat_natCast];exact⟨oM,oM,f3,g3,h3,i3,k3,n3.1,n3.2.1,n3.2.2⟩
def By(c:Cd):List Nat:=AV Bv c.sign++(AV Dk c.regs++(AV Di c.slots++AV BO c.list))
def Ft:Pz Cd:=Ab (Bq 64 E0) fun s=>Ab (Bq 16384 GD) fun r=>Ab (Bq 4096 It) fun t=>Ab (Bq 32768 DQ) fun l=>Av (⟨s,r,t,l⟩:Cd)
def BP(c:Cd):Prop:=(c.sign.length<=64/\∀x∈c.sign,Ed x)/\(c.regs.length<=16384/\∀x∈c.regs,FO x)/\(c.slots.length<=4096/\∀x∈c.slots,H9 x)/\(c.list.length<=32768/\∀x∈c.list,Dw x)
theorem Gw:Rt By Ft BP:=by
 refine⟨fun c hc rest p=>?_,fun l p x l' p' hb hh=>?_⟩
 .obtain⟨s,r,t,l⟩:=c;unfold By Ft;simp only[List.append_assoc];rw[(Dz MR dE).go (x:=s) hc.1,(Dz JL dE).go (x:=r) hc.2.1,(Dz Ox dE).go (x:=t) hc.2.2.1,(Dz MP dE).go (x:=l) hc.2.2.2];show Except.ok ((⟨s,r,t,l⟩:Cd),rest,_)=_;simp only[List.length_append,Nat.add_assoc]
 .obtain⟨s,m1,j1,e1,e2,e3,e4,e5⟩:=(Dz MR dE).open hb hh;obtain⟨r,m2,j2,f1,f2,f3,f4,f5⟩:=(Dz JL dE).open e4 e5;obtain⟨t,m3,j3,g1,g2,g3,g4,g5⟩:=(Dz Ox dE).open f4 f5;obtain⟨i,m4,j4,h1,h2,h3,h4,h5⟩:=(Dz MP dE).open g4 g5;have h5':Except.ok ((⟨s,r,t,i⟩:Cd),m4,j4)=Except.ok (x,l',p'):=h5;simp only[Except.ok.injEq,Prod.mk.injEq]at h5';obtain⟨rfl,rfl,rfl⟩:=h5';refine⟨?_,?_,e3,f3,g3,h3⟩
  .unfold By;simp only[List.append_assoc];rw[e1,f1,g1,h1]
  .unfold By;simp only[List.length_append];rw[h2,g2,f2,e2];omega
def Kk:List Nat:=[108,116,104,49]
def AX(c:Cd):List Nat:=Kk++By c
def Bw(c:Cd):List Nat:=AX c++AR 8 (Fc (AX c))
def DV(s:List Nat):Except (Int×Nat) Cd:=
 if s.take (min s.length 4)≠Kk.take (min s.length 4)then .error (240,0)
 else if s.length<4 then .error (242,0)
 else match Ft (s.drop 4) 4 with
  | .error e=>.error e
  | .ok (c,l,p)=>
   if l.length<8 then .error (242,p)
   else if BF (l.take 8)≠Fc (s.take p)then .error (241,p)
   else if 8<l.length then .error (244,p+8)
   else if(AC c).1≠0 then .error ((AC c).1,0)
   else .ok c
theorem I1{l:List Nat}(h:∀b∈l,b<256):Fc l<256^8:=by
 have h1:Ht IW l<2^64:=I2 l Qk h;unfold Fc;exact Nat.lt_of_lt_of_eq (Nat.xor_lt_two_pow (n:=64) Qk h1) dE
theorem Lv{c:Cd}(hc:BP c)(hb:∀b∈AX c,b<256)(rest:List Nat):DV (Bw c++rest)=if rest≠[] then .error (244,(Bw c).length)else if(AC c).1≠0 then .error ((AC c).1,0)else .ok c:=by
 have hlen:(Bw c++rest).length=4+(By c).length+8+rest.length:=by
  unfold Bw AX;simp only[List.length_append,AS];rfl
 have ht:(Bw c++rest).take 4=Kk:=by
  unfold Bw AX;simp only[List.append_assoc];rw[List.take_append_of_le_length dE];rfl
 have hd:(Bw c++rest).drop 4=By c++(AR 8 (Fc (AX c))++rest):=by
  unfold Bw AX;simp only[List.append_assoc];rw[List.drop_append_of_le_length dE];rfl
 have hm:min (Bw c++rest).length 4=4:=oM;unfold DV;rw[hm,ht,if_neg (by simp[Kk]),if_neg oM,hd,Gw.fw c hc];simp only;have h8:(AR 8 (Fc (AX c))++rest).length=8+rest.length:=by rw[List.length_append,AS]
 have hp:(Bw c++rest).take (4+(By c).length)=AX c:=by
  unfold Bw;rw[List.append_assoc,List.take_append_of_le_length Qf,List.take_of_length_le Qf]
 have hl8:(AR 8 (Fc (AX c))++rest).take 8=AR 8 (Fc (AX c)):=by
  rw[List.take_append_of_le_length Ph,List.take_of_length_le Ph]
 rw[if_neg oM,hl8,Ew 8 _ (I1 hb),hp,if_neg sM,h8];have he:(Bw c).length=4+(By c).length+8:=by
  unfold Bw AX;simp only[List.length_append,AS];rfl
 cases rest with
 |nil=>rw[if_neg (show¬8<8+([]:List Nat).length by simp),if_neg (show¬ (([]:List Nat)≠[]) by simp)]
 |cons a r=>rw[if_pos sM,if_pos sM,he]
theorem OL{s:List Nat}{c:Cd}(hb:∀b∈s,b<256)(h:DV s=.ok c):s=Bw c/\BP c/\(AC c).1=0/\BF (AR 8 (Fc (AX c)))=Fc (AX c):=by
 unfold DV at h;split at h
 .cases h
 .rename_i h1;split at h
  .cases h
  .rename_i h2;split at h
   .cases h
   .rename_i d l p hp;obtain⟨e1,e2,e3⟩:=Gw.bw (s.drop 4) 4 d l p (fun b hx=>hb b (List.mem_of_mem_drop hx)) hp;split at h
    .cases h
    .rename_i h3;split at h
     .cases h
     .rename_i h4;split at h
      .cases h
      .rename_i h5;split at h
       .cases h
       .rename_i h6;simp only[Except.ok.injEq]at h;subst h;have hm:min s.length 4=4:=oM;rw[hm]at h1;have ht:s.take 4=Kk:=by
         have h1':s.take 4=Kk.take 4:=by simpa using h1
         rw[h1'];rfl
        have hl:l.length=8:=oM;have hs:s=AX d++l:=by
         unfold AX;rw[<-ht,List.append_assoc,<-e1,List.take_append_drop]
        have hpp:s.take p=AX d:=by
         rw[hs,e2,List.take_append_of_le_length Qf,List.take_of_length_le Qf]
        have h4':BF l=Fc (AX d):=by
         have h9:BF (l.take 8)=Fc (s.take p):=by simpa using h4
         rw[List.take_of_length_le oM,hpp]at h9;exact h9
        have hlb:∀b∈l,b<256:=fun b hx=>hb b (by rw[hs];exact List.mem_append.2 (.inr hx));have e8:=Ev l hlb;rw[hl,h4']at e8;refine⟨?_,e3,by simpa using h6,by rw[e8];exact h4'⟩;unfold Bw;rw[e8];exact hs
theorem P5{p:Bd}(h:Bp p=true):Ed p:=by
 unfold Bp B2 at h;simp only[Bool.and_eq_true,Bool.or_eq_true,decide_eq_true_eq,beq_iff_eq]at h;obtain⟨⟨⟨⟨h1,h2⟩,h3⟩,h4⟩,h5,h6⟩:=h;exact⟨oM,oM,h2,oM,oM⟩
theorem Ou{t:Ty}{n:Nat}(hn:n<=64)(h:Ay t n=true):FO t:=by
 unfold Ay at h;split at h
 .rename_i q;have h':t.par=0:=by simpa using h
  exact⟨oM,oM,oM,oM,fun _=>h'⟩
 .split at h
  .rename_i q;unfold Aj at h;simp only[Bool.and_eq_true,decide_eq_true_eq]at h;exact⟨oM,oM,oM,oM,fun r=>absurd q r⟩
  .cases h
theorem PK{s:Sl}{n:Nat}(hn:n<=64)(hb:0<=s.bits/\s.bits<4294967296)(h:AY s n=true):H9 s:=by
 unfold AY at h;simp only[Bool.and_eq_true]at h;have ht:=Ou hn h.1;have hs:=h.2;unfold DT at hs;split at hs
 .rename_i q;unfold BQ at hs;simp only[Bool.and_eq_true,decide_eq_true_eq,beq_iff_eq]at hs;exact⟨ht,oM,oM,oM,oM,fun _=>hs.1,fun r=>absurd q r⟩
 .rename_i q;simp only[Bool.and_eq_true,beq_iff_eq]at hs;exact⟨ht,oM,oM,oM,oM,fun r=>absurd r q,fun _=>hs.1⟩
theorem Gi{rs:List Ty}{l v:Int}{m:Ty}(hr:rs.length<=16384)(h:Ag rs l v m=true):Pl (decide (l≠0)) v:=by
 unfold Ag at h;by_cases q:l=0
 .rw[if_pos q]at h;have h':v=0:=by simpa using h
  exact⟨oM,oM,fun _=>h'⟩
 .rw[if_neg q]at h;unfold Aj at h;simp only[Bool.and_eq_true,decide_eq_true_eq]at h;exact⟨oM,oM,fun r=>by simp[q]at r⟩
theorem KK:∀n:Nat,n<38->1<=n->((Ac (n:Int)).n=7↔n=1):=dE
theorem P4{c:Cd}{i:AB}(hr:c.regs.length<=16384)(hs:c.slots.length<=4096)(hg:c.sign.length<=64)(hb:0<=i.bits/\i.bits<4294967296)(hk:Ax i.op=true)(hf:B5 c i (Ac i.op)=true):Dw i:=by
 unfold Ax at hk;simp only[Bool.and_eq_true,decide_eq_true_eq]at hk;unfold B5 at hf;simp only[Bool.and_eq_true]at hf;obtain⟨f1,f2,f3,f4,f5⟩:=hf;have e:((i.op.toNat:Nat):Int)=i.op:=Int.toNat_of_nonneg oM;have h7:=KK i.op.toNat oM oM;rw[e]at h7;unfold Dw Ng LL Ln LM GC;rw[e];refine⟨hk.1,hk.2,Gi hr f1,Gi hr f2,Gi hr f3,Gi hr f4,?_,oM,oM,fun q=>?_⟩
 .unfold Bz at f5;by_cases q:(Ac i.op).n=7
  .rw[if_pos q]at f5;simp only[Bool.and_eq_true,beq_iff_eq]at f5;exact⟨oM,oM,fun _=>f5.1⟩
  .rw[if_neg q]at f5;simp only[Bool.and_eq_true,beq_iff_eq]at f5;have g:=f5.2;unfold G1 at g;by_cases q8:(Ac i.op).n=8
   .rw[if_pos q8]at g;unfold BQ at g;simp only[Bool.and_eq_true,decide_eq_true_eq]at g;exact⟨oM,oM,fun r=>by simp[q8]at r⟩
   .rw[if_neg q8]at g;by_cases q9:(Ac i.op).n=9
    .rw[if_pos q9]at g;simp only[Bool.or_eq_true,Bool.and_eq_true,beq_iff_eq]at g;exact⟨oM,oM,fun r=>by simp[q9]at r⟩
    .rw[if_neg q9]at g;by_cases qa:(Ac i.op).n=10
     .rw[if_pos qa]at g;unfold Aj at g;simp only[Bool.and_eq_true,decide_eq_true_eq]at g;exact⟨oM,oM,fun r=>by simp[qa]at r⟩
     .rw[if_neg qa]at g;by_cases qb:(Ac i.op).n=11
      .rw[if_pos qb]at g;unfold Aj at g;simp only[Bool.and_eq_true,decide_eq_true_eq]at g;exact⟨oM,oM,fun r=>by simp[qb]at r⟩
      .rw[if_neg qb]at g;have g':i.n=0:=by simpa using g
       exact⟨oM,oM,fun _=>g'⟩
 .unfold Bz at f5;rw[if_neg (fun r=>q (h7.1 r))]at f5;simp only[Bool.and_eq_true,beq_iff_eq]at f5;exact f5.1
theorem CL(b:Bool)(v:Int):∀x∈Cw b v,x<256:=fun x hx=>by
 unfold Cw at hx;split at hx
 .exact F0 _ x hx
 .cases hx
theorem EU{α:Type}{e:α->List Nat}{l:List α}(h:∀a∈l,∀x∈e a,x<256):∀x∈AV e l,x<256:=fun x hx=>by
 unfold AV at hx;rcases List.mem_append.1 hx with q|q
 .exact F0 _ x q
 .obtain⟨a,ha,hq⟩:=List.mem_flatMap.1 q;exact h a ha x hq
theorem Nw{p:Bd}(h:Ed p):∀x∈Bv p,x<256:=fun x hx=>by
 unfold Bv Ff at hx;simp only[List.mem_append,List.mem_singleton]at hx;obtain⟨h1,h2,-⟩:=h;rcases hx with q|(q|q)|q
 .omega
 .exact F0 _ x q
 .exact C8 _ x q
 .exact CL _ _ x q
theorem Lw{t:Ty}(h:FO t):∀x∈Dk t,x<256:=fun x hx=>by
 unfold Dk at hx;simp only[List.mem_append,List.mem_singleton]at hx;obtain⟨h1,h2,-⟩:=h;rcases hx with q|q
 .omega
 .exact CL _ _ x q
theorem OM{s:Sl}(h:H9 s):∀x∈Di s,x<256:=fun x hx=>by
 unfold Di at hx;simp only[List.mem_append,List.mem_singleton]at hx;rcases hx with q|q|q
 .split at q<;>omega
 .exact Lw h.1 x q
 .split at q
  .exact F0 _ x q
  .exact CO _ _ x q
theorem Nv{i:AB}(h:Dw i):∀x∈BO i,x<256:=fun x hx=>by
 unfold BO at hx;simp only[List.mem_append,List.mem_singleton]at hx;obtain⟨h1,h2,-⟩:=h;rcases hx with q|q|q|q|q|q|q
 .omega
 .exact CL _ _ x q
 .exact CL _ _ x q
 .exact CL _ _ x q
 .exact CL _ _ x q
 .exact CL _ _ x q
 .unfold FI at q;split at q
  .exact CO _ _ x q
  .cases q
theorem Gd{c:Cd}(h:BP c):∀x∈AX c,x<256:=fun x hx=>by
 unfold AX By at hx;simp only[List.mem_append]at hx;rcases hx with q|q|q|q|q
 .unfold Kk at q;simp only[List.mem_cons,List.not_mem_nil,or_false]at q;omega
 .exact EU (fun a ha=>Nw (h.1.2 a ha)) x q
 .exact EU (fun a ha=>Lw (h.2.1.2 a ha)) x q
 .exact EU (fun a ha=>OM (h.2.2.1.2 a ha)) x q
 .exact EU (fun a ha=>Nv (h.2.2.2.2 a ha)) x q
theorem I3{c:Cd}(h:BP c):∀x∈Bw c,x<256:=fun x hx=>by
 unfold Bw at hx;rcases List.mem_append.1 hx with q|q
 .exact Gd h x q
 .exact CO _ _ x q
theorem Lu{c:Cd}(h:BP c)(hc:(AC c).1=0):DV (Bw c)=.ok c:=by
 have h9:=Lv h (Gd h) [];rw[List.append_nil,if_neg sM,if_neg (by simpa using hc)]at h9;exact h9
theorem ED{c:Cd}:∀ (l:List AB) (x:Wk),E5 c x l=true->∀i∈l,Ax i.op=true/\B5 c i (Ac i.op)=true
 |[],x,_,i,hi=>by cases hi
 |a::l,x,h,i,hi=>by
  have h':(Bb c x a&&E5 c (AD x a) l)=true:=h;simp only[Bool.and_eq_true]at h';rcases List.mem_cons.1 hi with e|e
  .subst e;obtain⟨k1,k2,-,-⟩:=Dc h'.1;exact⟨k1,k2⟩
  .exact ED l _ h'.2 i e
theorem Fa{c:Cd}(hsb:∀s∈c.slots,0<=s.bits/\s.bits<4294967296)(hib:∀i∈c.list,0<=i.bits/\i.bits<4294967296)(hc:(AC c).1=0):BP c:=by
 obtain⟨h1,h2,-⟩:=JU.1 hc;unfold BJ at h1;by_cases e1:AN c.sign=0
 .rw[if_neg (by simp[e1])]at h1;by_cases e2:16384<c.regs.length\/32768<c.list.length
  .rw[if_pos e2]at h1;cases h1
  .rw[if_neg e2]at h1;by_cases e3:4096<c.slots.length
   .rw[if_pos e3]at h1;cases h1
   .rw[if_neg e3]at h1;by_cases e4:(Al c&&Bf c)=true
    .simp only[Bool.and_eq_true]at e4;have hg:=JV e1;have hty:∀t∈c.regs,Ay t c.sign.length=true:=List.all_eq_true.1 e4.1;have hsl:∀s∈c.slots,AY s c.sign.length=true:=List.all_eq_true.1 e4.2;exact⟨⟨hg,fun p hp=>P5 (JW e1 p hp)⟩,⟨oM,fun t ht=>Ou hg (hty t ht)⟩,⟨oM,fun s hs=>PK hg (hsb s hs) (hsl s hs)⟩,⟨oM,fun i hi=>P4 oM oM hg (hib i hi) (ED _ _ h2 i hi).1 (ED _ _ h2 i hi).2⟩⟩
    .rw[if_neg e4]at h1;cases h1
 .rw[if_pos e1]at h1;exact absurd h1 e1
theorem JS{x y:Nat}(hx:x<2^64)(hy:y<2^64):bits .xor .u64 (x:Int) (y:Int)=((x^^^y:Nat):Int):=by
 have h:(BitVec.ofInt 64 (x:Int)^^^BitVec.ofInt 64 (y:Int)).toNat=x^^^y:=by
  rw[BitVec.toNat_xor];simp only[BitVec.ofInt_natCast,BitVec.toNat_ofNat];rw[Nat.mod_eq_of_lt hx,Nat.mod_eq_of_lt hy]
 have h2:x^^^y<2^64:=Nat.xor_lt_two_pow hx hy;show IntKind.u64.wrap (((BitVec.ofInt 64 (x:Int)^^^BitVec.ofInt 64 (y:Int)).toNat:Nat):Int)=_;exact QG
theorem QK{x:Nat}(hx:x<2^64):bits .and .u64 (x:Int) 1=((x%2:Nat):Int):=by
 have h:(BitVec.ofInt 64 (x:Int)&&& BitVec.ofInt 64 1).toNat=x%2:=by
  rw[BitVec.toNat_and,show BitVec.ofInt 64 1=BitVec.ofNat 64 1 from rfl];simp only[BitVec.ofInt_natCast,BitVec.toNat_ofNat];rw[Nat.mod_eq_of_lt hx,show 1%2^64=1 by decide,Nat.and_one_is_mod]
 show IntKind.u64.wrap (((BitVec.ofInt 64 (x:Int)&&& BitVec.ofInt 64 1).toNat:Nat):Int)=_;exact QG
theorem Pe{C:Nat}(hn:C<2^64):bits .xor .u64 ((C:Int)/2) (IntKind.u64.wrap (bits .and .u64 (C:Int) 1*14514072000185962306))=((IX C:Nat):Int):=by
 rw[QK hn,show((C:Int)/2)=((C/2:Nat):Int) by omega];unfold IX;rcases Nat.mod_two_eq_zero_or_one C with r|r
 .rw[r,if_neg dE,show IntKind.u64.wrap (((0:Nat):Int)*14514072000185962306)=((0:Nat):Int) by rfl];exact JS oM dE
 .rw[r,if_pos rfl,show IntKind.u64.wrap (((1:Nat):Int)*14514072000185962306)=((Pk:Nat):Int) by rfl];exact JS oM (by unfold Pk;decide)
theorem O1{a b:Int}(h:a=b):Ending.returned (.int .u64 a)=.returned (.int .u64 b):=by rw[h]
theorem PC{x:Nat}(hx:x<2^64):bits .xor .u64 IntKind.u64.max (x:Int)=((IW^^^x:Nat):Int):=by
 rw[show IntKind.u64.max=((IW:Nat):Int)from rfl];exact JS Qk hx
theorem IT{s:ByteArray}{k:Nat}(h:k<s.size):At .take (k+1)=At .take k++[s[k].toNat]:=by
 have hl:k<At .length:=by rw[Ar];exact h
 rw[List.take_succ_eq_append_getElem hl];congr 2;show(s.data.toList.map UInt8.toNat)[k]'(by rw[List.length_map,Array.length_toList];exact h)=_;rw[List.getElem_map];rfl
theorem GS(c:Nat)(l:List Nat)(b:Nat):Ht c (l++[b])=Nf 8 (Ht c l^^^b):=by rw[Ns];rfl
theorem Fb:∀ (n c:Nat),Nf (n+1) c=IX (Nf n c)
 |0,c=>rfl
 |n+1,c=>Fb n (IX c)
theorem JN(s:ByteArray)(k:Nat):Ht IW (At .take k)<2^64:=I2 _ Qk (fun b hb=>C8 s b (List.mem_of_mem_take hb))
theorem DU(s:ByteArray)(hs:s.size<=140737488355328)(w:World):
 Calls prog 19 #[.string s] w fun e w'=>e=.returned (.int .u64 ((Fc At:Nat):Int))/\w'=w:=by
 obtain⟨N,hN⟩:=gA (s.size)
 go_enter func19,ntmps19;go_upto_block 0 with fail;go_wp2_with fail
 go_loopw [3,7] (fun cv iv wx=>wx=w/\∃k:Nat,k<=N/\iv=.int .i64 (k:Int)/\cv=.int .u64 ((Ht IW (At .take k):Nat):Int)) (fun _ iv _=>N-(intOf iv).toNat)
 case atStart=>exact⟨rfl,0,gI _,rfl,rfl⟩
 case round=>
  obtain⟨rfl,k,hk,rfl,rfl⟩:=hrel;have hc:=JN s k;by_cases hlt:k<N
  .have hks:k<s.size:=oM;have hmo:=IT hks;have hcm:=GS IW (At .take k) s[k].toNat;rw[<-hmo]at hcm;obtain⟨X,hX⟩:=gA (Ht IW (At .take k))
   rw[hX]at hc hcm;obtain⟨B,hB⟩:=gA (s[k].toNat)
   have hb:B<256:=by rw[<-hB];exact s[k].toNat_lt
   rw[hB]at hcm;have i1:(0:Int)<=(k:Int):=oM;have i2:(k:Int)<(N:Int):=oM;have wi:IntKind.i64.wrap ((k:Int)+1)=((k+1:Nat):Int):=by rw[IntKind.wrap_i64];omega
   have hxb:=JS hc (show B<2^64 by omega);have hY:X^^^B<2^64:=Nat.xor_lt_two_pow hc oM;obtain⟨Y,hYe⟩:=gA (X^^^B)
   rw[hYe]at hcm hxb hY;clear hmo hYe;go_upto_block 2 with fail;clear hX hB;go_wp2_with fail
   go_loopw [3,16] (fun cv iv wx=>wx=wr/\∃j:Nat,j<=8/\iv=.int .i64 (j:Int)/\cv=.int .u64 ((Nf j Y:Nat):Int)) (fun _ iv _=>8-(intOf iv).toNat)
   case atStart=>exact⟨rfl,0,oM,rfl,rfl⟩
   case round=>
    obtain⟨rfl,j,hj,rfl,rfl⟩:=hrel;have hn:=Gg j hY;have hm:=Fb j Y;have hst:=Pe hn;by_cases hl:j<8
    .have q2:(j:Int)<8:=oM;have wj:IntKind.i64.wrap ((j:Int)+1)=((j+1:Nat):Int):=by rw[IntKind.wrap_i64];omega
     rw[<-hm]at hst;clear hm hn hcm;go_wp2;go_roundw
     case rel=>exact⟨by trivial,j+1,oM,gN,rfl⟩
     case measure=>simp[intOf];omega
    .have q2:¬ (j:Int)<8:=oM;obtain rfl:j=8:=oM;have HCM:Hid _:=hcm;clear hst hm hn hcm hl;go_wp2;go_roundw
     case rel=>exact⟨by trivial,k+1,oM,gN,by rw[HCM.out]⟩
     case measure=>simp[intOf];omega
  .exact Ra
theorem IE(s:ByteArray)(hs:s.size<=140737488355328)(w:World):
 Calls prog 24 #[.string s] w fun e w'=>e=.returned (.int .u64 ((Fc At:Nat):Int))/\w'=w:=by
 obtain⟨N,hN⟩:=gA (s.size)
 go_enter func24,ntmps24;go_upto_block 0 with fail;go_wp2_with fail
 go_loopw [3,4] (fun cv iv wx=>wx=w/\∃k:Nat,k<=N/\iv=.int .i64 (k:Int)/\cv=.int .u64 ((Ht IW (At .take k):Nat):Int)) (fun _ iv _=>N-(intOf iv).toNat)
 case atStart=>exact⟨rfl,0,gI _,rfl,rfl⟩
 case round=>
  obtain⟨rfl,k,hk,rfl,rfl⟩:=hrel;have hc:=JN s k;by_cases hlt:k<N
  .have hks:k<s.size:=oM;have hmo:=IT hks;have hcm:=GS IW (At .take k) s[k].toNat;rw[<-hmo]at hcm;obtain⟨X,hX⟩:=gA (Ht IW (At .take k))
   rw[hX]at hc hcm;obtain⟨B,hB⟩:=gA (s[k].toNat)
   have hb:B<256:=by rw[<-hB];exact s[k].toNat_lt
   rw[hB]at hcm;have i1:(0:Int)<=(k:Int):=oM;have i2:(k:Int)<(N:Int):=oM;have wi:IntKind.i64.wrap ((k:Int)+1)=((k+1:Nat):Int):=by rw[IntKind.wrap_i64];omega
   have hxb:=JS hc (show B<2^64 by omega);have hY:X^^^B<2^64:=Nat.xor_lt_two_pow hc oM;obtain⟨Y,hYe⟩:=gA (X^^^B)
   rw[hYe]at hcm hxb hY;clear hmo hYe;go_upto_block 2 with fail;clear hX hB;go_wp2_with fail
   go_loopw [3,5] (fun cv iv wx=>wx=wr/\∃j:Nat,j<=8/\iv=.int .i64 (j:Int)/\cv=.int .u64 ((Nf j Y:Nat):Int)) (fun _ iv _=>8-(intOf iv).toNat)
   case atStart=>exact⟨rfl,0,oM,rfl,rfl⟩
   case round=>
    obtain⟨rfl,j,hj,rfl,rfl⟩:=hrel;have hn:=Gg j hY;have hm:=Fb j Y;by_cases hl:j<8
    .have q2:(j:Int)<8:=oM;have wj:IntKind.i64.wrap ((j:Int)+1)=((j+1:Nat):Int):=by rw[IntKind.wrap_i64];omega
     obtain⟨C,hC⟩:=gA (Nf j Y)
     rw[hC]at hn hm;have hx1:=JS (show C/2<2^64 by omega) (show Pk<2^64 by unfold Pk;decide);have HM:=show Hid (Nf (j+1) Y=IX C)from hm;clear hcm hm;rcases Nat.mod_two_eq_zero_or_one C with r|r
     .have r1:((C:Int)%2==1)=false:=by rw[show(C:Int)%2=0 by omega];rfl
      have HT:Hid (((C:Int)/2)=((IX C:Nat):Int)):=by
       show((C:Int)/2)=((IX C:Nat):Int);unfold IX;rw[if_neg oM,Nat.xor_zero];omega
      clear hn;exact Rv
     .have r1:((C:Int)%2==1)=true:=by rw[show(C:Int)%2=1 by omega];rfl
      have HT:Hid (bits .xor .u64 ((C:Int)/2) 14514072000185962306=((IX C:Nat):Int)):=by
       show bits .xor .u64 ((C:Int)/2) 14514072000185962306=((IX C:Nat):Int);unfold IX;rw[if_pos r,show((C:Int)/2)=((C/2:Nat):Int) by omega];exact hx1
      clear hn hx1;exact Rv
    .have q2:¬ (j:Int)<8:=oM;obtain rfl:j=8:=oM;have HCM:Hid _:=hcm;clear hm hn hcm hl;go_wp2;go_roundw
     case rel=>exact⟨by trivial,k+1,oM,gN,by rw[HCM.out]⟩
     case measure=>simp[intOf];omega
  .exact Ra
end Go.Proofs.YtnlgkkbmbijndaaGreat
