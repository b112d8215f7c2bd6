import Derived.Test.YtnlgkkbmbijndaaGreatEnco9
import Derived.Test.YtnlgkkbmbijndaaGreatEnco10
import Derived.Test.YtnlgkkbmbijndaaGreatEnco8
import Derived.Test.YtnlgkkbmbijndaaGreatEnco11
import Derived.Test.YtnlgkkbmbijndaaGreatEnco2
import Derived.Test.YtnlgkkbmbijndaaGreatRows
import Derived.Test.YtnlgkkbmbijndaaGreatEnco1
import Derived.Deep.DeepCutAuto
import Derived.Deep.CutBlock
namespace Go.Proofs.YtnlgkkbmbijndaaGreat
open Go.RowKit Go.Proofs.Tryz
set_option linter.all false
set_option maxRecDepth 100000
set_option maxHeartbeats 16000000
theorem IP(op:Int)(h:Ax op=false)(w:World):Calls prog 74 #[.int .i64 op] w fun e w'=>e=.returned (.tuple #[C8 ⟨0,0,0,0,0⟩,.bool false])/\Below w.heap.size w w':=by
 have hh:op<1\/37<op:=by unfold Ax at h;simp at h;omega
 have e1:(op==1)=false:=by have:op≠1:=oM;simpa using this
 have e2:(op==2)=false:=by have:op≠2:=oM;simpa using this
 have e3:(op==3)=false:=by have:op≠3:=oM;simpa using this
 have e4:(op==4)=false:=by have:op≠4:=oM;simpa using this
 have e5:(op==5)=false:=by have:op≠5:=oM;simpa using this
 have e6:(op==6)=false:=by have:op≠6:=oM;simpa using this
 have e7:(op==7)=false:=by have:op≠7:=oM;simpa using this
 have e8:(op==8)=false:=by have:op≠8:=oM;simpa using this
 have e9:(op==9)=false:=by have:op≠9:=oM;simpa using this
 have e10:(op==10)=false:=by have:op≠10:=oM;simpa using this
 have e11:(op==11)=false:=by have:op≠11:=oM;simpa using this
 have e12:(op==12)=false:=by have:op≠12:=oM;simpa using this
 have e13:(op==13)=false:=by have:op≠13:=oM;simpa using this
 have e14:(op==14)=false:=by have:op≠14:=oM;simpa using this
 have e15:(op==15)=false:=by have:op≠15:=oM;simpa using this
 have e16:(op==16)=false:=by have:op≠16:=oM;simpa using this
 have e17:(op==17)=false:=by have:op≠17:=oM;simpa using this
 have e18:(op==18)=false:=by have:op≠18:=oM;simpa using this
 have e19:(op==19)=false:=by have:op≠19:=oM;simpa using this
 have e20:(op==20)=false:=by have:op≠20:=oM;simpa using this
 have e21:(op==21)=false:=by have:op≠21:=oM;simpa using this
 have e22:(op==22)=false:=by have:op≠22:=oM;simpa using this
 have e23:(op==23)=false:=by have:op≠23:=oM;simpa using this
 have e24:(op==24)=false:=by have:op≠24:=oM;simpa using this
 have e25:(op==25)=false:=by have:op≠25:=oM;simpa using this
 have e26:(op==26)=false:=by have:op≠26:=oM;simpa using this
 have e27:(op==27)=false:=by have:op≠27:=oM;simpa using this
 have e28:(op==28)=false:=by have:op≠28:=oM;simpa using this
 have e29:(op==29)=false:=by have:op≠29:=oM;simpa using this
 have e30:(op==30)=false:=by have:op≠30:=oM;simpa using this
 have e31:(op==31)=false:=by have:op≠31:=oM;simpa using this
 have e32:(op==32)=false:=by have:op≠32:=oM;simpa using this
 have e33:(op==33)=false:=by have:op≠33:=oM;simpa using this
 have e34:(op==34)=false:=by have:op≠34:=oM;simpa using this
 have e35:(op==35)=false:=by have:op≠35:=oM;simpa using this
 have e36:(op==36)=false:=by have:op≠36:=oM;simpa using this
 have e37:(op==37)=false:=by have:op≠37:=oM;simpa using this
 clear hh h;exact Dh
theorem Eo(op:Int)(h:Ax op=false):Ad op=⟨0,0,0,0,0⟩:=by
 have hh:op<1\/37<op:=by unfold Ax at h;simp at h;omega
 unfold Ad
 repeat rw[if_neg oM]
theorem EF(op:Int)(w:World):Calls prog 74 #[.int .i64 op] w fun e w'=>e=.returned (.tuple #[C8 (Ad op),.bool (Ax op)])/\Below w.heap.size w w':=by
 by_cases h:Ax op=false
 .rw[h,Eo op h];exact IP op h w
 .have hh:1<=op/\op<=37:=by unfold Ax at h;simp at h;omega
  rw[show Ax op=true by simpa using h];clear h;by_cases k1:op=1
  .subst k1;exact Oc w
  by_cases k2:op=2
  .subst k2;exact Od w
  by_cases k3:op=3
  .subst k3;exact Oe w
  by_cases k4:op=4
  .subst k4;exact Of w
  by_cases k5:op=5
  .subst k5;exact Og w
  by_cases k6:op=6
  .subst k6;exact Oh w
  by_cases k7:op=7
  .subst k7;exact Oi w
  by_cases k8:op=8
  .subst k8;exact Oj w
  by_cases k9:op=9
  .subst k9;exact Ok w
  by_cases k10:op=10
  .subst k10;exact Mg w
  by_cases k11:op=11
  .subst k11;exact Mh w
  by_cases k12:op=12
  .subst k12;exact Mi w
  by_cases k13:op=13
  .subst k13;exact Mj w
  by_cases k14:op=14
  .subst k14;exact Mk w
  by_cases k15:op=15
  .subst k15;exact Ml w
  by_cases k16:op=16
  .subst k16;exact Mm w
  by_cases k17:op=17
  .subst k17;exact Mn w
  by_cases k18:op=18
  .subst k18;exact Mo w
  by_cases k19:op=19
  .subst k19;exact Mp w
  by_cases k20:op=20
  .subst k20;exact Mq w
  by_cases k21:op=21
  .subst k21;exact Mr w
  by_cases k22:op=22
  .subst k22;exact Ms w
  by_cases k23:op=23
  .subst k23;exact Mt w
  by_cases k24:op=24
  .subst k24;exact Mu w
  by_cases k25:op=25
  .subst k25;exact Mv w
  by_cases k26:op=26
  .subst k26;exact Mw w
  by_cases k27:op=27
  .subst k27;exact Mx w
  by_cases k28:op=28
  .subst k28;exact My w
  by_cases k29:op=29
  .subst k29;exact Mz w
  by_cases k30:op=30
  .subst k30;exact MA w
  by_cases k31:op=31
  .subst k31;exact MB w
  by_cases k32:op=32
  .subst k32;exact MC w
  by_cases k33:op=33
  .subst k33;exact MD w
  by_cases k34:op=34
  .subst k34;exact ME w
  by_cases k35:op=35
  .subst k35;exact MF w
  by_cases k36:op=36
  .subst k36;exact MG w
  by_cases k37:op=37
  .subst k37;exact MH w
  omega
theorem Gi(op:Int)(h:Ax op=false)(w:World):Calls prog 48 #[.int .i64 op] w fun e w'=>e=.returned (.tuple #[.string ⟨#[]⟩,.bool false])/\w'=w:=by
 have hh:op<1\/37<op:=by unfold Ax at h;simp at h;omega
 have e1:(op==1)=false:=by have:op≠1:=oM;simpa using this
 have e2:(op==2)=false:=by have:op≠2:=oM;simpa using this
 have e3:(op==3)=false:=by have:op≠3:=oM;simpa using this
 have e4:(op==4)=false:=by have:op≠4:=oM;simpa using this
 have e5:(op==5)=false:=by have:op≠5:=oM;simpa using this
 have e6:(op==6)=false:=by have:op≠6:=oM;simpa using this
 have e7:(op==7)=false:=by have:op≠7:=oM;simpa using this
 have e8:(op==8)=false:=by have:op≠8:=oM;simpa using this
 have e9:(op==9)=false:=by have:op≠9:=oM;simpa using this
 have e10:(op==10)=false:=by have:op≠10:=oM;simpa using this
 have e11:(op==11)=false:=by have:op≠11:=oM;simpa using this
 have e12:(op==12)=false:=by have:op≠12:=oM;simpa using this
 have e13:(op==13)=false:=by have:op≠13:=oM;simpa using this
 have e14:(op==14)=false:=by have:op≠14:=oM;simpa using this
 have e15:(op==15)=false:=by have:op≠15:=oM;simpa using this
 have e16:(op==16)=false:=by have:op≠16:=oM;simpa using this
 have e17:(op==17)=false:=by have:op≠17:=oM;simpa using this
 have e18:(op==18)=false:=by have:op≠18:=oM;simpa using this
 have e19:(op==19)=false:=by have:op≠19:=oM;simpa using this
 have e20:(op==20)=false:=by have:op≠20:=oM;simpa using this
 have e21:(op==21)=false:=by have:op≠21:=oM;simpa using this
 have e22:(op==22)=false:=by have:op≠22:=oM;simpa using this
 have e23:(op==23)=false:=by have:op≠23:=oM;simpa using this
 have e24:(op==24)=false:=by have:op≠24:=oM;simpa using this
 have e25:(op==25)=false:=by have:op≠25:=oM;simpa using this
 have e26:(op==26)=false:=by have:op≠26:=oM;simpa using this
 have e27:(op==27)=false:=by have:op≠27:=oM;simpa using this
 have e28:(op==28)=false:=by have:op≠28:=oM;simpa using this
 have e29:(op==29)=false:=by have:op≠29:=oM;simpa using this
 have e30:(op==30)=false:=by have:op≠30:=oM;simpa using this
 have e31:(op==31)=false:=by have:op≠31:=oM;simpa using this
 have e32:(op==32)=false:=by have:op≠32:=oM;simpa using this
 have e33:(op==33)=false:=by have:op≠33:=oM;simpa using this
 have e34:(op==34)=false:=by have:op≠34:=oM;simpa using this
 have e35:(op==35)=false:=by have:op≠35:=oM;simpa using this
 have e36:(op==36)=false:=by have:op≠36:=oM;simpa using this
 have e37:(op==37)=false:=by have:op≠37:=oM;simpa using this
 clear hh h;exact Di
structure Nl(r:Rw)(a b c d e:UInt8):Prop where
 a:(a==45)=(r.d==0)
 b:(b==45)=(r.a==0)
 c:(c==45)=(r.b==0)
 d:(d==45)=(r.c==0)
theorem Hq(op:Int)(w:World):(Ax op=false/\Calls prog 48 #[.int .i64 op] w fun e w'=>e=.returned (.tuple #[.string ⟨#[]⟩,.bool false])/\w'=w)\/(Ax op=true/\∃a b c d e:UInt8,Nl (Ad op) a b c d e/\∀w,Calls prog 48 #[.int .i64 op] w fun x w'=>x=.returned (.tuple #[.string ⟨#[a,b,c,d,e]⟩,.bool true])/\w'=w):=by
 by_cases h:Ax op=false
 .exact .inl ⟨h,Gi op h w⟩
 .have hh:1<=op/\op<=37:=by unfold Ax at h;simp at h;omega
  refine .inr ⟨by simpa using h,?_⟩;clear h;by_cases k1:op=1
  .subst k1;exact⟨_,_,_,_,_,⟨rfl,rfl,rfl,rfl⟩,fun w=>MJ w⟩
  by_cases k2:op=2
  .subst k2;exact⟨_,_,_,_,_,⟨rfl,rfl,rfl,rfl⟩,fun w=>MK w⟩
  by_cases k3:op=3
  .subst k3;exact⟨_,_,_,_,_,⟨rfl,rfl,rfl,rfl⟩,fun w=>ML w⟩
  by_cases k4:op=4
  .subst k4;exact⟨_,_,_,_,_,⟨rfl,rfl,rfl,rfl⟩,fun w=>MM w⟩
  by_cases k5:op=5
  .subst k5;exact⟨_,_,_,_,_,⟨rfl,rfl,rfl,rfl⟩,fun w=>MN w⟩
  by_cases k6:op=6
  .subst k6;exact⟨_,_,_,_,_,⟨rfl,rfl,rfl,rfl⟩,fun w=>MO w⟩
  by_cases k7:op=7
  .subst k7;exact⟨_,_,_,_,_,⟨rfl,rfl,rfl,rfl⟩,fun w=>MP w⟩
  by_cases k8:op=8
  .subst k8;exact⟨_,_,_,_,_,⟨rfl,rfl,rfl,rfl⟩,fun w=>MQ w⟩
  by_cases k9:op=9
  .subst k9;exact⟨_,_,_,_,_,⟨rfl,rfl,rfl,rfl⟩,fun w=>MR w⟩
  by_cases k10:op=10
  .subst k10;exact⟨_,_,_,_,_,⟨rfl,rfl,rfl,rfl⟩,fun w=>Jq w⟩
  by_cases k11:op=11
  .subst k11;exact⟨_,_,_,_,_,⟨rfl,rfl,rfl,rfl⟩,fun w=>Jr w⟩
  by_cases k12:op=12
  .subst k12;exact⟨_,_,_,_,_,⟨rfl,rfl,rfl,rfl⟩,fun w=>Js w⟩
  by_cases k13:op=13
  .subst k13;exact⟨_,_,_,_,_,⟨rfl,rfl,rfl,rfl⟩,fun w=>Jt w⟩
  by_cases k14:op=14
  .subst k14;exact⟨_,_,_,_,_,⟨rfl,rfl,rfl,rfl⟩,fun w=>Ju w⟩
  by_cases k15:op=15
  .subst k15;exact⟨_,_,_,_,_,⟨rfl,rfl,rfl,rfl⟩,fun w=>Jv w⟩
  by_cases k16:op=16
  .subst k16;exact⟨_,_,_,_,_,⟨rfl,rfl,rfl,rfl⟩,fun w=>Jw w⟩
  by_cases k17:op=17
  .subst k17;exact⟨_,_,_,_,_,⟨rfl,rfl,rfl,rfl⟩,fun w=>Jx w⟩
  by_cases k18:op=18
  .subst k18;exact⟨_,_,_,_,_,⟨rfl,rfl,rfl,rfl⟩,fun w=>Jy w⟩
  by_cases k19:op=19
  .subst k19;exact⟨_,_,_,_,_,⟨rfl,rfl,rfl,rfl⟩,fun w=>Jz w⟩
  by_cases k20:op=20
  .subst k20;exact⟨_,_,_,_,_,⟨rfl,rfl,rfl,rfl⟩,fun w=>JA w⟩
  by_cases k21:op=21
  .subst k21;exact⟨_,_,_,_,_,⟨rfl,rfl,rfl,rfl⟩,fun w=>JB w⟩
  by_cases k22:op=22
  .subst k22;exact⟨_,_,_,_,_,⟨rfl,rfl,rfl,rfl⟩,fun w=>JC w⟩
  by_cases k23:op=23
  .subst k23;exact⟨_,_,_,_,_,⟨rfl,rfl,rfl,rfl⟩,fun w=>JD w⟩
  by_cases k24:op=24
  .subst k24;exact⟨_,_,_,_,_,⟨rfl,rfl,rfl,rfl⟩,fun w=>JE w⟩
  by_cases k25:op=25
  .subst k25;exact⟨_,_,_,_,_,⟨rfl,rfl,rfl,rfl⟩,fun w=>JF w⟩
  by_cases k26:op=26
  .subst k26;exact⟨_,_,_,_,_,⟨rfl,rfl,rfl,rfl⟩,fun w=>JG w⟩
  by_cases k27:op=27
  .subst k27;exact⟨_,_,_,_,_,⟨rfl,rfl,rfl,rfl⟩,fun w=>JH w⟩
  by_cases k28:op=28
  .subst k28;exact⟨_,_,_,_,_,⟨rfl,rfl,rfl,rfl⟩,fun w=>JI w⟩
  by_cases k29:op=29
  .subst k29;exact⟨_,_,_,_,_,⟨rfl,rfl,rfl,rfl⟩,fun w=>JJ w⟩
  by_cases k30:op=30
  .subst k30;exact⟨_,_,_,_,_,⟨rfl,rfl,rfl,rfl⟩,fun w=>JK w⟩
  by_cases k31:op=31
  .subst k31;exact⟨_,_,_,_,_,⟨rfl,rfl,rfl,rfl⟩,fun w=>JL w⟩
  by_cases k32:op=32
  .subst k32;exact⟨_,_,_,_,_,⟨rfl,rfl,rfl,rfl⟩,fun w=>JM w⟩
  by_cases k33:op=33
  .subst k33;exact⟨_,_,_,_,_,⟨rfl,rfl,rfl,rfl⟩,fun w=>JN w⟩
  by_cases k34:op=34
  .subst k34;exact⟨_,_,_,_,_,⟨rfl,rfl,rfl,rfl⟩,fun w=>JO w⟩
  by_cases k35:op=35
  .subst k35;exact⟨_,_,_,_,_,⟨rfl,rfl,rfl,rfl⟩,fun w=>JP w⟩
  by_cases k36:op=36
  .subst k36;exact⟨_,_,_,_,_,⟨rfl,rfl,rfl,rfl⟩,fun w=>JQ w⟩
  by_cases k37:op=37
  .subst k37;exact⟨_,_,_,_,_,⟨rfl,rfl,rfl,rfl⟩,fun w=>JR w⟩
  omega
def EB(op:Nat)(v:Int):List Nat:=if op=1 then AK 4 v.toNat else []
def EZ(op:Nat):Pz Int:=if op=1 then Ac (Cc 4) fun n=>Ay (n:Int)else Ay 0
theorem MS(op:Nat):Rt (EB op) (EZ op) (fun v=>0<=v/\v<2^32/\(op≠1->v=0)):=by
 by_cases q:op=1
 .subst q;refine⟨fun v hv rest p=>?_,fun l p x l' p' hb hh=>?_⟩
  .show Ac (Cc 4) (fun n=>Ay (n:Int)) (AK 4 v.toNat++rest) p=_;rw[(FF 4).go (x:=v.toNat) (by show v.toNat<256^4;have:=hv.2.1;omega)];show Except.ok ((v.toNat:Int),rest,_)=_;rw[Int.toNat_of_nonneg hv.1];rfl
  .obtain⟨n,m,k,e1,e2,e3,e4,e5⟩:=(FF 4).open hb hh;have e3':n<256^4:=e3;have e5':Except.ok ((n:Int),m,k)=Except.ok (x,l',p'):=e5;simp only[Except.ok.injEq,Prod.mk.injEq]at e5';obtain⟨rfl,rfl,rfl⟩:=e5';exact⟨by show l=AK 4 (n:Int).toNat++m;rw[Int.toNat_natCast];exact e1,by show k=p+(AK 4 (n:Int).toNat).length;rw[Int.toNat_natCast];exact e2,oM,oM,fun h=>absurd rfl h⟩
 .refine⟨fun v hv rest p=>?_,fun l p x l' p' hb hh=>?_⟩
  .have:=hv.2.2 q;subst this;unfold EB EZ;rw[if_neg q,if_neg q];rfl
  .unfold EZ at hh;rw[if_neg q]at hh;have e5':Except.ok ((0:Int),l,p)=Except.ok (x,l',p'):=hh;simp only[Except.ok.injEq,Prod.mk.injEq]at e5';obtain⟨rfl,rfl,rfl⟩:=e5';unfold EB;rw[if_neg q];exact⟨rfl,rfl,oM,oM,fun _=>rfl⟩
def Iy(op:Nat):Bool:=decide ((Ad (op:Int)).d≠0)
def I3(op:Nat):Bool:=decide ((Ad (op:Int)).a≠0)
def He(op:Nat):Bool:=decide ((Ad (op:Int)).b≠0)
def I4(op:Nat):Bool:=decide ((Ad (op:Int)).c≠0)
def Ft(op:Nat):Bool:=decide ((Ad (op:Int)).n≠0/\(Ad (op:Int)).n≠7)
def Bf(i:AB):List Nat:=[i.op.toNat]++(Bt (Iy i.op.toNat) i.d++(Bt (I3 i.op.toNat) i.a++(Bt (He i.op.toNat) i.b++(Bt (I4 i.op.toNat) i.c++(Bt (Ft i.op.toNat) i.n++EB i.op.toNat i.bits)))))
def DY:Pz AB:=Ac (Bl 1 37) fun op=>Ac (CD (Iy op)) fun d=>Ac (CD (I3 op)) fun a=>Ac (CD (He op)) fun b=>Ac (CD (I4 op)) fun c=>Ac (CD (Ft op)) fun n=>Ac (EZ op) fun z=>Ay (⟨(op:Int),d,a,b,c,n,z⟩:AB)
def Pp(b:Bool)(v:Int):Prop:=0<=v/\v<2^63/\(b=false->v=0)
def CJ(i:AB):Prop:=1<=i.op/\i.op<=37/\Pp (Iy i.op.toNat) i.d/\Pp (I3 i.op.toNat) i.a/\Pp (He i.op.toNat) i.b/\Pp (I4 i.op.toNat) i.c/\Pp (Ft i.op.toNat) i.n/\0<=i.bits/\i.bits<2^32/\(i.op.toNat≠1->i.bits=0)
theorem MT:Rt Bf DY CJ:=by
 refine⟨fun s hs rest p=>?_,fun l p x l' p' hb hh=>?_⟩
 .obtain⟨op,d,a,b,c,n,z⟩:=s;obtain⟨h1,h2,h3,h4,h5,h6,h7,h8,h9,h10⟩:=hs;have b1:1<=op:=h1;have b2:op<=37:=h2;unfold Bf DY;simp only[List.append_assoc];rw[(DK 1 37).go (x:=op.toNat) (by show 1<=op.toNat/\op.toNat<=37;omega),(Ca _).go h3,(Ca _).go h4,(Ca _).go h5,(Ca _).go h6,(Ca _).go h7,(MS _).go ⟨h8,h9,h10⟩];show Except.ok ((⟨(op.toNat:Int),d,a,b,c,n,z⟩:AB),rest,_)=_;rw[Int.toNat_of_nonneg oM];simp only[List.length_append,Nat.add_assoc]
 .obtain⟨op,m1,j1,e1,e2,e3,e4,e5⟩:=(DK 1 37).open hb hh;obtain⟨d,m2,j2,f1,f2,f3,f4,f5⟩:=(Ca _).open e4 e5;obtain⟨a,m3,j3,g1,g2,g3,g4,g5⟩:=(Ca _).open f4 f5;obtain⟨b,m4,j4,h1,h2,h3,h4,h5⟩:=(Ca _).open g4 g5;obtain⟨c,m5,j5,i1,i2,i3,i4,i5⟩:=(Ca _).open h4 h5;obtain⟨n,m6,j6,k1,k2,k3,k4,k5⟩:=(Ca _).open i4 i5;obtain⟨z,m7,j7,n1,n2,n3,n4,n5⟩:=(MS _).open k4 k5;have n5':Except.ok ((⟨(op:Int),d,a,b,c,n,z⟩:AB),m7,j7)=Except.ok (x,l',p'):=n5;simp only[Except.ok.injEq,Prod.mk.injEq]at n5';obtain⟨rfl,rfl,rfl⟩:=n5';refine⟨?_,?_,?_⟩
  .unfold Bf;simp only[Int.toNat_natCast,List.append_assoc];rw[e1,f1,g1,h1,i1,k1,n1]
  .unfold Bf;simp only[Int.toNat_natCast,List.length_append];rw[n2,k2,i2,h2,g2,f2,e2];omega
  .unfold CJ;simp only[Int.toNat_natCast];exact⟨oM,oM,f3,g3,h3,i3,k3,n3.1,n3.2.1,n3.2.2⟩
def Bv(c:Cd):List Nat:=An AS c.sign++(An BL c.regs++(An C5 c.slots++An Bf c.list))
def Gg:Pz Cd:=Ac (Bx 64 Ej) fun s=>Ac (Bx 16384 Hj) fun r=>Ac (Bx 4096 Jp) fun t=>Ac (Bx 32768 DY) fun l=>Ay (⟨s,r,t,l⟩:Cd)
def BI(c:Cd):Prop:=(c.sign.length<=64/\∀x∈c.sign,Eg x)/\(c.regs.length<=16384/\∀x∈c.regs,Fu x)/\(c.slots.length<=4096/\∀x∈c.slots,Hg x)/\(c.list.length<=32768/\∀x∈c.list,CJ x)
theorem JS:Rt Bv Gg BI:=by
 refine⟨fun c hc rest p=>?_,fun l p x l' p' hb hh=>?_⟩
 .obtain⟨s,r,t,l⟩:=c;unfold Bv Gg;simp only[List.append_assoc];rw[(Dy MV dE).go (x:=s) hc.1,(Dy JU dE).go (x:=r) hc.2.1,(Dy OD dE).go (x:=t) hc.2.2.1,(Dy MT dE).go (x:=l) hc.2.2.2];show Except.ok ((⟨s,r,t,l⟩:Cd),rest,_)=_;simp only[List.length_append,Nat.add_assoc]
 .obtain⟨s,m1,j1,e1,e2,e3,e4,e5⟩:=(Dy MV dE).open hb hh;obtain⟨r,m2,j2,f1,f2,f3,f4,f5⟩:=(Dy JU dE).open e4 e5;obtain⟨t,m3,j3,g1,g2,g3,g4,g5⟩:=(Dy OD dE).open f4 f5;obtain⟨i,m4,j4,h1,h2,h3,h4,h5⟩:=(Dy MT dE).open g4 g5;have h5':Except.ok ((⟨s,r,t,i⟩:Cd),m4,j4)=Except.ok (x,l',p'):=h5;simp only[Except.ok.injEq,Prod.mk.injEq]at h5';obtain⟨rfl,rfl,rfl⟩:=h5';refine⟨?_,?_,e3,f3,g3,h3⟩
  .unfold Bv;simp only[List.append_assoc];rw[e1,f1,g1,h1]
  .unfold Bv;simp only[List.length_append];rw[h2,g2,f2,e2];omega
def DQ:List Nat:=[108,116,104,49]
def B2(c:Cd):List Nat:=DQ++Bv c
def BB(c:Cd):List Nat:=B2 c++AK 8 (I1 (B2 c))
def Gp(s:List Nat):Except (Int×Nat) Cd:=
 if s.take (min s.length 4)≠DQ.take (min s.length 4)then .error (240,0)
 else if s.length<4 then .error (242,0)
 else match Gg (s.drop 4) 4 with
  | .error e=>.error e
  | .ok (c,l,p)=>
   if l.length<8 then .error (242,p)
   else if BS (l.take 8)≠I1 (s.take p)then .error (241,p)
   else if 8<l.length then .error (244,p+8)
   else if(Az c).1≠0 then .error ((Az c).1,0)
   else .ok c
theorem Ig{l:List Nat}(h:∀b∈l,b<256):I1 l<256^8:=by
 have h1:I2 J4 l<2^64:=Ih l Qp h;unfold I1;exact Nat.lt_of_lt_of_eq (Nat.xor_lt_two_pow (n:=64) Qp h1) dE
theorem LF{c:Cd}(hc:BI c)(hb:∀b∈B2 c,b<256)(rest:List Nat):Gp (BB c++rest)=if rest≠[] then .error (244,(BB c).length)else if(Az c).1≠0 then .error ((Az c).1,0)else .ok c:=by
 have hlen:(BB c++rest).length=4+(Bv c).length+8+rest.length:=by
  unfold BB B2;simp only[List.length_append,AN];rfl
 have ht:(BB c++rest).take 4=DQ:=by
  unfold BB B2;simp only[List.append_assoc];rw[List.take_append_of_le_length dE];rfl
 have hd:(BB c++rest).drop 4=Bv c++(AK 8 (I1 (B2 c))++rest):=by
  unfold BB B2;simp only[List.append_assoc];rw[List.drop_append_of_le_length dE];rfl
 have hm:min (BB c++rest).length 4=4:=oM;unfold Gp;rw[hm,ht,if_neg (by simp[DQ]),if_neg oM,hd,JS.fw c hc];simp only;have h8:(AK 8 (I1 (B2 c))++rest).length=8+rest.length:=by rw[List.length_append,AN]
 have hp:(BB c++rest).take (4+(Bv c).length)=B2 c:=by
  unfold BB;rw[List.append_assoc,List.take_append_of_le_length RW,List.take_of_length_le RW]
 have hl8:(AK 8 (I1 (B2 c))++rest).take 8=AK 8 (I1 (B2 c)):=by
  rw[List.take_append_of_le_length Pm,List.take_of_length_le Pm]
 rw[if_neg oM,hl8,EC 8 _ (Ig hb),hp,if_neg sM,h8];have he:(BB c).length=4+(Bv c).length+8:=by
  unfold BB B2;simp only[List.length_append,AN];rfl
 cases rest with
 |nil=>rw[if_neg (show¬8<8+([]:List Nat).length by simp),if_neg (show¬ (([]:List Nat)≠[]) by simp)]
 |cons a r=>rw[if_pos sM,if_pos sM,he]
theorem P9{p:Be}(h:Br p=true):Eg p:=by
 unfold Br B6 at h;simp only[Bool.and_eq_true,Bool.or_eq_true,decide_eq_true_eq,beq_iff_eq]at h;obtain⟨⟨⟨⟨h1,h2⟩,h3⟩,h4⟩,h5,h6⟩:=h;exact⟨oM,oM,h2,oM,oM⟩
theorem OA{t:Ty}{n:Nat}(hn:n<=64)(h:AA t n=true):Fu t:=by
 unfold AA at h;split at h
 .rename_i q;have h':t.par=0:=by simpa using h
  exact⟨oM,oM,oM,oM,fun _=>h'⟩
 .split at h
  .rename_i q;unfold Ao at h;simp only[Bool.and_eq_true,decide_eq_true_eq]at h;exact⟨oM,oM,oM,oM,fun r=>absurd q r⟩
  .cases h
theorem PO{s:Sl}{n:Nat}(hn:n<=64)(hb:0<=s.bits/\s.bits<4294967296)(h:B1 s n=true):Hg s:=by
 unfold B1 at h;simp only[Bool.and_eq_true]at h;have ht:=OA hn h.1;have hs:=h.2;unfold DT at hs;split at hs
 .rename_i q;unfold BY at hs;simp only[Bool.and_eq_true,decide_eq_true_eq,beq_iff_eq]at hs;exact⟨ht,oM,oM,oM,oM,fun _=>hs.1,fun r=>absurd q r⟩
 .rename_i q;simp only[Bool.and_eq_true,beq_iff_eq]at hs;exact⟨ht,oM,oM,oM,oM,fun r=>absurd r q,fun _=>hs.1⟩
theorem Gq{rs:List Ty}{l v:Int}{m:Ty}(hr:rs.length<=16384)(h:Ai rs l v m=true):Pp (decide (l≠0)) v:=by
 unfold Ai at h;by_cases q:l=0
 .rw[if_pos q]at h;have h':v=0:=by simpa using h
  exact⟨oM,oM,fun _=>h'⟩
 .rw[if_neg q]at h;unfold Ao at h;simp only[Bool.and_eq_true,decide_eq_true_eq]at h;exact⟨oM,oM,fun r=>by simp[q]at r⟩
theorem L8:∀n:Nat,n<38->1<=n->((Ad (n:Int)).n=7↔n=1):=dE
theorem P8{c:Cd}{i:AB}(hr:c.regs.length<=16384)(hs:c.slots.length<=4096)(hg:c.sign.length<=64)(hb:0<=i.bits/\i.bits<4294967296)(hk:Ax i.op=true)(hf:B8 c i (Ad i.op)=true):CJ i:=by
 unfold Ax at hk;simp only[Bool.and_eq_true,decide_eq_true_eq]at hk;unfold B8 at hf;simp only[Bool.and_eq_true]at hf;obtain⟨f1,f2,f3,f4,f5⟩:=hf;have e:((i.op.toNat:Nat):Int)=i.op:=Int.toNat_of_nonneg oM;have h7:=L8 i.op.toNat oM oM;rw[e]at h7;unfold CJ Iy I3 He I4 Ft;rw[e];refine⟨hk.1,hk.2,Gq hr f1,Gq hr f2,Gq hr f3,Gq hr f4,?_,oM,oM,fun q=>?_⟩
 .unfold BC at f5;by_cases q:(Ad i.op).n=7
  .rw[if_pos q]at f5;simp only[Bool.and_eq_true,beq_iff_eq]at f5;exact⟨oM,oM,fun _=>f5.1⟩
  .rw[if_neg q]at f5;simp only[Bool.and_eq_true,beq_iff_eq]at f5;have g:=f5.2;unfold G7 at g;by_cases q8:(Ad i.op).n=8
   .rw[if_pos q8]at g;unfold BY at g;simp only[Bool.and_eq_true,decide_eq_true_eq]at g;exact⟨oM,oM,fun r=>by simp[q8]at r⟩
   .rw[if_neg q8]at g;by_cases q9:(Ad i.op).n=9
    .rw[if_pos q9]at g;simp only[Bool.or_eq_true,Bool.and_eq_true,beq_iff_eq]at g;exact⟨oM,oM,fun r=>by simp[q9]at r⟩
    .rw[if_neg q9]at g;by_cases qa:(Ad i.op).n=10
     .rw[if_pos qa]at g;unfold Ao at g;simp only[Bool.and_eq_true,decide_eq_true_eq]at g;exact⟨oM,oM,fun r=>by simp[qa]at r⟩
     .rw[if_neg qa]at g;by_cases qb:(Ad i.op).n=11
      .rw[if_pos qb]at g;unfold Ao at g;simp only[Bool.and_eq_true,decide_eq_true_eq]at g;exact⟨oM,oM,fun r=>by simp[qb]at r⟩
      .rw[if_neg qb]at g;have g':i.n=0:=by simpa using g
       exact⟨oM,oM,fun _=>g'⟩
 .unfold BC at f5;rw[if_neg (fun r=>q (h7.1 r))]at f5;simp only[Bool.and_eq_true,beq_iff_eq]at f5;exact f5.1
theorem CO(b:Bool)(v:Int):∀x∈Bt b v,x<256:=fun x hx=>by
 unfold Bt at hx;split at hx
 .exact F5 _ x hx
 .cases hx
theorem F1{α:Type}{e:α->List Nat}{l:List α}(h:∀a∈l,∀x∈e a,x<256):∀x∈An e l,x<256:=fun x hx=>by
 unfold An at hx;rcases List.mem_append.1 hx with q|q
 .exact F5 _ x q
 .obtain⟨a,ha,hq⟩:=List.mem_flatMap.1 q;exact h a ha x hq
theorem Ny{p:Be}(h:Eg p):∀x∈AS p,x<256:=fun x hx=>by
 unfold AS EW at hx;simp only[List.mem_append,List.mem_singleton]at hx;obtain⟨h1,h2,-⟩:=h;rcases hx with q|(q|q)|q
 .omega
 .exact F5 _ x q
 .exact E9 _ x q
 .exact CO _ _ x q
theorem LG{t:Ty}(h:Fu t):∀x∈BL t,x<256:=fun x hx=>by
 unfold BL at hx;simp only[List.mem_append,List.mem_singleton]at hx;obtain⟨h1,h2,-⟩:=h;rcases hx with q|q
 .omega
 .exact CO _ _ x q
theorem OS{s:Sl}(h:Hg s):∀x∈C5 s,x<256:=fun x hx=>by
 unfold C5 at hx;simp only[List.mem_append,List.mem_singleton]at hx;rcases hx with q|q|q
 .split at q<;>omega
 .exact LG h.1 x q
 .split at q
  .exact F5 _ x q
  .exact DF _ _ x q
theorem Nx{i:AB}(h:CJ i):∀x∈Bf i,x<256:=fun x hx=>by
 unfold Bf at hx;simp only[List.mem_append,List.mem_singleton]at hx;obtain⟨h1,h2,-⟩:=h;rcases hx with q|q|q|q|q|q|q
 .omega
 .exact CO _ _ x q
 .exact CO _ _ x q
 .exact CO _ _ x q
 .exact CO _ _ x q
 .exact CO _ _ x q
 .unfold EB at q;split at q
  .exact DF _ _ x q
  .cases q
theorem E8{c:Cd}(h:BI c):∀x∈B2 c,x<256:=fun x hx=>by
 unfold B2 Bv at hx;simp only[List.mem_append]at hx;rcases hx with q|q|q|q|q
 .unfold DQ at q;simp only[List.mem_cons,List.not_mem_nil,or_false]at q;omega
 .exact F1 (fun a ha=>Ny (h.1.2 a ha)) x q
 .exact F1 (fun a ha=>LG (h.2.1.2 a ha)) x q
 .exact F1 (fun a ha=>OS (h.2.2.1.2 a ha)) x q
 .exact F1 (fun a ha=>Nx (h.2.2.2.2 a ha)) x q
theorem LH{c:Cd}(h:BI c):∀x∈BB c,x<256:=fun x hx=>by
 unfold BB at hx;rcases List.mem_append.1 hx with q|q
 .exact E8 h x q
 .exact DF _ _ x q
theorem OR{c:Cd}(h:BI c)(hc:(Az c).1=0):Gp (BB c)=.ok c:=by
 have h9:=LF h (E8 h) [];rw[List.append_nil,if_neg sM,if_neg (by simpa using hc)]at h9;exact h9
theorem EK{c:Cd}:∀ (l:List AB) (x:Wk),E2 c x l=true->∀i∈l,Ax i.op=true/\B8 c i (Ad i.op)=true
 |[],x,_,i,hi=>by cases hi
 |a::l,x,h,i,hi=>by
  have h':(Bb c x a&&E2 c (AE x a) l)=true:=h;simp only[Bool.and_eq_true]at h';rcases List.mem_cons.1 hi with e|e
  .subst e;obtain⟨k1,k2,-,-⟩:=Df h'.1;exact⟨k1,k2⟩
  .exact EK l _ h'.2 i e
theorem Fh{c:Cd}(hsb:∀s∈c.slots,0<=s.bits/\s.bits<4294967296)(hib:∀i∈c.list,0<=i.bits/\i.bits<4294967296)(hc:(Az c).1=0):BI c:=by
 obtain⟨h1,h2,-⟩:=Kb.1 hc;unfold BO at h1;by_cases e1:AQ c.sign=0
 .rw[if_neg (by simp[e1])]at h1;by_cases e2:16384<c.regs.length\/32768<c.list.length
  .rw[if_pos e2]at h1;cases h1
  .rw[if_neg e2]at h1;by_cases e3:4096<c.slots.length
   .rw[if_pos e3]at h1;cases h1
   .rw[if_neg e3]at h1;by_cases e4:(Aq c&&Bi c)=true
    .simp only[Bool.and_eq_true]at e4;have hg:=Kc e1;have hty:∀t∈c.regs,AA t c.sign.length=true:=List.all_eq_true.1 e4.1;have hsl:∀s∈c.slots,B1 s c.sign.length=true:=List.all_eq_true.1 e4.2;exact⟨⟨hg,fun p hp=>P9 (Ke e1 p hp)⟩,⟨oM,fun t ht=>OA hg (hty t ht)⟩,⟨oM,fun s hs=>PO hg (hsb s hs) (hsl s hs)⟩,⟨oM,fun i hi=>P8 oM oM hg (hib i hi) (EK _ _ h2 i hi).1 (EK _ _ h2 i hi).2⟩⟩
    .rw[if_neg e4]at h1;cases h1
 .rw[if_pos e1]at h1;exact absurd h1 e1
theorem K6{x y:Nat}(hx:x<2^64)(hy:y<2^64):bits .xor .u64 (x:Int) (y:Int)=((x^^^y:Nat):Int):=by
 have h:(BitVec.ofInt 64 (x:Int)^^^BitVec.ofInt 64 (y:Int)).toNat=x^^^y:=by
  rw[BitVec.toNat_xor];simp only[BitVec.ofInt_natCast,BitVec.toNat_ofNat];rw[Nat.mod_eq_of_lt hx,Nat.mod_eq_of_lt hy]
 have h2:x^^^y<2^64:=Nat.xor_lt_two_pow hx hy;show IntKind.u64.wrap (((BitVec.ofInt 64 (x:Int)^^^BitVec.ofInt 64 (y:Int)).toNat:Nat):Int)=_;exact QL
theorem QP{x:Nat}(hx:x<2^64):bits .and .u64 (x:Int) 1=((x%2:Nat):Int):=by
 have h:(BitVec.ofInt 64 (x:Int)&&& BitVec.ofInt 64 1).toNat=x%2:=by
  rw[BitVec.toNat_and,show BitVec.ofInt 64 1=BitVec.ofNat 64 1 from rfl];simp only[BitVec.ofInt_natCast,BitVec.toNat_ofNat];rw[Nat.mod_eq_of_lt hx,show 1%2^64=1 by decide,Nat.and_one_is_mod]
 show IntKind.u64.wrap (((BitVec.ofInt 64 (x:Int)&&& BitVec.ofInt 64 1).toNat:Nat):Int)=_;exact QL
theorem Pj{C:Nat}(hn:C<2^64):bits .xor .u64 ((C:Int)/2) (IntKind.u64.wrap (bits .and .u64 (C:Int) 1*14514072000185962306))=((J5 C:Nat):Int):=by
 rw[QP hn,show((C:Int)/2)=((C/2:Nat):Int) by omega];unfold J5;rcases Nat.mod_two_eq_zero_or_one C with r|r
 .rw[r,if_neg dE,show IntKind.u64.wrap (((0:Nat):Int)*14514072000185962306)=((0:Nat):Int) by rfl];exact K6 oM dE
 .rw[r,if_pos rfl,show IntKind.u64.wrap (((1:Nat):Int)*14514072000185962306)=((Po:Nat):Int) by rfl];exact K6 oM (by unfold Po;decide)
theorem O6{a b:Int}(h:a=b):Ending.returned (.int .u64 a)=.returned (.int .u64 b):=by rw[h]
theorem PG{x:Nat}(hx:x<2^64):bits .xor .u64 IntKind.u64.max (x:Int)=((J4^^^x:Nat):Int):=by
 rw[show IntKind.u64.max=((J4:Nat):Int)from rfl];exact K6 Qp hx
theorem J3{s:ByteArray}{k:Nat}(h:k<s.size):(Aa s).take (k+1)=(Aa s).take k++[s[k].toNat]:=by
 have hl:k<(Aa s).length:=by rw[AD];exact h
 rw[List.take_succ_eq_append_getElem hl];congr 2;show(s.data.toList.map UInt8.toNat)[k]'(by rw[List.length_map,Array.length_toList];exact h)=_;rw[List.getElem_map];rfl
theorem GZ(c:Nat)(l:List Nat)(b:Nat):I2 c (l++[b])=Nj 8 (I2 c l^^^b):=by rw[Nv];rfl
theorem Fj:∀ (n c:Nat),Nj (n+1) c=J5 (Nj n c)
 |0,c=>rfl
 |n+1,c=>Fj n (J5 c)
theorem JW(s:ByteArray)(k:Nat):I2 J4 ((Aa s).take k)<2^64:=Ih _ Qp (fun b hb=>E9 s b (List.mem_of_mem_take hb))
theorem DU(s:ByteArray)(hs:s.size<=140737488355328)(w:World):
 Calls prog 19 #[.string s] w fun e w'=>e=.returned (.int .u64 ((I1 (Aa s):Nat):Int))/\w'=w:=by
 obtain⟨N,hN⟩:=gA (s.size)
 go_enter func19,ntmps19;go_upto_block 0 with fail;go_wp2_with fail
 go_loopw [3,7] (fun cv iv wx=>wx=w/\∃k:Nat,k<=N/\iv=.int .i64 (k:Int)/\cv=.int .u64 ((I2 J4 ((Aa s).take k):Nat):Int)) (fun _ iv _=>N-(intOf iv).toNat)
 case atStart=>exact⟨rfl,0,gI _,rfl,rfl⟩
 case round=>
  obtain⟨rfl,k,hk,rfl,rfl⟩:=hrel;have hc:=JW s k;by_cases hlt:k<N
  .have hks:k<s.size:=oM;have hmo:=J3 hks;have hcm:=GZ J4 ((Aa s).take k) s[k].toNat;rw[<-hmo]at hcm;obtain⟨X,hX⟩:=gA (I2 J4 ((Aa s).take k))
   rw[hX]at hc hcm;obtain⟨B,hB⟩:=gA (s[k].toNat)
   have hb:B<256:=by rw[<-hB];exact s[k].toNat_lt
   rw[hB]at hcm;have i1:(0:Int)<=(k:Int):=oM;have i2:(k:Int)<(N:Int):=oM;have wi:IntKind.i64.wrap ((k:Int)+1)=((k+1:Nat):Int):=by rw[IntKind.wrap_i64];omega
   have hxb:=K6 hc (show B<2^64 by omega);have hY:X^^^B<2^64:=Nat.xor_lt_two_pow hc oM;obtain⟨Y,hYe⟩:=gA (X^^^B)
   rw[hYe]at hcm hxb hY;clear hmo hYe;go_upto_block 2 with fail;clear hX hB;go_wp2_with fail
   go_loopw [3,16] (fun cv iv wx=>wx=wr/\∃j:Nat,j<=8/\iv=.int .i64 (j:Int)/\cv=.int .u64 ((Nj j Y:Nat):Int)) (fun _ iv _=>8-(intOf iv).toNat)
   case atStart=>exact⟨rfl,0,oM,rfl,rfl⟩
   case round=>
    obtain⟨rfl,j,hj,rfl,rfl⟩:=hrel;have hn:=Gn j hY;have hm:=Fj j Y;have hst:=Pj hn;by_cases hl:j<8
    .have q2:(j:Int)<8:=oM;have wj:IntKind.i64.wrap ((j:Int)+1)=((j+1:Nat):Int):=by rw[IntKind.wrap_i64];omega
     rw[<-hm]at hst;clear hm hn hcm;go_wp2;go_roundw
     case rel=>exact⟨by trivial,j+1,oM,gN,rfl⟩
     case measure=>simp[intOf];omega
    .have q2:¬ (j:Int)<8:=oM;obtain rfl:j=8:=oM;have HCM:Hid _:=hcm;clear hst hm hn hcm hl;go_wp2;go_roundw
     case rel=>exact⟨by trivial,k+1,oM,gN,by rw[HCM.out]⟩
     case measure=>simp[intOf];omega
  .exact Rm
theorem IQ(s:ByteArray)(hs:s.size<=140737488355328)(w:World):
 Calls prog 24 #[.string s] w fun e w'=>e=.returned (.int .u64 ((I1 (Aa s):Nat):Int))/\w'=w:=by
 obtain⟨N,hN⟩:=gA (s.size)
 go_enter func24,ntmps24;go_upto_block 0 with fail;go_wp2_with fail
 go_loopw [3,4] (fun cv iv wx=>wx=w/\∃k:Nat,k<=N/\iv=.int .i64 (k:Int)/\cv=.int .u64 ((I2 J4 ((Aa s).take k):Nat):Int)) (fun _ iv _=>N-(intOf iv).toNat)
 case atStart=>exact⟨rfl,0,gI _,rfl,rfl⟩
 case round=>
  obtain⟨rfl,k,hk,rfl,rfl⟩:=hrel;have hc:=JW s k;by_cases hlt:k<N
  .have hks:k<s.size:=oM;have hmo:=J3 hks;have hcm:=GZ J4 ((Aa s).take k) s[k].toNat;rw[<-hmo]at hcm;obtain⟨X,hX⟩:=gA (I2 J4 ((Aa s).take k))
   rw[hX]at hc hcm;obtain⟨B,hB⟩:=gA (s[k].toNat)
   have hb:B<256:=by rw[<-hB];exact s[k].toNat_lt
   rw[hB]at hcm;have i1:(0:Int)<=(k:Int):=oM;have i2:(k:Int)<(N:Int):=oM;have wi:IntKind.i64.wrap ((k:Int)+1)=((k+1:Nat):Int):=by rw[IntKind.wrap_i64];omega
   have hxb:=K6 hc (show B<2^64 by omega);have hY:X^^^B<2^64:=Nat.xor_lt_two_pow hc oM;obtain⟨Y,hYe⟩:=gA (X^^^B)
   rw[hYe]at hcm hxb hY;clear hmo hYe;go_upto_block 2 with fail;clear hX hB;go_wp2_with fail
   go_loopw [3,5] (fun cv iv wx=>wx=wr/\∃j:Nat,j<=8/\iv=.int .i64 (j:Int)/\cv=.int .u64 ((Nj j Y:Nat):Int)) (fun _ iv _=>8-(intOf iv).toNat)
   case atStart=>exact⟨rfl,0,oM,rfl,rfl⟩
   case round=>
    obtain⟨rfl,j,hj,rfl,rfl⟩:=hrel;have hn:=Gn j hY;have hm:=Fj j Y;by_cases hl:j<8
    .have q2:(j:Int)<8:=oM;have wj:IntKind.i64.wrap ((j:Int)+1)=((j+1:Nat):Int):=by rw[IntKind.wrap_i64];omega
     obtain⟨C,hC⟩:=gA (Nj j Y)
     rw[hC]at hn hm;have hx1:=K6 (show C/2<2^64 by omega) (show Po<2^64 by unfold Po;decide);have HM:=show Hid (Nj (j+1) Y=J5 C)from hm;clear hcm hm;rcases Nat.mod_two_eq_zero_or_one C with r|r
     .have r1:((C:Int)%2==1)=false:=by rw[show(C:Int)%2=0 by omega];rfl
      have HT:Hid (((C:Int)/2)=((J5 C:Nat):Int)):=by
       show((C:Int)/2)=((J5 C:Nat):Int);unfold J5;rw[if_neg oM,Nat.xor_zero];omega
      clear hn;exact RK
     .have r1:((C:Int)%2==1)=true:=by rw[show(C:Int)%2=1 by omega];rfl
      have HT:Hid (bits .xor .u64 ((C:Int)/2) 14514072000185962306=((J5 C:Nat):Int)):=by
       show bits .xor .u64 ((C:Int)/2) 14514072000185962306=((J5 C:Nat):Int);unfold J5;rw[if_pos r,show((C:Int)/2)=((C/2:Nat):Int) by omega];exact hx1
      clear hn hx1;exact RK
    .have q2:¬ (j:Int)<8:=oM;obtain rfl:j=8:=oM;have HCM:Hid _:=hcm;clear hm hn hcm hl;go_wp2;go_roundw
     case rel=>exact⟨by trivial,k+1,oM,gN,by rw[HCM.out]⟩
     case measure=>simp[intOf];omega
  .exact Rm
end Go.Proofs.YtnlgkkbmbijndaaGreat
