import Derived.Test.YtjlpkjblkllfbaaGreatDoorOwn1
import Derived.Test.YtjlpkjblkllfbaaGreatDoorOwn22
import Derived.OrdersHeld
import Derived.Deep.DeepCutAuto
import Derived.Test.YtjlpkjblkllfbaaGreatDoorOwn2
import Derived.Test.YtjlpkjblkllfbaaGreatDoorOwn15
namespace Go.Proofs.YtjlpkjblkllfbaaGreatDoor
open Go.RowKit Go.Proofs.Tryz
set_option linter.all false
set_option maxRecDepth 100000
set_option maxHeartbeats 16000000
theorem G2(t:Ty):AT t≠[]:=by
 unfold AT;split
 .simp
 split
 .simp
 .simp
theorem Dn{a b:Bs}{m:List Bs}(h:m≠[]):A7 (a::(m++[b]))=a++32::(A7 m++32::b):=by rw[Be sM,FM _ _ h]
theorem KY(E WB p0 p1 p2 p3 p4:Nat)(p v:Value)(l:Bs)(s:Sl)(hs:Hv s)(w:World)(hL:BL w)(h:FC E WB p0 p1 p2 p3 p4 p v l w):
 Calls prog 71 #[.pointer (some ⟨WB,0,none⟩),.agg #[.int .i64 s.ty.kind,.int .i64 s.ty.par,.bool s.keep,.int .u32 s.bits,.int .i64 s.int_]] w fun e w'=>e=.returned (.string (A6 (A7 ((if s.keep then At else Av)::(AT s.ty++[if s.ty.kind=2 then Ao s.int_ else BC s.bits])))))/\Below w.heap.size w w':=by
 obtain⟨⟨kd,par⟩,kp,bt,it⟩:=s;have hok:EE ⟨kd,par⟩:=hs.1;obtain⟨V,hV⟩:=gA (w.alloc (.cells #[.int .i64 kd,.int .i64 par,.bool kp,.int .u32 bt,.int .i64 it] 59))
 obtain⟨X,hXX⟩:=gA (w.heap.size)
 have hb0:Below w.heap.size w V:=by rw[<-hV];exact A2 _ _
 have hr:V.rowIs X 59 5 (g5 (.int .i64 kd) (.int .i64 par) (.bool kp) (.int .u32 bt) (.int .i64 it)):=by rw[<-hV,<-hXX];exact CG _ _ _ _ _ _ _
 have hv:=h.below hb0;have HLV:=A3 (hL.below hb0);have HB0:=A3 hb0;have HBT:=A3 (Is hs);obtain⟨x0,x1,x2,x3,x4⟩:=c5 hr;have t0:V.cell? ⟨WB,5,none⟩=some (.slice (some ⟨p3,0,none⟩) 2 2):=hv.bd.row.cell (i:=5) dE;obtain⟨Y,hY⟩:=gA (A6 (A7 (AT ⟨kd,par⟩)))
 have sY:Y.size<=20:=by rw[<-hY,<-A9,AZ];exact Mc hok
 have KT:∀x,Below V.heap.size V x->Calls prog 70 #[.pointer (some ⟨WB,0,none⟩),.agg #[.int .i64 kd,.int .i64 par]] x fun e w'=>e=.returned (.string (A6 (A7 (AT ⟨kd,par⟩))))/\Below x.heap.size x w':=fun x hx=>GH E WB p0 p1 p2 p3 p4 p v l ⟨kd,par⟩ hok x (HLV.below hx) (hv.below hx);rw[hY]at KT;have HKT:=A3 KT;have h2:=hs.2;clear KT hb0 hr h hL hs hok;cases kp with
 |true=>
  obtain⟨A,hA⟩:=gA (A6 At)
  have sA:A.size<=5:=by rw[<-hA];decide
  by_cases q:kd=2
  .subst q;have HOK:Hid (bt=0/\0<=it/\it<=2147483647):=by show _/\_;simpa using h2
   clear h2;have a0:V.cell? ⟨p3,1,none⟩=some (.string A):=by rw[<-hA];exact hv.keeps.cell (i:=1) dE
   obtain⟨G,hG⟩:=gA (A6 (Ao it))
   have sG:G.size<=10:=by rw[<-hG,<-A9,AZ];exact Bg HOK.2.2
   have s2:¬9223372036854775807<A.size+1+Y.size:=oM;have s1:¬9223372036854775807<A.size+1:=oM;have s3:¬9223372036854775807<A.size+1+Y.size+1:=oM;have s4:¬9223372036854775807<A.size+1+Y.size+1+G.size:=oM;have HR:Hid ((((A++(⟨#[32]⟩:ByteArray))++Y)++(⟨#[32]⟩:ByteArray))++G=A6 (A7 (At::(AT ⟨2,par⟩++[Ao it])))):=by
    show _=_;rw[<-hA,<-hY,<-hG,Dn (G2 _)];show(((A6 At++A6 [32])++A6 _)++A6 [32])++A6 (Ao it)=_;rw[B4,B4,B4,B4];simp
   have HN:Hid (∀x,Below V.heap.size V x->Calls prog 69 #[.int .i64 it] x fun e w=>e=.returned (.string G)/\Below x.heap.size x w):=fun x hx=>by rw[<-hG,<-C0 HOK.2.1];exact Cj it Wt Wt x (HLV.below hx)
   have HX:Hid (∀x,Calls prog 110 #[.int .u32 bt] x fun e w=>e=.returned (.string (CE bt))/\Below x.heap.size x w):=fun x=>Fe bt HBT.1 HBT.2 x;have hbx:∃Z,CE bt=Z:=⟨_,rfl⟩
   obtain⟨Z,hZ⟩:=hbx;rw[hZ]at HX;clear hA hY hG sG sA sY hv hZ;go_enter func71,ntmps71;go_upto_region 1 with fail;try rw[hV]
   try rw[hXX]
   clear hV hXX;go_upto_region 6 with(first
    |(go_at_call 110;(with_reducible refine(HX.out _).mono ?_);rintro e u1 ⟨rfl,bb1⟩;have HBU:=A3 bb1;have m0:=kc bb1 t0;have m1:=kc bb1 x0;have m2:=kc bb1 x1;have m3:=kc bb1 x2;have m4:=kc bb1 x4;have m5:=kc bb1 a0;clear bb1)
    |(go_at_call 69;(with_reducible refine(HN.out _ HBU.out).mono ?_);rintro e u2 ⟨rfl,bb2⟩;have HBU2:=A3 (bel HBU.out bb2);clear bb2))
   obtain⟨V1,hV1⟩:=gA u2
   have HBV:Hid (Below V.heap.size V V1):=by show Below _ _ _;rw[<-hV1];exact HBU2.out
   try rw[hV1]
   clear m0 m1 m2 m3 m4 m5;have n0:=kc HBV.out t0;have n1:=kc HBV.out x0;have n2:=kc HBV.out x1;have n3:=kc HBV.out a0;have y0:V1.drew.cell? ⟨WB,5,none⟩=some (.slice (some ⟨p3,0,none⟩) 2 2):=n0;have y1:V1.drew.cell? ⟨X,0,none⟩=some (.int .i64 2):=n1;have y2:V1.drew.cell? ⟨X,1,none⟩=some (.int .i64 par):=n2;have y3:V1.drew.cell? ⟨p3,1,none⟩=some (.string A):=n3;refine rG (fun v=>v.cell? ⟨WB,5,none⟩=some (.slice (some ⟨p3,0,none⟩) 2 2)/\v.cell? ⟨X,0,none⟩=some (.int .i64 2)/\v.cell? ⟨X,1,none⟩=some (.int .i64 par)/\v.cell? ⟨p3,1,none⟩=some (.string A)) fun yH=>?_;exact VS
  .have HOK:Hid (it=0/\0<=bt/\bt<4294967296):=by have h9:=h2;simp only at h9;rw[if_neg q]at h9;exact h9
   have e2:(kd==2)=false:=by simpa using q
   rw[show(if(⟨⟨kd,par⟩,true,bt,it⟩:Sl).ty.kind=2 then Ao (⟨⟨kd,par⟩,true,bt,it⟩:Sl).int_ else BC (⟨⟨kd,par⟩,true,bt,it⟩:Sl).bits)=BC bt from if_neg q];clear h2 q;have a0:V.cell? ⟨p3,1,none⟩=some (.string A):=by rw[<-hA];exact hv.keeps.cell (i:=1) dE
   obtain⟨G,hG⟩:=gA (CE bt)
   have sG:G.size<=10:=by rw[<-hG,Er];decide
   have s2:¬9223372036854775807<A.size+1+Y.size:=oM;have s1:¬9223372036854775807<A.size+1:=oM;have s3:¬9223372036854775807<A.size+1+Y.size+1:=oM;have s4:¬9223372036854775807<A.size+1+Y.size+1+G.size:=oM;have HR:Hid ((((A++(⟨#[32]⟩:ByteArray))++Y)++(⟨#[32]⟩:ByteArray))++G=A6 (A7 (At::(AT ⟨kd,par⟩++[BC bt])))):=by
    show _=_;rw[<-hA,<-hY,<-hG,Dn (G2 _)];show(((A6 At++A6 [32])++A6 _)++A6 [32])++CE bt=_;rw[show CE bt=A6 (BC bt)from by unfold BC A6;simp];rw[B4,B4,B4,B4];simp
   have HX:Hid (∀x,Calls prog 110 #[.int .u32 bt] x fun e w=>e=.returned (.string (CE bt))/\Below x.heap.size x w):=fun x=>Fe bt HBT.1 HBT.2 x;rw[hG]at HX;clear hA hY hG sG sA sY hv ;go_enter func71,ntmps71;go_upto_region 1 with fail;try rw[hV]
   try rw[hXX]
   clear hV hXX;go_upto_region 6 with(first
    |(go_at_call 110;(with_reducible refine(HX.out _).mono ?_);rintro e u1 ⟨rfl,bb1⟩;have HBU:=A3 bb1;have m0:=kc bb1 t0;have m1:=kc bb1 x0;have m2:=kc bb1 x1;have m3:=kc bb1 x2;have m4:=kc bb1 x4;have m5:=kc bb1 a0;clear bb1)
    |(go_at_call 69;(with_reducible refine(HN.out _ HBU.out).mono ?_);rintro e u2 ⟨rfl,bb2⟩;have HBU2:=A3 (bel HBU.out bb2);clear bb2))
   obtain⟨V1,hV1⟩:=gA u1
   have HBV:Hid (Below V.heap.size V V1):=by show Below _ _ _;rw[<-hV1];exact HBU.out
   try rw[hV1]
   clear m0 m1 m2 m3 m4 m5;have n0:=kc HBV.out t0;have n1:=kc HBV.out x0;have n2:=kc HBV.out x1;have n3:=kc HBV.out a0;have y0:V1.drew.cell? ⟨WB,5,none⟩=some (.slice (some ⟨p3,0,none⟩) 2 2):=n0;have y1:V1.drew.cell? ⟨X,0,none⟩=some (.int .i64 kd):=n1;have y2:V1.drew.cell? ⟨X,1,none⟩=some (.int .i64 par):=n2;have y3:V1.drew.cell? ⟨p3,1,none⟩=some (.string A):=n3;refine rG (fun v=>v.cell? ⟨WB,5,none⟩=some (.slice (some ⟨p3,0,none⟩) 2 2)/\v.cell? ⟨X,0,none⟩=some (.int .i64 kd)/\v.cell? ⟨X,1,none⟩=some (.int .i64 par)/\v.cell? ⟨p3,1,none⟩=some (.string A)) fun yH=>?_;exact VS
 |false=>
  obtain⟨A,hA⟩:=gA (A6 Av)
  have sA:A.size<=5:=by rw[<-hA];decide
  by_cases q:kd=2
  .subst q;have HOK:Hid (bt=0/\0<=it/\it<=2147483647):=by show _/\_;simpa using h2
   clear h2;have a0:V.cell? ⟨p3,0,none⟩=some (.string A):=by rw[<-hA];exact hv.keeps.cell (i:=0) dE
   obtain⟨G,hG⟩:=gA (A6 (Ao it))
   have sG:G.size<=10:=by rw[<-hG,<-A9,AZ];exact Bg HOK.2.2
   have s2:¬9223372036854775807<A.size+1+Y.size:=oM;have s1:¬9223372036854775807<A.size+1:=oM;have s3:¬9223372036854775807<A.size+1+Y.size+1:=oM;have s4:¬9223372036854775807<A.size+1+Y.size+1+G.size:=oM;have HR:Hid ((((A++(⟨#[32]⟩:ByteArray))++Y)++(⟨#[32]⟩:ByteArray))++G=A6 (A7 (Av::(AT ⟨2,par⟩++[Ao it])))):=by
    show _=_;rw[<-hA,<-hY,<-hG,Dn (G2 _)];show(((A6 Av++A6 [32])++A6 _)++A6 [32])++A6 (Ao it)=_;rw[B4,B4,B4,B4];simp
   have HN:Hid (∀x,Below V.heap.size V x->Calls prog 69 #[.int .i64 it] x fun e w=>e=.returned (.string G)/\Below x.heap.size x w):=fun x hx=>by rw[<-hG,<-C0 HOK.2.1];exact Cj it Wt Wt x (HLV.below hx)
   have HX:Hid (∀x,Calls prog 110 #[.int .u32 bt] x fun e w=>e=.returned (.string (CE bt))/\Below x.heap.size x w):=fun x=>Fe bt HBT.1 HBT.2 x;have hbx:∃Z,CE bt=Z:=⟨_,rfl⟩
   obtain⟨Z,hZ⟩:=hbx;rw[hZ]at HX;clear hA hY hG sG sA sY hv hZ;go_enter func71,ntmps71;go_upto_region 1 with fail;try rw[hV]
   try rw[hXX]
   clear hV hXX;go_upto_region 6 with(first
    |(go_at_call 110;(with_reducible refine(HX.out _).mono ?_);rintro e u1 ⟨rfl,bb1⟩;have HBU:=A3 bb1;have m0:=kc bb1 t0;have m1:=kc bb1 x0;have m2:=kc bb1 x1;have m3:=kc bb1 x2;have m4:=kc bb1 x4;have m5:=kc bb1 a0;clear bb1)
    |(go_at_call 69;(with_reducible refine(HN.out _ HBU.out).mono ?_);rintro e u2 ⟨rfl,bb2⟩;have HBU2:=A3 (bel HBU.out bb2);clear bb2))
   obtain⟨V1,hV1⟩:=gA u2
   have HBV:Hid (Below V.heap.size V V1):=by show Below _ _ _;rw[<-hV1];exact HBU2.out
   try rw[hV1]
   clear m0 m1 m2 m3 m4 m5;have n0:=kc HBV.out t0;have n1:=kc HBV.out x0;have n2:=kc HBV.out x1;have n3:=kc HBV.out a0;have y0:V1.drew.cell? ⟨WB,5,none⟩=some (.slice (some ⟨p3,0,none⟩) 2 2):=n0;have y1:V1.drew.cell? ⟨X,0,none⟩=some (.int .i64 2):=n1;have y2:V1.drew.cell? ⟨X,1,none⟩=some (.int .i64 par):=n2;have y3:V1.drew.cell? ⟨p3,0,none⟩=some (.string A):=n3;refine rG (fun v=>v.cell? ⟨WB,5,none⟩=some (.slice (some ⟨p3,0,none⟩) 2 2)/\v.cell? ⟨X,0,none⟩=some (.int .i64 2)/\v.cell? ⟨X,1,none⟩=some (.int .i64 par)/\v.cell? ⟨p3,0,none⟩=some (.string A)) fun yH=>?_;exact VS
  .have HOK:Hid (it=0/\0<=bt/\bt<4294967296):=by have h9:=h2;simp only at h9;rw[if_neg q]at h9;exact h9
   have e2:(kd==2)=false:=by simpa using q
   rw[show(if(⟨⟨kd,par⟩,false,bt,it⟩:Sl).ty.kind=2 then Ao (⟨⟨kd,par⟩,false,bt,it⟩:Sl).int_ else BC (⟨⟨kd,par⟩,false,bt,it⟩:Sl).bits)=BC bt from if_neg q];clear h2 q;have a0:V.cell? ⟨p3,0,none⟩=some (.string A):=by rw[<-hA];exact hv.keeps.cell (i:=0) dE
   obtain⟨G,hG⟩:=gA (CE bt)
   have sG:G.size<=10:=by rw[<-hG,Er];decide
   have s2:¬9223372036854775807<A.size+1+Y.size:=oM;have s1:¬9223372036854775807<A.size+1:=oM;have s3:¬9223372036854775807<A.size+1+Y.size+1:=oM;have s4:¬9223372036854775807<A.size+1+Y.size+1+G.size:=oM;have HR:Hid ((((A++(⟨#[32]⟩:ByteArray))++Y)++(⟨#[32]⟩:ByteArray))++G=A6 (A7 (Av::(AT ⟨kd,par⟩++[BC bt])))):=by
    show _=_;rw[<-hA,<-hY,<-hG,Dn (G2 _)];show(((A6 Av++A6 [32])++A6 _)++A6 [32])++CE bt=_;rw[show CE bt=A6 (BC bt)from by unfold BC A6;simp];rw[B4,B4,B4,B4];simp
   have HX:Hid (∀x,Calls prog 110 #[.int .u32 bt] x fun e w=>e=.returned (.string (CE bt))/\Below x.heap.size x w):=fun x=>Fe bt HBT.1 HBT.2 x;rw[hG]at HX;clear hA hY hG sG sA sY hv ;go_enter func71,ntmps71;go_upto_region 1 with fail;try rw[hV]
   try rw[hXX]
   clear hV hXX;go_upto_region 6 with(first
    |(go_at_call 110;(with_reducible refine(HX.out _).mono ?_);rintro e u1 ⟨rfl,bb1⟩;have HBU:=A3 bb1;have m0:=kc bb1 t0;have m1:=kc bb1 x0;have m2:=kc bb1 x1;have m3:=kc bb1 x2;have m4:=kc bb1 x4;have m5:=kc bb1 a0;clear bb1)
    |(go_at_call 69;(with_reducible refine(HN.out _ HBU.out).mono ?_);rintro e u2 ⟨rfl,bb2⟩;have HBU2:=A3 (bel HBU.out bb2);clear bb2))
   obtain⟨V1,hV1⟩:=gA u1
   have HBV:Hid (Below V.heap.size V V1):=by show Below _ _ _;rw[<-hV1];exact HBU.out
   try rw[hV1]
   clear m0 m1 m2 m3 m4 m5;have n0:=kc HBV.out t0;have n1:=kc HBV.out x0;have n2:=kc HBV.out x1;have n3:=kc HBV.out a0;have y0:V1.drew.cell? ⟨WB,5,none⟩=some (.slice (some ⟨p3,0,none⟩) 2 2):=n0;have y1:V1.drew.cell? ⟨X,0,none⟩=some (.int .i64 kd):=n1;have y2:V1.drew.cell? ⟨X,1,none⟩=some (.int .i64 par):=n2;have y3:V1.drew.cell? ⟨p3,0,none⟩=some (.string A):=n3;refine rG (fun v=>v.cell? ⟨WB,5,none⟩=some (.slice (some ⟨p3,0,none⟩) 2 2)/\v.cell? ⟨X,0,none⟩=some (.int .i64 kd)/\v.cell? ⟨X,1,none⟩=some (.int .i64 par)/\v.cell? ⟨p3,0,none⟩=some (.string A)) fun yH=>?_;exact VS
def DY(ws:List Bs):List Value:=ws.map fun x=>.string (A6 x)
theorem Rv(a b:List Bs):DY (a++b)=DY a++DY b:=by simp[DY]
theorem O6:(prog.info? 9).map (fun i=>(i.zero,i.size,i.bytes))=some (some (.string ⟨#[]⟩),1,16):=kR
theorem SC(E:Nat)(w:World)(x:Bs)(hE:E<=w.heap.size):(w.alloc (.cells #[.string (A6 x)] 9)).ownsRow E 9 1 (.slice (some ⟨w.heap.size,0,none⟩) 1 1) [x].length (DY [x]):=
 ⟨rfl,.inr ⟨w.heap.size,1,#[.string (A6 x)],rfl,hE,heap_alloc_new _ _,gF _,by unfold maxLen;decide,rfl,rfl⟩⟩
theorem JW{E:Nat}{w:World}{q:Option Addr}{d:Nat}{ws:List Bs}(h:w.ownsRow E 9 1 (.slice q ws.length d) ws.length (DY ws))(hE:E<=w.heap.size)(hl:ws.length<=100)(x:Bs):
 ∃g c' w',(Builtin.append_ #[52,52] 52 #[.slice q ws.length d,.slice (some ⟨w.heap.size,0,none⟩) 1 1]).run prog (w.alloc (.cells #[.string (A6 x)] 9))=.ok (.slice (some ⟨g,0,none⟩) (ws.length+1) c') w'/\Below E w w'/\w'.ownsRow E 9 1 (.slice (some ⟨g,0,none⟩) (ws.length+1) c') (ws++[x]).length (DY (ws++[x]))/\∀b,b<w.heap.size->(Value.slice q ws.length d).ownBlock≠some b->w'.heap[b]? =w.heap[b]? :=by
 obtain⟨g,c',w',h1,h2,h3,h4⟩:=C6 (t:=52) (e:=9) underlying52 O6 rF dE h hE #[.string (A6 x)] rfl Ny mL oM 52;refine⟨g,c',w',h1,h2,?_,h4⟩;rw[List.length_append,List.length_singleton,Rv];exact h3
def DW(i:Ax)(o:Nat):Int:=if o=1 then i.d else if o=2 then i.a else if o=3 then i.b else i.c
def Gl(i:Ax)(O:Nat):List Bs:=if EY O=true then [Ao i.n]else if O=1 then [BC i.bits]else []
theorem Lo{i:Ax}(O:Nat)(hO:i.op=(O:Int))(h1:1<=O)(h2:O<38):AJ i=DS i.op::((Dl i).map (fun o=>LS (DW i o))++Gl i O):=by
 obtain⟨r1,r2⟩:=MR O h2;obtain⟨s1,s2,s3⟩:=Jk O h2 h1;unfold AJ Dl Ay CU DR Gl;rw[hO];generalize (A5 (O:Int)).d=D at *;generalize (A5 (O:Int)).a=A at *;generalize (A5 (O:Int)).b=B at *;generalize (A5 (O:Int)).c=C at *;have hE:(if(A5 (O:Int)).n=7 then [BC i.bits]else if(A5 (O:Int)).n=0 then [] else [Ao i.n])=(if EY O=true then [Ao i.n]else if O=1 then [BC i.bits]else []):=by
  by_cases q:EY O=true
  .rw[if_pos q,if_neg (s1 q).2,if_neg (s1 q).1]
  .have q':EY O=false:=by simpa using q
   by_cases q1:O=1
   .rw[if_neg q,if_pos q1,if_pos (s2 q1).1]
   .rw[if_neg q,if_neg q1,s3 q' q1];rfl
 rw[hE];by_cases hd:D=0<;>by_cases ha:A=0
 .simp[hd,ha,r1 ha,r2 (r1 ha)]
 .by_cases hb:B=0
  .simp[hd,ha,hb,r2 hb,DW]
  .by_cases hc:C=0
   .simp[hd,ha,hb,hc,DW]
   .simp[hd,ha,hb,hc,DW]
 .simp[hd,ha,r1 ha,r2 (r1 ha),DW]
 .by_cases hb:B=0
  .simp[hd,ha,hb,r2 hb,DW]
  .by_cases hc:C=0
   .simp[hd,ha,hb,hc,DW]
   .simp[hd,ha,hb,hc,DW]
theorem J5{l n:Int}(h:MN l n):0<=n/\n<=2147483647:=by
 unfold MN at h;split at h
 .rw[h];decide
 .exact h
theorem Mu{i:Ax}(h:ED i)(o:Nat):0<=DW i o/\DW i o<=2147483647:=by
 obtain⟨-,h1,h2,h3,h4,-⟩:=h;unfold DW;split
 .exact J5 h1
 split
 .exact J5 h2
 split
 .exact J5 h3
 .exact J5 h4
theorem TJ{l n b:Int}(h:Ol l n b):0<=n/\n<=2147483647:=by
 unfold Ol at h;split at h
 .rw[h.1];decide
 split at h
 .rw[h.1];decide
 .exact h.2
theorem S5{w:World}{X:Nat}{i:Ax}(h:w.rowIs X 39 7 (GN i)){o:Nat}(h1:1<=o)(h2:o<=4):w.cell? ⟨X,o,none⟩=some (.int .i64 (DW i o)):=by
 have h9:=h.cell (i:=o) oM;rcases(show o=1\/o=2\/o=3\/o=4 by omega)with rfl|rfl|rfl|rfl<;>exact h9
theorem UR(n:Int):(⟨#[114]⟩:ByteArray)++A6 (Ao n)=A6 (LS n):=by
 show A6 [114]++A6 (Ao n)=_;rw[B4];rfl
theorem NC(E WB p0 p1 p2 p3 p4:Nat)(p v:Value)(l:Bs)(i:Ax)(hi:ED i)(w:World)(hL:BL w)(h:FC E WB p0 p1 p2 p3 p4 p v l w):
 Calls prog 72 #[.pointer (some ⟨WB,0,none⟩),.agg #[.int .i64 i.op,.int .i64 i.d,.int .i64 i.a,.int .i64 i.b,.int .i64 i.c,.int .i64 i.n,.int .u32 i.bits]] w fun e w'=>∃q d,e=.returned (.slice q (AJ i).length d)/\w'.ownsRow w.heap.size 9 1 (.slice q (AJ i).length d) (AJ i).length (DY (AJ i))/\Below w.heap.size w w':=by
 obtain⟨O,hO⟩:∃O:Nat,i.op=(O:Int):=⟨i.op.toNat,by have:=hi.1;omega⟩
 have hO1:1<=O/\O<38:=by have:=hi.1;omega
 have hws:=Lo O hO hO1.1 hO1.2;have HGA:=A3 (Mu hi);have HNN:=A3 (TJ hi.2.2.2.2.2);have HBB:=A3 (JV hi.2.2.2.2.2);obtain⟨W,hW⟩:=gA (AJ i)
 rw[hW]at hws |-;obtain⟨V,hV⟩:=gA (w.alloc (.cells #[.int .i64 i.op,.int .i64 i.d,.int .i64 i.a,.int .i64 i.b,.int .i64 i.c,.int .i64 i.n,.int .u32 i.bits] 39))
 obtain⟨X,hXX⟩:=gA (w.heap.size)
 have hb0:Below w.heap.size w V:=by rw[<-hV];exact A2 _ _
 have hr:V.rowIs X 39 7 (GN i):=by
  rw[<-hV,<-hXX];exact World.rowIs_alloc w #[.int .i64 i.op,.int .i64 i.d,.int .i64 i.a,.int .i64 i.b,.int .i64 i.c,.int .i64 i.n,.int .u32 i.bits] 39 _ (fun j hj=>by
   rcases(show j=0\/j=1\/j=2\/j=3\/j=4\/j=5\/j=6 by have:j<7:=hj;omega)with rfl|rfl|rfl|rfl|rfl|rfl|rfl<;>rfl)
 have hv:=h.below hb0;have HLV:=A3 (hL.below hb0);have HB0:=A3 hb0;obtain⟨A,hA⟩:=gA (A6 (DS i.op))
 have hop:(Dy[O]?).getD []=DS i.op:=by unfold DS;rw[hO];rfl
 have a0:V.cell? ⟨p4,O,none⟩=some (.string A):=by rw[<-hA,<-hop];exact hv.ops.cell (i:=O) hO1.2
 have t0:V.cell? ⟨WB,6,none⟩=some (.slice (some ⟨p4,0,none⟩) 38 38):=hv.bd.row.cell (i:=6) dE;have x0:V.cell? ⟨X,0,none⟩=some (.int .i64 (O:Int)):=by rw[<-hO];exact hr.cell (i:=0) dE
 have HRX:Hid (∀x,Below V.heap.size V x->x.rowIs X 39 7 (GN i)):=fun x k=>hr.of_block (k.block _ hr.lt);have y0:V.drew.cell? ⟨WB,6,none⟩=some (.slice (some ⟨p4,0,none⟩) 38 38):=t0;have y1:V.drew.cell? ⟨X,0,none⟩=some (.int .i64 (O:Int)):=x0;have y2:V.drew.cell? ⟨p4,O,none⟩=some (.string A):=a0;have o1:(0:Int)<=(O:Int):=oM;have o2:(O:Int)<38:=oM;have o3:O<38:=hO1.2;have HOO:=A3 (And.intro hO hO1);have HWS:=A3 hws;have HAA:=A3 hA;have HSB:Hid (A6 (DS i.op)=A/\(∀b,b<V.heap.size->True)):=⟨hA,fun _ _=>trivial⟩
 have lV:V.heap.size=w.heap.size+1:=by rw[<-hV];simp
 have HLVS:=A3 lV;clear hi hW hb0 hr h hL hv hop hA hO1 hws lV;go_enter func72,ntmps72;rw[hO]at hV |-;go_upto_region 1 with fail;try rw[hV]
 try rw[hXX]
 clear hV hXX hO;refine rG (fun v=>v.cell? ⟨WB,6,none⟩=some (.slice (some ⟨p4,0,none⟩) 38 38)/\v.cell? ⟨X,0,none⟩=some (.int .i64 (O:Int))/\v.cell? ⟨p4,O,none⟩=some (.string A)) fun yH=>?_;refine Tf 0 1 2 3 4 5 ?_;refine Tb 6 7 ?_;clear yH;refine Aw 8 fun K hK=>?_;go_simp;refine AU hK fun yH=>?_;clear hK K;refine Bn 9 ?_;refine wpAnyH_done kR ?_ _;obtain⟨E1,hE1⟩:=gA (V.heap.size)
 obtain⟨V2,hV2⟩:=gA ((V.alloc (.cells #[.string A] 9)).drew)
 have hown:V2.ownsRow E1 9 1 (.slice (some ⟨E1,0,none⟩) 1 1) [DS i.op].length (DY [DS i.op]):=by
  rw[<-hV2,<-hE1,<-HAA.out];exact SC V.heap.size V.drew (DS i.op) (gF _)
 have hb2:Below E1 V V2:=by rw[<-hV2,<-hE1];exact(A4 V).trans (show Below V.heap.size V.drew _ from A2 V.drew _)
 have HE1:=A3 hE1;simp only[hE1];try rw[hV2]
 have HOWN:=A3 hown;have HB2:=A3 hb2;obtain⟨F,hF⟩:=gA (Dl i)
 have hF4:F.length<=4:=by rw[<-hF];exact Jh _
 have HFI:Hid ((∀o∈F,1<=o/\o<=4)/\Dl i=F):=by rw[<-hF];exact⟨Qx,rfl⟩
 have KF:=H0 X i (by rw[HOO.1];omega) V2 (Ic (HRX.out V2 (by rw[hE1];exact hb2)));rw[hF]at KF;obtain⟨NF,hNF⟩:∃N,F.length=N:=⟨_,rfl⟩
 rw[hNF]at KF hF4;have HNF:=A3 hNF;have KF':=A3 KF;have HHE:Hid (∀x,Below E1 V x->E1<=x.heap.size):=fun x k=>by have:=k.size;have:=HE1.out;omega
 have HR7:Hid (∀x,Below E1 V x->x.rowIs X 39 7 (GN i)):=fun x k=>HRX.out x (by rw[HE1.out];exact k);have HL7:Hid (∀x,Below E1 V x->BL x):=fun x k=>HLV.out.below (by rw[HE1.out];exact k);clear hown hb2 hF KF hNF hV2 hE1 y0 y1 y2 a0 t0 x0 o1 o2 o3;go_upto_block 0 with(go_at_call 83;(with_reducible refine KF'.out.mono ?_);rintro e9 w5 ⟨q5,d5,rfl,ho5,hb5⟩;have H5:=A3 (And.intro ho5 hb5);clear ho5 hb5)
 have HST:Hid (w5.ownsRow E1 9 1 (.slice (some ⟨E1,0,none⟩) 1 1) [DS i.op].length (DY [DS i.op])/\w5.ownsRow V2.heap.size 143 1 (.slice q5 NF d5) NF (Di X F)/\Below E1 V w5):=⟨Ag HOWN.out H5.2,H5.1,HB2.trans (H5.2.mono (HHE.out _ HB2.out))⟩
 clear KF';go_wp2_with fail
 go_loopw [5,19] (fun lv iv wx=>∃ (j N:Nat) (q:Option Addr) (d:Nat),j<=NF/\iv=.int .i64 (j:Int)/\lv=.slice q N d/\Hid (N=(DS i.op::(F.take j).map (fun o=>LS (DW i o))).length/\wx.ownsRow E1 9 1 (.slice q N d) N (DY (DS i.op::(F.take j).map (fun o=>LS (DW i o))))/\wx.ownsRow V2.heap.size 143 1 (.slice q5 NF d5) NF (Di X F)/\Below E1 V wx)) (fun _ iv _=>NF-(intOf iv).toNat)
 case atStart=>exact⟨0,1,_,_,gJ _,rfl,rfl,rfl,HST.1,HST.2.1,HST.2.2⟩
 case round=>
  clear HST;obtain⟨j,N,q,d,hj,rfl,rfl,HJ⟩:=hrel;obtain⟨jn,j1,j2,j3⟩:=HJ.out;obtain⟨ws,hws⟩:=gA (DS i.op::(F.take j).map (fun o=>LS (DW i o)))
  have hwl:ws.length=j+1:=by rw[<-hws,List.length_cons,List.length_map,List.length_take];have:=HNF.out;omega
  rw[hws]at jn j1;have HJN:=A3 jn;have HW0:=A3 hws;by_cases hlt:j<NF
  .have hjl:j<F.length:=by have:=HNF.out;omega
   have e1:(j:Int)<(NF:Int):=oM;have i1:(0:Int)<=(j:Int):=oM;obtain⟨gb,rfl,hgc⟩:∃gb,q5=some ⟨gb,0,none⟩/\wr.cell? ⟨gb,j,none⟩=some (.pointer (some ⟨X,F[j],none⟩)):=by
    rcases j2.2 with⟨e1,e2⟩|⟨gb,cap,cur,e1,-,-⟩
    .exact absurd e2 oM
    .simp only[Value.slice.injEq]at e1;have hob:(Value.slice q5 NF d5).ownBlock=some gb:=by rw[e1.1];rfl
     have hc:=j2.cells hob j (.pointer (some ⟨X,F[j],none⟩)) (by simp[Di,hjl]);have hadd:(⟨gb,0,none⟩:Addr).add j=⟨gb,j,none⟩:=by unfold Addr.add;split<;>simp_all
     rw[hadd]at hc;exact⟨gb,e1.1,hc⟩
   obtain⟨ho1,ho2⟩:=HFI.1 F[j] (gD hjl);have xo:=S5 (HR7.out wr j3) ho1 ho2;have hnx:DS i.op::(F.take (j+1)).map (fun o=>LS (DW i o))=ws++[LS (DW i F[j])]:=by
    rw[List.take_succ_eq_append_getElem hjl,List.map_append,<-hws];rfl
   obtain⟨o,hoe⟩:=gA (F[j])
   rw[hoe]at hgc ho1 ho2 xo hnx;obtain⟨m,hm⟩:=gA (DW i o)
   have hmb:=HGA.out o;rw[hm]at xo hnx hmb;obtain⟨S,hS⟩:=gA (A6 (Ao m))
   have sS:S.size<=10:=by rw[<-hS,<-A9,AZ];exact Bg hmb.2
   have s1:¬9223372036854775807<1+S.size:=oM;have HN:Hid (Calls prog 69 #[.int .i64 m] wr fun e w'=>e=.returned (.string S)/\Below wr.heap.size wr w'):=by
    show Calls _ _ _ _ _;rw[<-hS,<-C0 hmb.1];exact Cj m oM oM wr (HL7.out wr j3)
   have HG:Hid (∀x,Below wr.heap.size wr x->∃g c' w',(Builtin.append_ #[52,52] 52 #[.slice q N d,.slice (some ⟨x.heap.size,0,none⟩) 1 1]).run prog (x.alloc (.cells #[.string ((⟨#[114]⟩:ByteArray)++S)] 9))=.ok (.slice (some ⟨g,0,none⟩) (N+1) c') w'/\w'.ownsRow E1 9 1 (.slice (some ⟨g,0,none⟩) (N+1) c') (N+1) (DY (ws++[LS m]))/\w'.ownsRow V2.heap.size 143 1 (.slice (some ⟨gb,0,none⟩) NF d5) NF (Di X F)/\Below E1 V w'):=fun x k=>by
    have hx3:=j3.trans (k.mono (HHE.out wr j3));subst jn;have jx:=Ag j1 k;have jp:=Ag j2 k;obtain⟨g,c',w',h1,h2,h3,h4⟩:=JW jx (HHE.out x hx3) oM (LS m);refine⟨g,c',w',by rw[<-hS,UR];exact h1,by simpa using h3,?_,hx3.trans h2⟩;exact Aa jp fun b hb=>h4 b (jp.lt b hb).2 (Al jp jx dE b hb)
   have wi:IntKind.i64.wrap ((j:Int)+1)=((j+1:Nat):Int):=by rw[IntKind.wrap_i64];omega
   have HNX:=A3 hnx;clear j1 j2 j3 HJ hws hnx hoe hm hmb hS sS hlt hjl hwl jn;go_wp2_with(first
    |(go_at_call 69;(with_reducible refine HN.out.mono ?_);rintro e9 w7 ⟨rfl,hb7⟩;obtain⟨g,c',w8,hrun,k1,k2,k3⟩:=HG.out w7 hb7;have xo7:=kc hb7 xo;have HRUN:=A3 hrun;have H8:=A3 (And.intro k1 (And.intro k2 k3));clear hrun k1 k2 k3 hb7)
    |(at_builtin;refine Fa rF _ _ _ _ rF _ _ _ rF rF HRUN.out ?_;try simp only[Act.put,List.setIfInBounds_toArray,List.set_cons_zero,List.set_cons_succ]))
   go_roundw
   case rel=>exact⟨j+1,N+1,_,_,oM,gN,rfl,by rw[HNX.out,List.length_append,<-HJN.out];rfl,by rw[HNX.out];exact H8.1,H8.2.1,H8.2.2⟩
   case measure=>simp[intOf];omega
  .have e1:¬ (j:Int)<(NF:Int):=oM;have hall:F.take j=F:=List.take_of_length_le (by have:=HNF.out;omega);have hWs:ws++Gl i O=W:=by rw[HWS.out,<-hws,hall,HFI.2];rfl
   have hr7:=HR7.out wr j3;obtain⟨x0,x1,x2,x3,x4,x5,x6⟩:=Ca hr7;rw[HOO.1]at x0;have KH:=A3 (fun x=>I0 O x);have KB:=A3 (fun x=>HY O x);have HFIN:Hid (∀x,Below E1 V x->Below w.heap.size w x):=fun x k=>HB0.trans (k.mono (by have:=HE1.out;have:=HLVS.out;omega));have hEw:w.heap.size<=E1:=by have:=HE1.out;have:=HLVS.out;omega
   have HEW:=A3 hEw;have HG:Hid (∀ (x:World) (y:Bs),Below wr.heap.size wr x->∃g c' w',(Builtin.append_ #[52,52] 52 #[.slice q N d,.slice (some ⟨x.heap.size,0,none⟩) 1 1]).run prog (x.alloc (.cells #[.string (A6 y)] 9))=.ok (.slice (some ⟨g,0,none⟩) (N+1) c') w'/\w'.ownsRow E1 9 1 (.slice (some ⟨g,0,none⟩) (N+1) c') (N+1) (DY (ws++[y]))/\Below E1 V w'/\w'.rowIs X 39 7 (GN i)):=fun x y k=>by
    have hx3:=j3.trans (k.mono (HHE.out wr j3));subst jn;have jx:=Ag j1 k;obtain⟨g,c',w',h1,h2,h3,h4⟩:=JW jx (HHE.out x hx3) oM y;exact⟨g,c',w',h1,by simpa using h3,hx3.trans h2,HR7.out w' (hx3.trans h2)⟩
   have HJ1:=A3 (And.intro j1 j3);have HLW:=A3 (HL7.out wr j3);clear hall hws hr7 j1 j2 j3 HJ hlt hwl x1 x2 x3 x4 hEw jn;cases hnb:EY O with
   |true=>
    have hE:Gl i O=[Ao i.n]:=by unfold Gl;rw[if_pos hnb]
    have hO1:decide (O=1)=false:=by
     by_cases q:O=1
     .subst q;exact absurd hnb dE
     .simpa using q
    rw[hnb]at KH;rw[hO1]at KB;rw[hE]at hWs;have HWW:=A3 hWs;have HNM:Hid (Calls prog 69 #[.int .i64 i.n] wr fun e w'=>e=.returned (.string (A6 (Ao i.n)))/\Below wr.heap.size wr w'):=by
     show Calls _ _ _ _ _;rw[<-C0 HNN.1];exact Cj i.n (by have:=HNN.out;omega) (by have:=HNN.out;omega) wr HLW.out
    obtain⟨S,hS⟩:=gA (A6 (Ao i.n))
    rw[hS]at HNM;have HS:=A3 hS;clear hnb hO1 hE hWs hS x6;go_wp2_with(first
     |(go_at_call 85;(with_reducible refine(KH.out _).mono ?_);rintro e9 w7 ⟨rfl,hw7⟩;have hw8:=hw7.symm;subst hw8)
     |(go_at_call 86;(with_reducible refine(KB.out _).mono ?_);rintro e9 w7 ⟨rfl,hw7⟩;have hw8:=hw7.symm;subst hw8)
     |(go_at_call 69;(with_reducible refine HNM.out.mono ?_);rintro e9 w7 ⟨rfl,hb7⟩;obtain⟨g,c',w8,hrun,k1,k2,k3⟩:=HG.out w7 (Ao i.n) hb7;rw[HS.out]at hrun;have HRUN:=A3 hrun;have H8:=A3 (And.intro k1 k2);have z0:w8.cell? ⟨X,0,none⟩=some (.int .i64 (O:Int)):=(by rw[<-HOO.out.1];exact k3.cell (i:=0) dE);clear hrun k1 k2 k3 hb7 x0 x5)
     |(at_builtin;refine Fa rF _ _ _ _ rF _ _ _ rF rF HRUN.out ?_;try simp only[Act.put,List.setIfInBounds_toArray,List.set_cons_zero,List.set_cons_succ]))
    exact XP
   |false=>
    by_cases q1:O=1
    .have hE:Gl i O=[BC i.bits]:=by unfold Gl;rw[if_neg (by rw[hnb];decide),if_pos q1]
     have hO1:decide (O=1)=true:=by simpa using q1
     rw[hnb]at KH;rw[hO1]at KB;rw[hE]at hWs;have HWW:=A3 hWs;have HXX:Hid (Calls prog 110 #[.int .u32 i.bits] wr fun e w'=>e=.returned (.string (A6 (BC i.bits)))/\Below wr.heap.size wr w'):=by
      show Calls _ _ _ _ _;rw[show A6 (BC i.bits)=CE i.bits from by unfold BC A6;simp];exact Fe i.bits HBB.1 HBB.2 wr
     obtain⟨S,hS⟩:=gA (A6 (BC i.bits))
     rw[hS]at HXX;have HS:=A3 hS;clear hnb hO1 hE hWs hS x5 q1;go_wp2_with(first
      |(go_at_call 85;(with_reducible refine(KH.out _).mono ?_);rintro e9 w7 ⟨rfl,hw7⟩;have hw8:=hw7.symm;subst hw8)
      |(go_at_call 86;(with_reducible refine(KB.out _).mono ?_);rintro e9 w7 ⟨rfl,hw7⟩;have hw8:=hw7.symm;subst hw8)
      |(go_at_call 110;(with_reducible refine HXX.out.mono ?_);rintro e9 w7 ⟨rfl,hb7⟩;obtain⟨g,c',w8,hrun,k1,k2,k3⟩:=HG.out w7 (BC i.bits) hb7;rw[HS.out]at hrun;have HRUN:=A3 hrun;have H8:=A3 (And.intro k1 k2);clear hrun k1 k2 k3 hb7 x0 x6)
      |(at_builtin;refine Fa rF _ _ _ _ rF _ _ _ rF rF HRUN.out ?_;try simp only[Act.put,List.setIfInBounds_toArray,List.set_cons_zero,List.set_cons_succ]))
     exact XP
    .have hE:Gl i O=[]:=by unfold Gl;rw[if_neg (by rw[hnb];decide),if_neg q1]
     have hO1:decide (O=1)=false:=by simpa using q1
     rw[hnb]at KH;rw[hO1]at KB;rw[hE,List.append_nil]at hWs;have HWW:=A3 hWs;clear hnb hO1 hE hWs x5 x6 q1;go_wp2_with(first
      |(go_at_call 85;(with_reducible refine(KH.out _).mono ?_);rintro e9 w7 ⟨rfl,hw7⟩;have hw8:=hw7.symm;subst hw8)
      |(go_at_call 86;(with_reducible refine(KB.out _).mono ?_);rintro e9 w7 ⟨rfl,hw7⟩;have hw8:=hw7.symm;subst hw8))
     refine bodyPost_ret (by simp[results,results72,go_sem, *];try rfl) rfl ?_;refine⟨q,d,?_,?_,HFIN.out _ HJ1.2⟩
     .rw[<-HWW.out,<-HJN.out]
     .rw[<-HWW.out,<-HJN.out];exact C2 HJ1.1 HEW.out
def E2(ls:List Bs):Bs:=ls.flatMap fun x=>x++[10]
theorem Fx(ls:List Bs)(x:Bs):E2 (ls++[x])=E2 ls++(x++[10]):=by simp[E2]
theorem Ts(a b:List Bs):E2 (a++b)=E2 a++E2 b:=by simp[E2]
def Vv(c:Cd):List Bs:=B5::(c.sign.map Bh).map A7
def Vb(c:Cd):List Bs:=Vv c++(Bu 0 c.regs).map A7
def Ut(c:Cd):List Bs:=Vb c++(B2 0 c.slots).map A7
def Qf(c:Cd)(j:Nat):List Bs:=B5::((c.sign.take j).map Bh).map A7
def On(c:Cd)(j:Nat):List Bs:=Vv c++(Bu 0 (c.regs.take j)).map A7
def Oo(c:Cd)(j:Nat):List Bs:=Vb c++(B2 0 (c.slots.take j)).map A7
def Oq(c:Cd)(j:Nat):List Bs:=Ut c++((c.list.take j).map AJ).map A7
theorem Iz:∀ (a b:List Ty) (n:Nat),∃r,Bu n (a++b)=Bu n a++r
 |[],b,n=>⟨Bu n b,by simp[Bu]⟩
 |t::a,b,n=>by
  obtain⟨r,hr⟩:=Iz a b (n+1);exact⟨r,by rw[List.cons_append,Bu,Bu,hr];rfl⟩
theorem Hh:∀ (a b:List Sl) (n:Nat),∃r,B2 n (a++b)=B2 n a++r
 |[],b,n=>⟨B2 n b,by simp[B2]⟩
 |t::a,b,n=>by
  obtain⟨r,hr⟩:=Hh a b (n+1);exact⟨r,by rw[List.cons_append,B2,B2,hr];rfl⟩
theorem Em(c:Cd):Dp c=Ut c++(c.list.map AJ).map A7:=by
 unfold Dp Fb Ut Vb Vv;simp
theorem UF(c:Cd)(j:Nat):∃r,Dp c=Qf c j++r:=by
 refine⟨((c.sign.drop j).map Bh).map A7++((Bu 0 c.regs).map A7++((B2 0 c.slots).map A7++(c.list.map AJ).map A7)),?_⟩;rw[Em];unfold Ut Vb Vv Qf;have:c.sign.map Bh=(c.sign.take j).map Bh++(c.sign.drop j).map Bh:=by rw[<-List.map_append,List.take_append_drop]
 rw[this,List.map_append];simp only[List.append_assoc,List.cons_append]
theorem UG(c:Cd)(j:Nat):∃r,Dp c=On c j++r:=by
 obtain⟨r,hr⟩:=Iz (c.regs.take j) (c.regs.drop j) 0;rw[List.take_append_drop]at hr;refine⟨r.map A7++((B2 0 c.slots).map A7++(c.list.map AJ).map A7),?_⟩;rw[Em];unfold Ut Vb On;rw[hr];simp
theorem UH(c:Cd)(j:Nat):∃r,Dp c=Oo c j++r:=by
 obtain⟨r,hr⟩:=Hh (c.slots.take j) (c.slots.drop j) 0;rw[List.take_append_drop]at hr;refine⟨r.map A7++(c.list.map AJ).map A7,?_⟩;rw[Em];unfold Ut Oo;rw[hr];simp
theorem UI(c:Cd)(j:Nat):∃r,Dp c=Oq c j++r:=by
 refine⟨((c.list.drop j).map AJ).map A7,?_⟩;rw[Em];unfold Oq;have:c.list.map AJ=(c.list.take j).map AJ++(c.list.drop j).map AJ:=by rw[<-List.map_append,List.take_append_drop]
 rw[this];simp
theorem Fm{c:Cd}(h:RH c){a:List Bs}(ha:∃r,Dp c=a++r):(E2 a).length<=1000000000:=by
 obtain⟨r,hr⟩:=ha;have h1:=Hk h;have h2:D5 c=E2 a++E2 r:=by rw[<-Ts,<-hr];rfl
 rw[h2,List.length_append]at h1;omega
theorem Qg{c:Cd}{j:Nat}(h:j<c.sign.length):E2 (Qf c (j+1))=E2 (Qf c j)++(A7 (Bh c.sign[j])++[10]):=by
 rw[<-Fx];unfold Qf;rw[List.take_succ_eq_append_getElem h,List.map_append,List.map_append];rfl
theorem Qh{c:Cd}{j:Nat}(h:j<c.regs.length):E2 (On c (j+1))=E2 (On c j)++(A7 (CI (j:Int) c.regs[j])++[10]):=by
 rw[<-Fx];unfold On;rw[List.take_succ_eq_append_getElem h,H9,List.length_take,show 0+min j c.regs.length=j by omega];simp
theorem Qi{c:Cd}{j:Nat}(h:j<c.slots.length):E2 (Oo c (j+1))=E2 (Oo c j)++(A7 (Bv (j:Int) c.slots[j])++[10]):=by
 rw[<-Fx];unfold Oo;rw[List.take_succ_eq_append_getElem h,Gf,List.length_take,show 0+min j c.slots.length=j by omega];simp
theorem Qj{c:Cd}{j:Nat}(h:j<c.list.length):E2 (Oq c (j+1))=E2 (Oq c j)++(A7 (AJ c.list[j])++[10]):=by
 rw[<-Fx];unfold Oq;rw[List.take_succ_eq_append_getElem h,List.map_append,List.map_append,<-List.append_assoc];rfl
theorem SH{c:Cd}:Qf c c.sign.length=On c 0:=by unfold Qf On Vv;simp[Bu]
theorem SI{c:Cd}:On c c.regs.length=Oo c 0:=by unfold On Oo Vb;simp[B2]
theorem SJ{c:Cd}:Oo c c.slots.length=Oq c 0:=by unfold Oo Oq Ut;simp
theorem SL{c:Cd}:E2 (Oq c c.list.length)=D5 c:=by
 unfold D5;rw[Em];unfold Oq;simp[E2]
theorem MF{a b:Bs}{m:List Bs}(h:m≠[]):A7 [a,b,A7 m]=A7 (a::b::m):=by
 rw[show A7 (a::b::m)=a++32::A7 (b::m)from Be sM,Be h];rfl
theorem Tp(s:Sl):((if s.keep then At else Av)::(AT s.ty++[if s.ty.kind=2 then Ao s.int_ else BC s.bits]))≠[]:=sM
theorem Tq(s:ByteArray):A6 (bs s)=s:=by cases s;simp[bs,A6]
theorem Dc(w:World)(ws:List Bs)(cs:Array Value)(h:cs.toList=ws.map fun x=>.string (A6 x))(i:Nat)(hi:i<ws.length):(w.alloc (.cells cs 9)).cell? ⟨w.heap.size,i,none⟩=some (.string (A6 ws[i])):=by
 have h9:=(D1 ws w cs 9 h).cell hi;rw[h9,gB hi];rfl
theorem Iv{E:Nat}{w:World}{q:Option Addr}{d:Nat}{ws:List Bs}(h:w.ownsRow E 9 1 (.slice q ws.length d) ws.length (DY ws))(h0:0<ws.length):∃g:Nat,q=some ⟨g,0,none⟩/\ws.length<=d/\∀i (hi:i<ws.length),w.cell? ⟨g,i,none⟩=some (.string (A6 ws[i])):=by
 rcases h.2 with⟨e1,e2⟩|⟨g,cap,cur,e1,hE,hg,hn,-⟩
 .exact absurd e2 oM
 .simp only[Value.slice.injEq]at e1;refine⟨g,e1.1,by rw[e1.2.2];exact hn,fun i hi=>?_⟩;have hob:(Value.slice q ws.length d).ownBlock=some g:=by rw[e1.1];rfl
  have hc:=h.cells hob i (.string (A6 ws[i])) (by simp[DY,hi]);have hadd:(⟨g,0,none⟩:Addr).add i=⟨g,i,none⟩:=by unfold Addr.add;split<;>simp_all
  rw[hadd]at hc;exact hc
theorem MH{p:Bc}(h:AK p=true):p.kind=1\/p.kind=2:=by
 unfold AK at h;simp only[Bool.and_eq_true,Bool.or_eq_true,beq_iff_eq]at h;exact h.1.2
theorem PM{p:Bc}(h:AK p=true):0<=p.len/\p.len<=4096:=by
 unfold AK at h;simp only[Bool.and_eq_true,decide_eq_true_eq]at h;exact⟨oM,h.2.2⟩
theorem Gy{n:Int}(h:n<=2147483647):(Ao n).length<=1000000:=gH (Bg h) dE
theorem UD{p:Bc}(h:AK p=true):∀y∈([AN,bs p.name,C1 p.kind,Ao p.len]:List Bs),y.length<=1000000:=by
 intro y hy;have h1:=PM h;simp only[List.mem_cons,List.not_mem_nil,or_false]at hy;rcases hy with rfl|rfl|rfl|rfl
 .decide
 .unfold AK B1 at h;simp only[Bool.and_eq_true,decide_eq_true_eq]at h;rw[A9];have:=h.1.1.1.2;omega
 .rcases MH h with e|e<;>rw[e]<;>decide
 .exact Gy oM
theorem UP{j:Nat}(hj:j<=16384){t:Ty}(h:EE t):∀y∈([BU,Ao (j:Int),A7 (AT t)]:List Bs),y.length<=1000000:=by
 intro y hy;simp only[List.mem_cons,List.not_mem_nil,or_false]at hy;rcases hy with rfl|rfl|rfl
 .decide
 .exact Gy oM
 .exact gH (Mc h) dE
theorem To{j:Nat}(hj:j<=4096){s:Sl}(h:Hv s):∀y∈([B7,Ao (j:Int),A7 ((if s.keep then At else Av)::(AT s.ty++[if s.ty.kind=2 then Ao s.int_ else BC s.bits]))]:List Bs),y.length<=1000000:=by
 intro y hy;simp only[List.mem_cons,List.not_mem_nil,or_false]at hy;rcases hy with rfl|rfl|rfl
 .decide
 .exact Gy oM
 .rw[Dn (G2 _)];have h1:=Mc h.1;have h2:(if s.keep=true then At else Av).length<=5:=by split<;>decide
  have h3:(if s.ty.kind=2 then Ao s.int_ else BC s.bits).length<=10:=by
   have h4:=h.2;split
   .rename_i q;rw[if_pos q]at h4;exact Bg h4.2.2
   .show(CE s.bits).data.toList.length<=10;have:=Er s.bits;rw[<-A9]at this;show(bs (CE s.bits)).length<=10;omega
  simp only[List.length_append,List.length_cons];omega
theorem S9{i:Ax}(h:ED i):1<=(AJ i).length/\(AJ i).length<=6:=by
 rw[Lo i.op.toNat U5 U5 U5];have h1:=Jh i;have h2:(Gl i i.op.toNat).length<=1:=by unfold Gl;split;simp;split<;>simp
 rw[List.length_cons,List.length_append,List.length_map];omega
theorem Uo{i:Ax}(h:ED i):∀y∈AJ i,y.length<=1000000:=by
 have h9:=h;rw[Lo i.op.toNat U5 U5 U5];intro y hy;rcases List.mem_cons.1 hy with rfl|hy
 .obtain⟨k,hk⟩:∃k:Nat,i.op=(k:Int)+1:=⟨(i.op-1).toNat,by have:=h.1;omega⟩
  rw[hk];exact gH (It k U5) dE
 rcases List.mem_append.1 hy with hy|hy
 .obtain⟨o,-,rfl⟩:=List.mem_map.1 hy;show(114::Ao _).length<=_;rw[List.length_cons];have:=Bg (Mu h9 o).2;omega
 .unfold Gl at hy;split at hy
  .rw[List.mem_singleton.1 hy];exact Gy (TJ h.2.2.2.2.2).2
  split at hy
  .rw[List.mem_singleton.1 hy];show(bs (CE i.bits)).length<=_;rw[A9,Er];decide
  .cases hy
theorem Mb(C:Nat)(c:Cd)(hk:RH c)(v0 v1 v2 v3:Value)(w:World)(hL:BL w)(hr:w.rowIs C 27 4 (f4 v0 v1 v2 v3))(hc:DO w v0 v1 v2 v3 c):
 Calls prog 45 #[.pointer (some ⟨C,0,none⟩)] w fun e w'=>e=.returned (.string (A6 (D5 c)))/\Below w.heap.size w w':=by
 obtain⟨q0,d0,rfl,-⟩:=id hc.sign;obtain⟨q1,d1,rfl,-⟩:=id hc.regs;obtain⟨q2,d2,rfl,-⟩:=id hc.slots;obtain⟨q3,d3,rfl,-⟩:=id hc.list;obtain⟨N0,hN0⟩:∃N,c.sign.length=N:=⟨_,rfl⟩
 obtain⟨N1,hN1⟩:∃N,c.regs.length=N:=⟨_,rfl⟩
 obtain⟨N2,hN2⟩:∃N,c.slots.length=N:=⟨_,rfl⟩
 obtain⟨N3,hN3⟩:∃N,c.list.length=N:=⟨_,rfl⟩
 rw[hN0,hN1,hN2,hN3]at hc hr;have HN:=A3 (And.intro hN0 (And.intro hN1 (And.intro hN2 hN3)));obtain⟨E,hE⟩:=gA (w.heap.size)
 have HE:=A3 hE;have HK:=A3 hk;have HC:Hid (∀x,Below E w x->x.cell? ⟨C,0,none⟩=some (.slice q0 N0 d0)/\x.cell? ⟨C,1,none⟩=some (.slice q1 N1 d1)/\x.cell? ⟨C,2,none⟩=some (.slice q2 N2 d2)/\x.cell? ⟨C,3,none⟩=some (.slice q3 N3 d3)/\DO x (.slice q0 N0 d0) (.slice q1 N1 d1) (.slice q2 N2 d2) (.slice q3 N3 d3) c):=fun x k=>by
  rw[<-hE]at k;have hr':=hr.of_block (k.block _ hr.lt);obtain⟨a0,a1,a2,a3⟩:=c4 hr';exact⟨a0,a1,a2,a3,hc.below k⟩
 have HLA:Hid (∀x,Below E w x->BL x):=fun x k=>by rw[<-hE]at k;exact hL.below k
 clear hN0 hN1 hN2 hN3 hr hc hk hL;go_enter func45,ntmps45;go_upto_region 2 with(first
  |(go_at_call 22;(with_reducible refine(EM _).mono ?_);rintro e w1 ⟨P0,rfl,g1,r1,b1⟩)
  |(go_at_call 23;(with_reducible refine(EI _).mono ?_);rintro e w2 ⟨P1,rfl,g2,r2,b2⟩)
  |(go_at_call 24;(with_reducible refine(EP _).mono ?_);rintro e w3 ⟨P2,rfl,g3,r3,b3⟩)
  |(go_at_call 25;(with_reducible refine(EH _).mono ?_);rintro e w4 ⟨P3,rfl,g4,r4,b4⟩)
  |(go_at_call 26;(with_reducible refine(Gb _).mono ?_);rintro e w5 ⟨P4,rfl,g5,r5,b5⟩))
 obtain⟨V,hV⟩:=gA (w5.alloc (.cells #[.pointer none,.slice none 0 0,.slice (some ⟨P0,0,none⟩) 3 3,.slice (some ⟨P1,0,none⟩) 3 3,.slice (some ⟨P2,0,none⟩) 4 4,.slice (some ⟨P3,0,none⟩) 2 2,.slice (some ⟨P4,0,none⟩) 38 38] 128))
 obtain⟨WB,hWB⟩:∃W,w5.heap.size=W:=⟨_,rfl⟩
 have hb0:Below w5.heap.size w5 V:=by rw[<-hV];exact A2 _ _
 have c5:=b5;have c4':=bel b4 c5;have c3':=bel b3 c4';have c2':=bel b2 c3';have c1':=bel b1 c2';have hlW:E<=WB:=by have:=c1'.size;omega
 have hA:FC E WB P0 P1 P2 P3 P4 (.pointer none) (.slice none 0 0) [] V:=by
  refine⟨⟨hlW,?_,⟨rfl,.inl ⟨rfl,rfl⟩⟩,.inl rfl⟩,?_,?_,?_,?_,?_⟩
  .rw[<-hV,<-hWB];exact World.rowIs_alloc w5 #[.pointer none,.slice none 0 0,.slice (some ⟨P0,0,none⟩) 3 3,.slice (some ⟨P1,0,none⟩) 3 3,.slice (some ⟨P2,0,none⟩) 4 4,.slice (some ⟨P3,0,none⟩) 2 2,.slice (some ⟨P4,0,none⟩) 38 38] _ _ (fun i hi=>by
    rcases(show i=0\/i=1\/i=2\/i=3\/i=4\/i=5\/i=6 by have:i<7:=hi;omega)with rfl|rfl|rfl|rfl|rfl|rfl|rfl<;>rfl)
  .exact(r1.of_block (c2'.block _ r1.lt)).of_block (hb0.block _ (Nat.lt_of_lt_of_le r1.lt c2'.size))
  .exact(r2.of_block (c3'.block _ r2.lt)).of_block (hb0.block _ (Nat.lt_of_lt_of_le r2.lt c3'.size))
  .exact(r3.of_block (c4'.block _ r3.lt)).of_block (hb0.block _ (Nat.lt_of_lt_of_le r3.lt c4'.size))
  .exact(r4.of_block (c5.block _ r4.lt)).of_block (hb0.block _ (Nat.lt_of_lt_of_le r4.lt c5.size))
  .exact r5.of_block (hb0.block _ r5.lt)
 have hBV:Below E w V:=by have h9:=bel c1' hb0;rw[hE]at h9;exact h9
 have HLINE:Hid (Calls prog 68 #[.pointer (some ⟨WB,0,none⟩),.slice (some ⟨V.heap.size,0,none⟩) 1 1] (V.alloc (.cells #[.string ⟨#[108,97,116,104,101,32,49]⟩] 9)) fun e w'=>e=.returned (.tuple #[])/\((∃p v,FC E WB P0 P1 P2 P3 P4 p v (E2 (Qf c 0)) w')/\Below E w w')):=by
  have hal:=A2 V (.cells #[.string ⟨#[108,97,116,104,101,32,49]⟩] 9);have hEV:E<=V.heap.size:=by have:=hb0.size;omega
  refine(CS E WB P0 P1 P2 P3 P4 _ _ [] V.heap.size [B5] 1 _ (hA.below hal) dE sM sM (fun y hy=>by rw[List.mem_singleton.1 hy];decide) (fun i hi=>Dc V [B5] _ rfl i hi) sM).mono ?_;rintro e w' ⟨h1,p',v',h2,h3,h4⟩;exact⟨h1,⟨p',v',h2⟩,(hBV.trans (hal.mono hEV)).trans h3⟩
 try rw[hV]
 try rw[hWB]
 clear hA hBV hlW c1' c2' c3' c4' c5 hb0 hV hWB r1 r2 r3 r4 r5 b1 b2 b3 b4 b5 g1 g2 g3 g4 g5 hE;go_upto_region 3 with(go_at_call 68;(with_reducible refine HLINE.out.mono ?_);rintro e u4 ⟨rfl,hq4⟩;have HPRE:=A3 hq4;clear hq4)
 obtain⟨z0,z1,z2,z3,-⟩:=HC.out u4 HPRE.2;go_wp2_with fail
 go_loopw [25] (fun iv wx=>∃j:Nat,j<=N0/\iv=.int .i64 (j:Int)/\Hid ((∃p v,FC E WB P0 P1 P2 P3 P4 p v (E2 (Qf c j)) wx)/\Below E w wx)) (fun iv _=>N0-(intOf iv).toNat)
 case atStart=>exact⟨0,gJ _,rfl,HPRE.out⟩
 case round=>
  clear z0 z1 z2 z3;clear HPRE;obtain⟨j,hj,rfl,HJ⟩:=hrel;obtain⟨⟨p,v,hA⟩,hB⟩:=HJ.out;by_cases hlt:j<N0
  .have hjl:j<c.sign.length:=by rw[HN.1];exact hlt
   obtain⟨-,-,-,-,hcv⟩:=HC.out wr hB;obtain⟨rb,ro,rfl,hcl⟩:=hcv.sign.at hjl;have hx:=HK.sign c.sign[j] (gD hjl);have hnext:=Qg hjl;obtain⟨x,hxe⟩:=gA (c.sign[j])
   rw[hxe]at hcl hx hnext;obtain⟨V,hV⟩:=gA (wr.alloc (.cells #[.string (x.name),.int .i64 (x.kind),.int .i64 (x.len)] 41))
   obtain⟨X,hXX⟩:=gA (wr.heap.size)
   have hbV:Below wr.heap.size wr V:=by rw[<-hV];exact A2 _ _
   have hrX:V.rowIs X 41 3 (g3 (.string (x.name)) (.int .i64 (x.kind)) (.int .i64 (x.len))):=by rw[<-hV,<-hXX];exact Cs _ _ _ _ _
   have hEr:E<=wr.heap.size:=by have:=hA.bd.le;have:=hA.bd.row.lt;omega
   have hBV:Below E w V:=hB.trans (hbV.mono hEr);have hAV:=hA.below hbV;have hXW:X≠WB:=by have:=hA.bd.row.lt;omega
   have y0:=hcl.at 0 (v:=.string (x.name)) rfl;rw[Nat.add_zero]at y0;have y1:=hcl.at 1 (v:=.int .i64 (x.kind)) rfl;have y2:=hcl.at 2 (v:=.int .i64 (x.len)) rfl;have n9:¬rb=wr.heap.size:=by have:rb<wr.heap.size:=Ad y0;omega
   have i1:(0:Int)<=(j:Int):=oM;have i2:(j:Int)<(N0:Int):=oM;have wi:IntKind.i64.wrap ((j:Int)+1)=((j+1:Nat):Int):=by have:=HK.s;rw[IntKind.wrap_i64];omega
   have hsh:=Fm HK.out (UF c j);have HLV:=A3 (HLA.out V hBV);obtain⟨A0,hA0⟩:∃A,A6 AN=A:=⟨_,rfl⟩
   obtain⟨LN,hLN⟩:∃A,A6 (Ao x.len)=A:=⟨_,rfl⟩
   obtain⟨NM,hNM⟩:∃A,x.name=A:=⟨_,rfl⟩
   obtain⟨KD,hKD,hKD3,hKT⟩:∃k:Nat,x.kind=(k:Int)/\k<3/\C1 x.kind=(CH[k]?).getD []:=by
    rcases MH hx with e|e
    .exact⟨1,e,dE,by rw[e];rfl⟩
    .exact⟨2,e,dE,by rw[e];rfl⟩
   obtain⟨A1,hA1⟩:∃A,A6 (C1 x.kind)=A:=⟨_,rfl⟩
   have hlen:=PM hx;have hwords:(#[.string A0,.string NM,.string A1,.string LN]:Array Value).toList=([AN,bs x.name,C1 x.kind,Ao x.len]:List Bs).map fun x=>.string (A6 x):=by
    show [.string A0,.string NM,.string A1,.string LN]=[Value.string (A6 AN),Value.string (A6 (bs x.name)),Value.string (A6 (C1 x.kind)),Value.string (A6 (Ao x.len))];rw[<-hA0,<-hLN,<-hA1];rw[<-hNM,Tq]
   have hwl:∀y∈([AN,bs x.name,C1 x.kind,Ao x.len]:List Bs),y.length<=1000000:=UD hx;have hFA:∀ (u:World) p' v' l',FC E WB P0 P1 P2 P3 P4 p' v' l' u->u.rowIs X 41 3 (g3 (.string (x.name)) (.int .i64 (x.kind)) (.int .i64 (x.len)))->u.cell? ⟨WB,2,none⟩=some (.slice (some ⟨P0,0,none⟩) 3 3)/\u.cell? ⟨P0,0,none⟩=some (.string A0)/\u.cell? ⟨WB,3,none⟩=some (.slice (some ⟨P1,0,none⟩) 3 3)/\u.cell? ⟨P1,KD,none⟩=some (.string A1)/\u.cell? ⟨X,0,none⟩=some (.string NM)/\u.cell? ⟨X,1,none⟩=some (.int .i64 (KD:Int))/\u.cell? ⟨X,2,none⟩=some (.int .i64 (x.len)):=fun u p' v' l' h9 hr9=>by
    refine⟨?_,?_,?_,?_,?_,?_,?_⟩
    .exact h9.bd.row.cell (i:=2) dE
    .rw[<-hA0];exact h9.sorts.cell (i:=0) dE
    .exact h9.bd.row.cell (i:=3) dE
    .rw[<-hA1,hKT];exact h9.kinds.cell (i:=KD) hKD3
    .rw[<-hNM];exact hr9.cell (i:=0) dE
    .rw[<-hKD];exact hr9.cell (i:=1) dE
    .exact hr9.cell (i:=2) dE
   have HFA:=A3 hFA;have HLINE:Hid (∀u,Below V.heap.size V u->Calls prog 68 #[.pointer (some ⟨WB,0,none⟩),.slice (some ⟨u.heap.size,0,none⟩) 4 4] (u.alloc (.cells #[.string A0,.string NM,.string A1,.string LN] 9)) fun e w'=>e=.returned (.tuple #[])/\((∃p v,FC E WB P0 P1 P2 P3 P4 p v (E2 (Qf c (j+1))) w')/\Below E w w')/\(w'.cell? ⟨WB,2,none⟩=some (.slice (some ⟨P0,0,none⟩) 3 3)/\w'.cell? ⟨P0,0,none⟩=some (.string A0)/\w'.cell? ⟨WB,3,none⟩=some (.slice (some ⟨P1,0,none⟩) 3 3)/\w'.cell? ⟨P1,KD,none⟩=some (.string A1)/\w'.cell? ⟨X,0,none⟩=some (.string NM)/\w'.cell? ⟨X,1,none⟩=some (.int .i64 (KD:Int))/\w'.cell? ⟨X,2,none⟩=some (.int .i64 (x.len)))):=fun u ku=>by
    have hu:=hAV.below ku;have hal:=A2 u (.cells #[.string A0,.string NM,.string A1,.string LN] 9);have hu2:=hu.below hal;have hru:=(hrX.of_block (ku.block _ hrX.lt)).of_block (hal.block _ (Nat.lt_of_lt_of_le hrX.lt ku.size));have hEV:E<=V.heap.size:=gH hEr hbV.size;refine(CS E WB P0 P1 P2 P3 P4 p v (E2 (Qf c j)) u.heap.size [AN,bs x.name,C1 x.kind,Ao x.len] 4 _ hu2 hsh sM sM hwl (fun i hi=>Dc u _ _ hwords i hi) sM).mono ?_;rintro e w' ⟨h1,p',v',h2,h3,h4⟩;refine⟨h1,⟨⟨p',v',by rw[hnext];exact h2⟩,((hBV.trans (ku.mono hEV)).trans (hal.mono (gH hEV ku.size))).trans h3⟩,hFA w' p' v' _ h2 (h4.row hru dE hXW)⟩
   have HN1:Hid (∀u,BL u->Calls prog 69 #[.int .i64 x.len] u fun e w'=>e=.returned (.string LN)/\Below u.heap.size u w'):=fun u hu=>by
    rw[<-hLN,<-C0 oM];exact Cj x.len oM oM u hu
   have HAV:=A3 hAV;have HRX:=A3 hrX;obtain⟨s0,s1,s2,s3,s4,s5,s6⟩:=hFA V p v _ hAV hrX;have HFV:Hid (∀u,Below V.heap.size V u->u.cell? ⟨WB,2,none⟩=some (.slice (some ⟨P0,0,none⟩) 3 3)/\u.cell? ⟨P0,0,none⟩=some (.string A0)/\u.cell? ⟨WB,3,none⟩=some (.slice (some ⟨P1,0,none⟩) 3 3)/\u.cell? ⟨P1,KD,none⟩=some (.string A1)/\u.cell? ⟨X,0,none⟩=some (.string NM)/\u.cell? ⟨X,1,none⟩=some (.int .i64 (KD:Int))/\u.cell? ⟨X,2,none⟩=some (.int .i64 (x.len))):=fun u ku=>HFA.out u p v _ (HAV.below ku) (HRX.of_block (ku.block _ HRX.lt));obtain⟨t0,t1,t2,t3,t4,t5,t6⟩:=HFV.out V.drew (A4 V);have k0:(0:Int)<=(KD:Int):=oM;have k3:(KD:Int)<3:=oM;clear hA hB HJ hlt hjl hcv hcl hx hnext hxe hbV hrX hEr hBV hAV hXW hsh hA0 hLN hwords hwl hFA hNM hKT hA1 hlen;go_upto_region 6 with fail;try rw[hNM]at hV
   try rw[hKD]at hV
   try rw[hV]
   try rw[hXX]
   clear hV hXX hKD;refine rG (fun v=>v.cell? ⟨WB,2,none⟩=some (.slice (some ⟨P0,0,none⟩) 3 3)/\v.cell? ⟨P0,0,none⟩=some (.string A0)/\v.cell? ⟨WB,3,none⟩=some (.slice (some ⟨P1,0,none⟩) 3 3)/\v.cell? ⟨P1,KD,none⟩=some (.string A1)/\v.cell? ⟨X,0,none⟩=some (.string NM)/\v.cell? ⟨X,1,none⟩=some (.int .i64 (KD:Int))/\v.cell? ⟨X,2,none⟩=some (.int .i64 (x.len))) fun yH=>?_;refine Tf 0 1 2 3 4 5 ?_;refine Tf 6 7 8 9 10 11 ?_;refine Tb 12 13 ?_;clear yH;refine Aw 14 fun K hK=>?_;go_simp;(go_at_call 69;(with_reducible refine(HN1.out _ (HLV.out.below (A4 V))).mono ?_);rintro e u2 ⟨rfl,bb2⟩;have hb3:=bel (A4 V) bb2;have HB2:=A3 hb3;obtain⟨m0,m1,m2,m3,m4,m5,m6⟩:=HFV.out u2 hb3;clear bb2 hb3);try(go_wp2_with fail)
   refine AU hK fun yH=>?_;clear hK K;clear yH;refine Aw 15 fun K hK=>?_;go_simp;refine AU hK fun yH=>?_;clear hK K;clear yH;refine Aw 16 fun K hK=>?_;go_simp;(go_at_call 68;(with_reducible refine(HLINE.out _ HB2.out).mono ?_);rintro e u4 ⟨rfl,hq4,o0,o1,o2,o3,o4,o5,o6⟩;have HQ4:=A3 hq4;clear hq4);exact WO
  .have e1:¬ (j:Int)<(N0:Int):=oM;have hje:j=c.sign.length:=by rw[HN.1];omega
   rw[hje,SH]at hA;obtain⟨z0,z1,z2,z3,-⟩:=HC.out wr hB;have HPRE:Hid ((∃p v,FC E WB P0 P1 P2 P3 P4 p v (E2 (On c 0)) wr)/\Below E w wr):=⟨⟨p,v,hA⟩,hB⟩
   clear hA hB HJ hje hlt hj;go_wp2_with fail;obtain⟨W1,hW1⟩:∃W,wr=W:=⟨_,rfl⟩
   go_loopw [52] (fun iv wx=>∃j:Nat,j<=N1/\iv=.int .i64 (j:Int)/\Hid ((∃p v,FC E WB P0 P1 P2 P3 P4 p v (E2 (On c j)) wx)/\Below E w wx)) (fun iv _=>N1-(intOf iv).toNat)
   case atStart=>exact⟨0,gJ _,rfl,HPRE.out⟩
   case round=>
    clear z0 z1 z2 z3 e1 hW1;clear HPRE;obtain⟨j,hj,rfl,HJ⟩:=hrel;obtain⟨⟨p,v,hA⟩,hB⟩:=HJ.out;by_cases hlt:j<N1
    .have hjl:j<c.regs.length:=by rw[HN.2.1];exact hlt
     obtain⟨-,-,-,-,hcv⟩:=HC.out wr hB;obtain⟨rb,ro,rfl,hcl⟩:=hcv.regs.at hjl;have hx:=HK.regs c.regs[j] (gD hjl);have hnext:=Qh hjl;obtain⟨x,hxe⟩:=gA (c.regs[j])
     rw[hxe]at hcl hx hnext;obtain⟨V,hV⟩:=gA (wr.alloc (.cells #[.int .i64 (x.kind),.int .i64 (x.par)] 43))
     obtain⟨X,hXX⟩:=gA (wr.heap.size)
     have hbV:Below wr.heap.size wr V:=by rw[<-hV];exact A2 _ _
     have hrX:V.rowIs X 43 2 (g2 (.int .i64 (x.kind)) (.int .i64 (x.par))):=by rw[<-hV,<-hXX];exact BJ _ _ _ _
     have hEr:E<=wr.heap.size:=by have:=hA.bd.le;have:=hA.bd.row.lt;omega
     have hBV:Below E w V:=hB.trans (hbV.mono hEr);have hAV:=hA.below hbV;have hXW:X≠WB:=by have:=hA.bd.row.lt;omega
     have y0:=hcl.at 0 (v:=.int .i64 (x.kind)) rfl;rw[Nat.add_zero]at y0;have y1:=hcl.at 1 (v:=.int .i64 (x.par)) rfl;have n9:¬rb=wr.heap.size:=by have:rb<wr.heap.size:=Ad y0;omega
     have i1:(0:Int)<=(j:Int):=oM;have i2:(j:Int)<(N1:Int):=oM;have wi:IntKind.i64.wrap ((j:Int)+1)=((j+1:Nat):Int):=by have:=HK.r;rw[IntKind.wrap_i64];omega
     have hsh:=Fm HK.out (UG c j);have HLV:=A3 (HLA.out V hBV);obtain⟨A0,hA0⟩:∃A,A6 BU=A:=⟨_,rfl⟩
     obtain⟨LN,hLN⟩:∃A,A6 (Ao (j:Int))=A:=⟨_,rfl⟩
     obtain⟨TT,hTT⟩:∃A,A6 (A7 (AT x))=A:=⟨_,rfl⟩
     have hwords:(#[.string A0,.string LN,.string TT]:Array Value).toList=([BU,Ao (j:Int),A7 (AT x)]:List Bs).map fun x=>.string (A6 x):=by
      show [.string A0,.string LN,.string TT]=[Value.string (A6 BU),Value.string (A6 (Ao (j:Int))),Value.string (A6 (A7 (AT x)))];rw[<-hA0,<-hLN,<-hTT]
     have hwl:∀y∈([BU,Ao (j:Int),A7 (AT x)]:List Bs),y.length<=1000000:=UP (by have:=HN.2.1;have:=HK.r;omega) hx;have hFA:∀ (u:World) p' v' l',FC E WB P0 P1 P2 P3 P4 p' v' l' u->u.rowIs X 43 2 (g2 (.int .i64 (x.kind)) (.int .i64 (x.par)))->u.cell? ⟨WB,2,none⟩=some (.slice (some ⟨P0,0,none⟩) 3 3)/\u.cell? ⟨P0,1,none⟩=some (.string A0)/\u.cell? ⟨X,0,none⟩=some (.int .i64 (x.kind))/\u.cell? ⟨X,1,none⟩=some (.int .i64 (x.par)):=fun u p' v' l' h9 hr9=>by
      refine⟨?_,?_,?_,?_⟩
      .exact h9.bd.row.cell (i:=2) dE
      .rw[<-hA0];exact h9.sorts.cell (i:=1) dE
      .exact hr9.cell (i:=0) dE
      .exact hr9.cell (i:=1) dE
     have HFA:=A3 hFA;have HLINE:Hid (∀u,Below V.heap.size V u->Calls prog 68 #[.pointer (some ⟨WB,0,none⟩),.slice (some ⟨u.heap.size,0,none⟩) 3 3] (u.alloc (.cells #[.string A0,.string LN,.string TT] 9)) fun e w'=>e=.returned (.tuple #[])/\((∃p v,FC E WB P0 P1 P2 P3 P4 p v (E2 (On c (j+1))) w')/\Below E w w')/\(w'.cell? ⟨WB,2,none⟩=some (.slice (some ⟨P0,0,none⟩) 3 3)/\w'.cell? ⟨P0,1,none⟩=some (.string A0)/\w'.cell? ⟨X,0,none⟩=some (.int .i64 (x.kind))/\w'.cell? ⟨X,1,none⟩=some (.int .i64 (x.par)))):=fun u ku=>by
      have hu:=hAV.below ku;have hal:=A2 u (.cells #[.string A0,.string LN,.string TT] 9);have hu2:=hu.below hal;have hru:=(hrX.of_block (ku.block _ hrX.lt)).of_block (hal.block _ (Nat.lt_of_lt_of_le hrX.lt ku.size));have hEV:E<=V.heap.size:=gH hEr hbV.size;refine(CS E WB P0 P1 P2 P3 P4 p v (E2 (On c j)) u.heap.size [BU,Ao (j:Int),A7 (AT x)] 3 _ hu2 hsh sM sM hwl (fun i hi=>Dc u _ _ hwords i hi) sM).mono ?_;rintro e w' ⟨h1,p',v',h2,h3,h4⟩;refine⟨h1,⟨⟨p',v',by rw[hnext];rw[MF (G2 _)]at h2;exact h2⟩,((hBV.trans (ku.mono hEV)).trans (hal.mono (gH hEV ku.size))).trans h3⟩,hFA w' p' v' _ h2 (h4.row hru dE hXW)⟩
     have HN1:Hid (∀u,BL u->Calls prog 69 #[.int .i64 (j:Int)] u fun e w'=>e=.returned (.string LN)/\Below u.heap.size u w'):=fun u hu=>by
      rw[<-hLN,<-C0 oM];exact Cj (j:Int) oM (by have:=HN.2.1;have:=HK.r;omega) u hu
     have HTY:Hid (∀u,Below V.heap.size V u->Calls prog 70 #[.pointer (some ⟨WB,0,none⟩),.agg #[.int .i64 x.kind,.int .i64 x.par]] u fun e w'=>e=.returned (.string TT)/\Below u.heap.size u w'):=fun u ku=>by rw[<-hTT];exact GH E WB P0 P1 P2 P3 P4 p v _ x hx u (HLV.below ku) (hAV.below ku)
     have HAV:=A3 hAV;have HRX:=A3 hrX;obtain⟨s0,s1,s2,s3⟩:=hFA V p v _ hAV hrX;have HFV:Hid (∀u,Below V.heap.size V u->u.cell? ⟨WB,2,none⟩=some (.slice (some ⟨P0,0,none⟩) 3 3)/\u.cell? ⟨P0,1,none⟩=some (.string A0)/\u.cell? ⟨X,0,none⟩=some (.int .i64 (x.kind))/\u.cell? ⟨X,1,none⟩=some (.int .i64 (x.par))):=fun u ku=>HFA.out u p v _ (HAV.below ku) (HRX.of_block (ku.block _ HRX.lt));obtain⟨t0,t1,t2,t3⟩:=HFV.out V.drew (A4 V);clear hA hB HJ hlt hjl hcv hcl hx hnext hxe hbV hrX hEr hBV hAV hXW hsh hA0 hLN hwords hwl hFA hTT;go_upto_region 11 with fail;try rw[hV]
     try rw[hXX]
     clear hV hXX ;refine rG (fun v=>v.cell? ⟨WB,2,none⟩=some (.slice (some ⟨P0,0,none⟩) 3 3)/\v.cell? ⟨P0,1,none⟩=some (.string A0)/\v.cell? ⟨X,0,none⟩=some (.int .i64 (x.kind))/\v.cell? ⟨X,1,none⟩=some (.int .i64 (x.par))) fun yH=>?_;refine Tf 0 1 2 3 4 6 ?_;clear yH;refine Aw 5 fun K hK=>?_;go_simp;(go_at_call 69;(with_reducible refine(HN1.out _ (HLV.out.below (A4 V))).mono ?_);rintro e u2 ⟨rfl,bb2⟩;have hb3:=bel (A4 V) bb2;have HB2:=A3 hb3;obtain⟨m0,m1,m2,m3⟩:=HFV.out u2 hb3;clear bb2 hb3);try(go_wp2_with fail)
     refine AU hK fun yH=>?_;clear hK K;clear yH;refine Aw 7 fun K hK=>?_;go_simp;(go_at_call 70;(with_reducible refine(HTY.out _ HB2.out).mono ?_);rintro e u3 ⟨rfl,bb3⟩;have hb4:=bel HB2.out bb3;have HB3:=A3 hb4;clear m0 m1 m2 m3;obtain⟨m0,m1,m2,m3⟩:=HFV.out u3 hb4;clear bb3 hb4);try(go_wp2_with fail)
     refine AU hK fun yH=>?_;clear hK K;clear yH;refine Aw 8 fun K hK=>?_;go_simp;refine AU hK fun yH=>?_;clear hK K;clear yH;refine Aw 9 fun K hK=>?_;go_simp;(go_at_call 68;(with_reducible refine(HLINE.out _ HB3.out).mono ?_);rintro e u4 ⟨rfl,hq4,o0,o1,o2,o3⟩;have HQ4:=A3 hq4;clear hq4);exact WO
    .have e1:¬ (j:Int)<(N1:Int):=oM;have hje:j=c.regs.length:=by rw[HN.2.1];omega
     rw[hje,SI]at hA;obtain⟨z0,z1,z2,z3,-⟩:=HC.out wr hB;have HPRE:Hid ((∃p v,FC E WB P0 P1 P2 P3 P4 p v (E2 (Oo c 0)) wr)/\Below E w wr):=⟨⟨p,v,hA⟩,hB⟩
     clear hA hB HJ hje hlt hj;go_wp2_with fail;obtain⟨W2,hW2⟩:∃W,wr=W:=⟨_,rfl⟩
     go_loopw [73] (fun iv wx=>∃j:Nat,j<=N2/\iv=.int .i64 (j:Int)/\Hid ((∃p v,FC E WB P0 P1 P2 P3 P4 p v (E2 (Oo c j)) wx)/\Below E w wx)) (fun iv _=>N2-(intOf iv).toNat)
     case atStart=>exact⟨0,gJ _,rfl,HPRE.out⟩
     case round=>
      clear z0 z1 z2 z3 e1 hW2;clear HPRE;obtain⟨j,hj,rfl,HJ⟩:=hrel;obtain⟨⟨p,v,hA⟩,hB⟩:=HJ.out;by_cases hlt:j<N2
      .have hjl:j<c.slots.length:=by rw[HN.2.2.1];exact hlt
       obtain⟨-,-,-,-,hcv⟩:=HC.out wr hB;obtain⟨rb,ro,rfl,hcl⟩:=hcv.slots.at hjl;have hx:=HK.slots c.slots[j] (gD hjl);have hnext:=Qi hjl;obtain⟨x,hxe⟩:=gA (c.slots[j])
       rw[hxe]at hcl hx hnext;obtain⟨V,hV⟩:=gA (wr.alloc (.cells #[.int .i64 (x.ty.kind),.int .i64 (x.ty.par),.bool (x.keep),.int .u32 (x.bits),.int .i64 (x.int_)] 59))
       obtain⟨X,hXX⟩:=gA (wr.heap.size)
       have hbV:Below wr.heap.size wr V:=by rw[<-hV];exact A2 _ _
       have hrX:V.rowIs X 59 5 (g5 (.int .i64 (x.ty.kind)) (.int .i64 (x.ty.par)) (.bool (x.keep)) (.int .u32 (x.bits)) (.int .i64 (x.int_))):=by rw[<-hV,<-hXX];exact CG _ _ _ _ _ _ _
       have hEr:E<=wr.heap.size:=by have:=hA.bd.le;have:=hA.bd.row.lt;omega
       have hBV:Below E w V:=hB.trans (hbV.mono hEr);have hAV:=hA.below hbV;have hXW:X≠WB:=by have:=hA.bd.row.lt;omega
       have y0:=hcl.at 0 (v:=.int .i64 (x.ty.kind)) rfl;rw[Nat.add_zero]at y0;have y1:=hcl.at 1 (v:=.int .i64 (x.ty.par)) rfl;have y2:=hcl.at 2 (v:=.bool (x.keep)) rfl;have y3:=hcl.at 3 (v:=.int .u32 (x.bits)) rfl;have y4:=hcl.at 4 (v:=.int .i64 (x.int_)) rfl;have n9:¬rb=wr.heap.size:=by have:rb<wr.heap.size:=Ad y0;omega
       have i1:(0:Int)<=(j:Int):=oM;have i2:(j:Int)<(N2:Int):=oM;have wi:IntKind.i64.wrap ((j:Int)+1)=((j+1:Nat):Int):=by have:=HK.l;rw[IntKind.wrap_i64];omega
       have hsh:=Fm HK.out (UH c j);have HLV:=A3 (HLA.out V hBV);obtain⟨A0,hA0⟩:∃A,A6 B7=A:=⟨_,rfl⟩
       obtain⟨LN,hLN⟩:∃A,A6 (Ao (j:Int))=A:=⟨_,rfl⟩
       obtain⟨TT,hTT⟩:∃A,A6 (A7 ((if x.keep then At else Av)::(AT x.ty++[if x.ty.kind=2 then Ao x.int_ else BC x.bits])))=A:=⟨_,rfl⟩
       have hwords:(#[.string A0,.string LN,.string TT]:Array Value).toList=([B7,Ao (j:Int),A7 ((if x.keep then At else Av)::(AT x.ty++[if x.ty.kind=2 then Ao x.int_ else BC x.bits]))]:List Bs).map fun x=>.string (A6 x):=by
        show [.string A0,.string LN,.string TT]=[Value.string (A6 B7),Value.string (A6 (Ao (j:Int))),Value.string (A6 (A7 ((if x.keep then At else Av)::(AT x.ty++[if x.ty.kind=2 then Ao x.int_ else BC x.bits]))))];rw[<-hA0,<-hLN,<-hTT]
       have hwl:∀y∈([B7,Ao (j:Int),A7 ((if x.keep then At else Av)::(AT x.ty++[if x.ty.kind=2 then Ao x.int_ else BC x.bits]))]:List Bs),y.length<=1000000:=To (by have:=HN.2.2.1;have:=HK.l;omega) hx;have hFA:∀ (u:World) p' v' l',FC E WB P0 P1 P2 P3 P4 p' v' l' u->u.rowIs X 59 5 (g5 (.int .i64 (x.ty.kind)) (.int .i64 (x.ty.par)) (.bool (x.keep)) (.int .u32 (x.bits)) (.int .i64 (x.int_)))->u.cell? ⟨WB,2,none⟩=some (.slice (some ⟨P0,0,none⟩) 3 3)/\u.cell? ⟨P0,2,none⟩=some (.string A0)/\u.cell? ⟨X,0,none⟩=some (.int .i64 (x.ty.kind))/\u.cell? ⟨X,1,none⟩=some (.int .i64 (x.ty.par))/\u.cell? ⟨X,2,none⟩=some (.bool (x.keep))/\u.cell? ⟨X,3,none⟩=some (.int .u32 (x.bits))/\u.cell? ⟨X,4,none⟩=some (.int .i64 (x.int_)):=fun u p' v' l' h9 hr9=>by
        refine⟨?_,?_,?_,?_,?_,?_,?_⟩
        .exact h9.bd.row.cell (i:=2) dE
        .rw[<-hA0];exact h9.sorts.cell (i:=2) dE
        .exact hr9.cell (i:=0) dE
        .exact hr9.cell (i:=1) dE
        .exact hr9.cell (i:=2) dE
        .exact hr9.cell (i:=3) dE
        .exact hr9.cell (i:=4) dE
       have HFA:=A3 hFA;have HLINE:Hid (∀u,Below V.heap.size V u->Calls prog 68 #[.pointer (some ⟨WB,0,none⟩),.slice (some ⟨u.heap.size,0,none⟩) 3 3] (u.alloc (.cells #[.string A0,.string LN,.string TT] 9)) fun e w'=>e=.returned (.tuple #[])/\((∃p v,FC E WB P0 P1 P2 P3 P4 p v (E2 (Oo c (j+1))) w')/\Below E w w')/\(w'.cell? ⟨WB,2,none⟩=some (.slice (some ⟨P0,0,none⟩) 3 3)/\w'.cell? ⟨P0,2,none⟩=some (.string A0)/\w'.cell? ⟨X,0,none⟩=some (.int .i64 (x.ty.kind))/\w'.cell? ⟨X,1,none⟩=some (.int .i64 (x.ty.par))/\w'.cell? ⟨X,2,none⟩=some (.bool (x.keep))/\w'.cell? ⟨X,3,none⟩=some (.int .u32 (x.bits))/\w'.cell? ⟨X,4,none⟩=some (.int .i64 (x.int_)))):=fun u ku=>by
        have hu:=hAV.below ku;have hal:=A2 u (.cells #[.string A0,.string LN,.string TT] 9);have hu2:=hu.below hal;have hru:=(hrX.of_block (ku.block _ hrX.lt)).of_block (hal.block _ (Nat.lt_of_lt_of_le hrX.lt ku.size));have hEV:E<=V.heap.size:=gH hEr hbV.size;refine(CS E WB P0 P1 P2 P3 P4 p v (E2 (Oo c j)) u.heap.size [B7,Ao (j:Int),A7 ((if x.keep then At else Av)::(AT x.ty++[if x.ty.kind=2 then Ao x.int_ else BC x.bits]))] 3 _ hu2 hsh sM sM hwl (fun i hi=>Dc u _ _ hwords i hi) sM).mono ?_;rintro e w' ⟨h1,p',v',h2,h3,h4⟩;refine⟨h1,⟨⟨p',v',by rw[hnext];rw[MF (Tp _)]at h2;exact h2⟩,((hBV.trans (ku.mono hEV)).trans (hal.mono (gH hEV ku.size))).trans h3⟩,hFA w' p' v' _ h2 (h4.row hru dE hXW)⟩
       have HN1:Hid (∀u,BL u->Calls prog 69 #[.int .i64 (j:Int)] u fun e w'=>e=.returned (.string LN)/\Below u.heap.size u w'):=fun u hu=>by
        rw[<-hLN,<-C0 oM];exact Cj (j:Int) oM (by have:=HN.2.2.1;have:=HK.l;omega) u hu
       have HTY:Hid (∀u,Below V.heap.size V u->Calls prog 71 #[.pointer (some ⟨WB,0,none⟩),.agg #[.int .i64 x.ty.kind,.int .i64 x.ty.par,.bool x.keep,.int .u32 x.bits,.int .i64 x.int_]] u fun e w'=>e=.returned (.string TT)/\Below u.heap.size u w'):=fun u ku=>by rw[<-hTT];exact KY E WB P0 P1 P2 P3 P4 p v _ x hx u (HLV.below ku) (hAV.below ku)
       have HAV:=A3 hAV;have HRX:=A3 hrX;obtain⟨s0,s1,s2,s3,s4,s5,s6⟩:=hFA V p v _ hAV hrX;have HFV:Hid (∀u,Below V.heap.size V u->u.cell? ⟨WB,2,none⟩=some (.slice (some ⟨P0,0,none⟩) 3 3)/\u.cell? ⟨P0,2,none⟩=some (.string A0)/\u.cell? ⟨X,0,none⟩=some (.int .i64 (x.ty.kind))/\u.cell? ⟨X,1,none⟩=some (.int .i64 (x.ty.par))/\u.cell? ⟨X,2,none⟩=some (.bool (x.keep))/\u.cell? ⟨X,3,none⟩=some (.int .u32 (x.bits))/\u.cell? ⟨X,4,none⟩=some (.int .i64 (x.int_))):=fun u ku=>HFA.out u p v _ (HAV.below ku) (HRX.of_block (ku.block _ HRX.lt));obtain⟨t0,t1,t2,t3,t4,t5,t6⟩:=HFV.out V.drew (A4 V);clear hA hB HJ hlt hjl hcv hcl hx hnext hxe hbV hrX hEr hBV hAV hXW hsh hA0 hLN hwords hwl hFA hTT;go_upto_region 16 with fail;try rw[hV]
       try rw[hXX]
       clear hV hXX ;refine rG (fun v=>v.cell? ⟨WB,2,none⟩=some (.slice (some ⟨P0,0,none⟩) 3 3)/\v.cell? ⟨P0,2,none⟩=some (.string A0)/\v.cell? ⟨X,0,none⟩=some (.int .i64 (x.ty.kind))/\v.cell? ⟨X,1,none⟩=some (.int .i64 (x.ty.par))/\v.cell? ⟨X,2,none⟩=some (.bool (x.keep))/\v.cell? ⟨X,3,none⟩=some (.int .u32 (x.bits))/\v.cell? ⟨X,4,none⟩=some (.int .i64 (x.int_))) fun yH=>?_;refine Tf 0 1 2 3 4 6 ?_;clear yH;refine Aw 5 fun K hK=>?_;go_simp;(go_at_call 69;(with_reducible refine(HN1.out _ (HLV.out.below (A4 V))).mono ?_);rintro e u2 ⟨rfl,bb2⟩;have hb3:=bel (A4 V) bb2;have HB2:=A3 hb3;obtain⟨m0,m1,m2,m3,m4,m5,m6⟩:=HFV.out u2 hb3;clear bb2 hb3);try(go_wp2_with fail)
       refine AU hK fun yH=>?_;clear hK K;clear yH;refine Aw 7 fun K hK=>?_;go_simp;(go_at_call 71;(with_reducible refine(HTY.out _ HB2.out).mono ?_);rintro e u3 ⟨rfl,bb3⟩;have hb4:=bel HB2.out bb3;have HB3:=A3 hb4;clear m0 m1 m2 m3 m4 m5 m6;obtain⟨m0,m1,m2,m3,m4,m5,m6⟩:=HFV.out u3 hb4;clear bb3 hb4);try(go_wp2_with fail)
       refine AU hK fun yH=>?_;clear hK K;clear yH;refine Aw 8 fun K hK=>?_;go_simp;refine AU hK fun yH=>?_;clear hK K;clear yH;refine Aw 9 fun K hK=>?_;go_simp;(go_at_call 68;(with_reducible refine(HLINE.out _ HB3.out).mono ?_);rintro e u4 ⟨rfl,hq4,o0,o1,o2,o3,o4,o5,o6⟩;have HQ4:=A3 hq4;clear hq4);exact WO
      .have e1:¬ (j:Int)<(N2:Int):=oM;have hje:j=c.slots.length:=by rw[HN.2.2.1];omega
       rw[hje,SJ]at hA;obtain⟨z0,z1,z2,z3,-⟩:=HC.out wr hB;have HPRE:Hid ((∃p v,FC E WB P0 P1 P2 P3 P4 p v (E2 (Oq c 0)) wr)/\Below E w wr):=⟨⟨p,v,hA⟩,hB⟩
       clear hA hB HJ hje hlt hj;go_wp2_with fail;obtain⟨W3,hW3⟩:∃W,wr=W:=⟨_,rfl⟩
       go_loopw [94] (fun iv wx=>∃j:Nat,j<=N3/\iv=.int .i64 (j:Int)/\Hid ((∃p v,FC E WB P0 P1 P2 P3 P4 p v (E2 (Oq c j)) wx)/\Below E w wx)) (fun iv _=>N3-(intOf iv).toNat)
       case atStart=>exact⟨0,gJ _,rfl,HPRE.out⟩
       case round=>
        clear z0 z1 z2 z3 e1 hW3;clear HPRE;obtain⟨j,hj,rfl,HJ⟩:=hrel;obtain⟨⟨p,v,hA⟩,hB⟩:=HJ.out;by_cases hlt:j<N3
        .have hjl:j<c.list.length:=by rw[HN.2.2.2];exact hlt
         obtain⟨-,-,-,-,hcv⟩:=HC.out wr hB;obtain⟨rb,ro,rfl,hcl⟩:=hcv.list.at hjl;have hx:=HK.list c.list[j] (gD hjl);have hnext:=Qj hjl;obtain⟨x,hxe⟩:=gA (c.list[j])
         rw[hxe]at hcl hx hnext;obtain⟨V,hV⟩:=gA (wr.alloc (.cells #[.int .i64 (x.op),.int .i64 (x.d),.int .i64 (x.a),.int .i64 (x.b),.int .i64 (x.c),.int .i64 (x.n),.int .u32 (x.bits)] 39))
         obtain⟨X,hXX⟩:=gA (wr.heap.size)
         have hbV:Below wr.heap.size wr V:=by rw[<-hV];exact A2 _ _
         have hrX:V.rowIs X 39 7 (g7 (.int .i64 (x.op)) (.int .i64 (x.d)) (.int .i64 (x.a)) (.int .i64 (x.b)) (.int .i64 (x.c)) (.int .i64 (x.n)) (.int .u32 (x.bits))):=by rw[<-hV,<-hXX];exact J9 _ _ _ _ _ _ _ _ _
         have hEr:E<=wr.heap.size:=by have:=hA.bd.le;have:=hA.bd.row.lt;omega
         have hBV:Below E w V:=hB.trans (hbV.mono hEr);have hAV:=hA.below hbV;have hXW:X≠WB:=by have:=hA.bd.row.lt;omega
         have y0:=hcl.at 0 (v:=.int .i64 (x.op)) rfl;rw[Nat.add_zero]at y0;have y1:=hcl.at 1 (v:=.int .i64 (x.d)) rfl;have y2:=hcl.at 2 (v:=.int .i64 (x.a)) rfl;have y3:=hcl.at 3 (v:=.int .i64 (x.b)) rfl;have y4:=hcl.at 4 (v:=.int .i64 (x.c)) rfl;have y5:=hcl.at 5 (v:=.int .i64 (x.n)) rfl;have y6:=hcl.at 6 (v:=.int .u32 (x.bits)) rfl;have n9:¬rb=wr.heap.size:=by have:rb<wr.heap.size:=Ad y0;omega
         have i1:(0:Int)<=(j:Int):=oM;have i2:(j:Int)<(N3:Int):=oM;have wi:IntKind.i64.wrap ((j:Int)+1)=((j+1:Nat):Int):=by have:=HK.i;rw[IntKind.wrap_i64];omega
         have hsh:=Fm HK.out (UI c j);have HLV:=A3 (HLA.out V hBV);have KI:=NC E WB P0 P1 P2 P3 P4 p v _ x hx V HLV.out hAV;have hil:=S9 hx;have HIN:=A3 KI;have HLINE:Hid (∀u q d,Below V.heap.size V u->u.ownsRow V.heap.size 9 1 (.slice q (AJ x).length d) (AJ x).length (DY (AJ x))->Calls prog 68 #[.pointer (some ⟨WB,0,none⟩),.slice q (AJ x).length d] u fun e w'=>e=.returned (.tuple #[])/\((∃p v,FC E WB P0 P1 P2 P3 P4 p v (E2 (Oq c (j+1))) w')/\Below E w w')):=fun u q d ku ho=>by
          have hu:=hAV.below ku;have hEV:E<=V.heap.size:=gH hEr hbV.size;obtain⟨g,e1,hcap,hcc⟩:=Iv ho oM;subst e1;refine(CS E WB P0 P1 P2 P3 P4 p v (E2 (Oq c j)) g (AJ x) d u hu hsh oM hil.2 (Uo hx) hcc hcap).mono ?_;rintro e w' ⟨h1,p',v',h2,h3,h4⟩;exact⟨h1,⟨p',v',by rw[hnext];exact h2⟩,(hBV.trans (ku.mono hEV)).trans h3⟩
         obtain⟨Z0,Z1,Z2,Z3,Z4,Z5,Z6⟩:=c7 hrX;clear hA hB HJ hlt hjl hcv hcl hx hnext hxe hbV hrX hEr hBV hAV hXW hsh KI hil;go_upto_region 21 with fail;try rw[hV]
         try rw[hXX]
         clear hXX;clear hV;go_wp2_with(first
          |(go_at_call 72;(with_reducible refine HIN.out.mono ?_);rintro e u3 ⟨q,d,rfl,ho3,bb3⟩;have H3:=A3 (And.intro ho3 bb3);clear ho3 bb3)
          |(go_at_call 68;(with_reducible refine(HLINE.out _ _ _ H3.out.2 H3.out.1).mono ?_);rintro e u4 ⟨rfl,hq4⟩;have HQ4:=A3 hq4;clear hq4))
         go_roundw
         case rel=>exact⟨j+1,oM,gN,HQ4.out⟩
         case measure=>simp[intOf];omega
        .have e1:¬ (j:Int)<(N3:Int):=oM;have hje:j=c.list.length:=by rw[HN.2.2.2];omega
         rw[hje,SL]at hA;have hne:D5 c≠[]:=by unfold D5 Dp;simp[B5]
         have HST:=A3 (Gg E WB _ 5 _ _ _ _ hne wr hA.bd);have HBB:=A3 hB;clear hA hB HJ hje hlt hj hne;go_wp2_with(go_at_call 73;(with_reducible refine HST.out.mono ?_);rintro e w6 ⟨rfl,b6⟩;have H6:=A3 (HBB.out.trans b6);clear b6);refine bodyPost_ret (by simp[results,results45,go_sem, *];try rfl) rfl ?_;exact⟨rfl,by rw[HE.out];exact H6.out⟩
structure CX(w:World)(v0 v1 v2 v3:Value)(v:World):Prop where
 bel:Below w.heap.size w v
 lt:w.heap.size<v.heap.size
 c0:v.cell? ⟨w.heap.size,0,none⟩=some v0
 c1:v.cell? ⟨w.heap.size,1,none⟩=some v1
 c2:v.cell? ⟨w.heap.size,2,none⟩=some v2
 c3:v.cell? ⟨w.heap.size,3,none⟩=some v3
theorem CX.next{w:World}{v0 v1 v2 v3:Value}{v v':World}(h:CX w v0 v1 v2 v3 v)(k:Below v.heap.size v v'):CX w v0 v1 v2 v3 v':=
 ⟨Go.Proofs.YtjlpkjblkllfbaaGreatDoor.bel h.bel k,Nat.lt_of_lt_of_le h.lt k.size,kc k h.c0,kc k h.c1,kc k h.c2,kc k h.c3⟩
theorem CX.on{w:World}{v0 v1 v2 v3:Value}{v v':World}(h:CX w v0 v1 v2 v3 v)(k:Below (w.heap.size+1) v v'):CX w v0 v1 v2 v3 v':=
 have f:∀j,v'.cell? ⟨w.heap.size,j,none⟩=v.cell? ⟨w.heap.size,j,none⟩:=fun j=>k.cell (Nat.lt_succ_self _)
 ⟨h.bel.trans (k.mono (Nat.le_succ _)),Nat.lt_of_lt_of_le h.lt k.size,(f 0).trans h.c0,(f 1).trans h.c1,(f 2).trans h.c2,(f 3).trans h.c3⟩
theorem CX.start(w:World)(v0 v1 v2 v3:Value):CX w v0 v1 v2 v3 (w.alloc (.cells #[v0,v1,v2,v3] 27)):=
 ⟨A2 _ _,sM,sG,sG,sG,sG⟩
theorem I1{α:Type}(p:α->Bool){l:List α}{k:Nat}(h:k<l.length)(ht:(l.take k).all p=true)(hp:p l[k]=true):(l.take (k+1)).all p=true:=by
 rw[List.take_succ_eq_append_getElem h,List.all_append,ht];simp[hp]
theorem Mi{α:Type}(p:α->Bool){l:List α}{k:Nat}(h:k<l.length)(hp:p l[k]=false):l.all p=false:=by
 rw[List.all_eq_false];exact⟨l[k],gD h,by simp[hp]⟩
theorem DD(v0 v1 v2 v3:Value)(c:Cd)(hk:BE c)(w:World)(hv:DO w v0 v1 v2 v3 c)(E:Int)(hE:(AC c.sign≠0/\E=AC c.sign)\/(AC c.sign=0/\(16384<c.regs.length\/32768<c.list.length)/\E=181)\/(AC c.sign=0/\¬16384<c.regs.length/\¬32768<c.list.length/\4096<c.slots.length/\E=180)):
 Calls prog 18 #[.agg #[v0,v1,v2,v3]] w fun e w'=>e=.returned (.tuple #[.int .i64 E,.int .i64 (-1)])/\Below w.heap.size w w':=by
 have hSG:∀v,Below w.heap.size w v->Calls prog 32 #[v0] v fun e w'=>e=.returned (.int .i64 (AC c.sign))/\Below v.heap.size v w':=fun v hb=>DC v0 c.sign hk.signL hk.names v (hv.below hb).sign.rd;have l1:=hk.regsL;have l2:=hk.slotsL;have l3:=hk.listL;obtain⟨p0,q0,rfl,-⟩:=id hv.sign;obtain⟨p1,q1,rfl,-⟩:=id hv.regs;obtain⟨p2,q2,rfl,-⟩:=id hv.slots;obtain⟨p3,q3,rfl,-⟩:=id hv.list;obtain⟨n0,hn0⟩:∃n,c.sign.length=n:=⟨_,rfl⟩
 obtain⟨n1,hn1⟩:∃n,c.regs.length=n:=⟨_,rfl⟩
 obtain⟨n2,hn2⟩:∃n,c.slots.length=n:=⟨_,rfl⟩
 obtain⟨n3,hn3⟩:∃n,c.list.length=n:=⟨_,rfl⟩
 obtain⟨K,hK⟩:∃n,AC c.sign=n:=⟨_,rfl⟩
 rw[hn0,hK]at hSG;rw[hK,hn1,hn2,hn3]at hE;rw[hn1]at l1;rw[hn2]at l2;rw[hn3]at l3;rw[hn0,hn1,hn2,hn3];have HSG:Hid _:=hSG;clear hSG hn0 hn1 hn2 hn3 hK hv hk;rcases hE with⟨h1,rfl⟩|⟨rfl,h2,rfl⟩|⟨rfl,h2,h3,h4,rfl⟩
 .have h1':(E==0)=false:=by simpa using h1
  have h1'':(E != 0)=true:=by simpa using h1
  exact VT
 .by_cases h5:16384<n1
  .have h6:(16384:Int)<(n1:Int):=oM;exact VT
  .have h6:(n1:Int)<=16384:=oM;have h7:(32768:Int)<(n3:Int):=oM;clear h5;exact VT
 .have h6:(n1:Int)<=16384:=oM;have h7:(n3:Int)<=32768:=oM;have h8:(4096:Int)<(n2:Int):=oM;exact VT
theorem NA(v0 v1 v2 v3:Value)(c:Cd)(hk:BE c)(w:World)(hL:BL w)(hc:DO w v0 v1 v2 v3 c):
 Calls prog 19 #[.agg #[v0,v1,v2,v3]] w fun e w'=>e=.returned (.tuple #[.string (if(AH c).1=0 then A6 (D5 c)else⟨#[]⟩),.int .i64 (if(AH c).1=0 then 0 else 160)])/\Below w.heap.size w w':=by
 obtain⟨q0,d0,rfl,-⟩:=id hc.sign;obtain⟨q1,d1,rfl,-⟩:=id hc.regs;obtain⟨q2,d2,rfl,-⟩:=id hc.slots;obtain⟨q3,d3,rfl,-⟩:=id hc.list;obtain⟨V,hV⟩:=gA (w.alloc (.cells #[.slice q0 c.sign.length d0,.slice q1 c.regs.length d1,.slice q2 c.slots.length d2,.slice q3 c.list.length d3] 27))
 obtain⟨X,hXX⟩:=gA (w.heap.size)
 have hb0:Below w.heap.size w V:=by rw[<-hV];exact A2 _ _
 have hr:V.rowIs X 27 4 (f4 (.slice q0 c.sign.length d0) (.slice q1 c.regs.length d1) (.slice q2 c.slots.length d2) (.slice q3 c.list.length d3)):=by rw[<-hV,<-hXX];exact DA _ _ _ _ _ _
 have hcv:=hc.below hb0;have HLV:=A3 (hL.below hb0);have HB0:=A3 hb0;have HR:=A3 hr;have HCV:=A3 hcv;have KC:=I3 _ _ _ _ c hk V hcv;obtain⟨x0,x1,x2,x3⟩:=c4 hr;obtain⟨p,hp⟩:=gA ((AH c).2)
 rw[hp]at KC;by_cases q:(AH c).1=0
 .rw[if_pos q,if_pos q];have HOK:=A3 (Q1 q hk.sbits hk.ibits);rw[q]at KC;have HKC:=A3 KC;obtain⟨S,hS⟩:=gA (A6 (D5 c))
  rw[hS];have HS:=A3 hS;have HT:Hid (∀x,Below V.heap.size V x->Calls prog 45 #[.pointer (some ⟨X,0,none⟩)] x fun e w'=>e=.returned (.string S)/\Below x.heap.size x w'):=fun x k=>by
   rw[<-HS.out];exact Mb X c HOK.out _ _ _ _ x (HLV.below k) (HR.of_block (k.block _ HR.lt)) (HCV.below k)
  clear hb0 hr hcv KC hp q hk hL hc hS;go_enter func19,ntmps19;go_upto_region 1 with fail;try rw[hV]
  try rw[hXX]
  clear hV hXX;go_wp2_with(first
   |(go_at_call 11;(with_reducible refine HKC.out.mono ?_);rintro e w1 ⟨rfl,b1⟩;have HB1:=A3 b1;clear b1)
   |(go_at_call 45;(with_reducible refine(HT.out _ HB1.out).mono ?_);rintro e w2 ⟨rfl,b2⟩;have HB2:=A3 (bel HB1.out b2);clear b2))
  refine bodyPost_ret (by simp[results,results19,go_sem, *];try rfl) rfl ?_;exact⟨rfl,bel HB0.out HB2.out⟩
 .rw[if_neg q,if_neg q];obtain⟨e,he⟩:=gA ((AH c).1)
  rw[he]at KC q;have HKC:=A3 KC;have e2:(e != 0)=true:=by simpa using q
  have e3:(e==0)=false:=by simpa using q
  clear hb0 hr hcv KC hp q hk hL hc he;go_enter func19,ntmps19;go_upto_region 1 with fail;try rw[hV]
  try rw[hXX]
  clear hV hXX;go_wp2_with(go_at_call 11;(with_reducible refine HKC.out.mono ?_);rintro e w1 ⟨rfl,b1⟩;have HB1:=A3 b1;clear b1);refine bodyPost_ret (by simp[results,results19,go_sem, *];try rfl) rfl ?_;exact⟨rfl,bel HB0.out HB1.out⟩
def Cy:Cd:=⟨[⟨⟨#[119]⟩,1,2⟩],[⟨3,0⟩],[],[⟨29,0,0,0,0,0,0⟩,⟨31,0,0,0,0,0,0⟩]⟩
def GJ:Bs:=D5 Cy
def PR:Bs:=[103,114,97,100,32,114,48,48,32,48,10]
theorem Gt:(AH Cy).1=0:=by decide+kernel
theorem Ps:RH Cy:=Q1 Gt (fun s hs=>(nomatch hs)) (fun i hi=>by
 simp only[Cy,List.mem_cons,List.not_mem_nil,or_false]at hi
 rcases hi with rfl|rfl<;>decide)
theorem NV:BT GJ=(Cy,0,0):=LC Gt Ps
theorem I5:(BT (GJ++PR)).2.1=250/\(BT (GJ++PR)).2.2=6:=by decide+kernel
theorem FG:GJ=[108,97,116,104,101,32,49,10,112,97,114,97,109,32,119,32,114,101,97,108,32,50,10,114,101,103,32,48,32,118,101,99,116,111,114,32,48,10,103,114,97,100,32,114,48,32,48,10,111,117,116,32,114,48,32,48,10]:=by decide+kernel
theorem JJ(w:World):Calls prog 20 #[] w fun e w'=>∃v0 v1 v2 v3,e=.returned (.agg #[v0,v1,v2,v3])/\DO w' v0 v1 v2 v3 Cy/\Below w.heap.size w w':=by
 obtain⟨X,hXX⟩:=gA (w.heap.size)
 obtain⟨W0,hW0⟩:∃W,w.alloc (.cells #[.slice none 0 0,.slice none 0 0,.slice none 0 0,.slice none 0 0] 27)=W:=⟨_,rfl⟩
 have b0:Below w.heap.size w W0:=by rw[<-hW0];exact A2 _ _
 have r0:W0.rowIs X 27 4 (f4 (.slice none 0 0) (.slice none 0 0) (.slice none 0 0) (.slice none 0 0)):=by rw[<-hW0,<-hXX];exact DA _ _ _ _ _ _
 obtain⟨W1,hW1⟩:∃W,W0.alloc (.cells #[.int .i64 3,.int .i64 0] 43)=W:=⟨_,rfl⟩
 obtain⟨T,hT⟩:=gA (W0.heap.size)
 have b1:Below W0.heap.size W0 W1:=by rw[<-hW1];exact A2 _ _
 have rt:W1.rowIs T 43 2 (g2 (.int .i64 3) (.int .i64 0)):=by rw[<-hW1,<-hT];exact BJ _ _ _ _
 obtain⟨A,hA⟩:=gA (W1.heap.size)
 obtain⟨W2,hW2⟩:∃W,W1.alloc (.cells #[.string ⟨#[119]⟩,.int .i64 1,.int .i64 2] 41)=W:=⟨_,rfl⟩
 have b2:Below W1.heap.size W1 W2:=by rw[<-hW2];exact A2 _ _
 have ra:W2.rowIs A 41 3 (g3 (.string ⟨#[119]⟩) (.int .i64 1) (.int .i64 2)):=by rw[<-hW2,<-hA];exact Cs _ _ _ _ _
 obtain⟨B,hB⟩:∃A,W2.heap.size=A:=⟨_,rfl⟩
 obtain⟨W3,hW3⟩:∃W,W2.alloc (.cells #[.int .i64 3,.int .i64 0] 43)=W:=⟨_,rfl⟩
 have b3:Below W2.heap.size W2 W3:=by rw[<-hW3];exact A2 _ _
 have rb:W3.rowIs B 43 2 (g2 (.int .i64 3) (.int .i64 0)):=by rw[<-hW3,<-hB];exact BJ _ _ _ _
 obtain⟨D,hD⟩:∃A,W3.heap.size=A:=⟨_,rfl⟩
 obtain⟨W4,hW4⟩:∃W,W3.alloc (.cells #[.int .i64 29,.int .i64 0,.int .i64 0,.int .i64 0,.int .i64 0,.int .i64 0,.int .u32 0,.int .i64 31,.int .i64 0,.int .i64 0,.int .i64 0,.int .i64 0,.int .i64 0,.int .u32 0] 39)=W:=⟨_,rfl⟩
 have b4:Below W3.heap.size W3 W4:=by rw[<-hW4];exact A2 _ _
 have rd:W4.rowIs D 39 14 (fun j=>((#[Value.int .i64 29,.int .i64 0,.int .i64 0,.int .i64 0,.int .i64 0,.int .i64 0,.int .u32 0,.int .i64 31,.int .i64 0,.int .i64 0,.int .i64 0,.int .i64 0,.int .i64 0,.int .u32 0]:Array Value)[j]?).getD undef):=by
  rw[<-hW4,<-hD];exact World.rowIs_alloc W3 #[Value.int .i64 29,.int .i64 0,.int .i64 0,.int .i64 0,.int .i64 0,.int .i64 0,.int .u32 0,.int .i64 31,.int .i64 0,.int .i64 0,.int .i64 0,.int .i64 0,.int .i64 0,.int .u32 0] _ _ (fun i hi=>by rw[Array.getElem?_eq_getElem hi];rfl)
 have lD:D<W4.heap.size:=by rw[<-hW4,<-hD];simp
 have t0:=(RG rt)
 obtain⟨y0,y1⟩:=RG (rt.of_block (b2.block _ rt.lt));have h4:∀f,W4.rowIs X 27 4 f->True:=fun _ _=>trivial;have r4:=(((r0.of_block (b1.block _ r0.lt)).of_block (b2.block _ (Nat.lt_of_lt_of_le r0.lt b1.size))).of_block (b3.block _ (Nat.lt_of_lt_of_le r0.lt (bel b1 b2).size))).of_block (b4.block _ (Nat.lt_of_lt_of_le r0.lt (bel (bel b1 b2) b3).size));obtain⟨z0,z1,z2,z3⟩:=c4 r4;obtain⟨f0,f1,f2,f3⟩:=z4 r4;obtain⟨hp1,hp2⟩:=put4 r4 (.slice (some ⟨A,0,none⟩) 1 1) (.slice (some ⟨B,0,none⟩) 1 1) (.slice none 0 0) (.slice (some ⟨D,0,none⟩) 2 2);obtain⟨W5,hW5⟩:∃W,(((W4.setCell ⟨X,0,none⟩ (.slice (some ⟨A,0,none⟩) 1 1)).setCell ⟨X,1,none⟩ (.slice (some ⟨B,0,none⟩) 1 1)).setCell ⟨X,2,none⟩ (.slice none 0 0)).setCell ⟨X,3,none⟩ (.slice (some ⟨D,0,none⟩) 2 2)=W:=⟨_,rfl⟩
 rw[hW5]at hp1 hp2;obtain⟨u0,u1,u2,u3⟩:=c4 hp1;have lX:X<T:=by rw[<-hT];exact r0.lt
 have lT:T<A:=by rw[<-hA];exact rt.lt
 have lA:A<B:=by rw[<-hB];exact ra.lt
 have lB:B<D:=by rw[<-hD];exact rb.lt
 have HCD:Hid (DO W5 (.slice (some ⟨A,0,none⟩) 1 1) (.slice (some ⟨B,0,none⟩) 1 1) (.slice none 0 0) (.slice (some ⟨D,0,none⟩) 2 2) Cy):=by
  have ra5:=((ra.of_block (b3.block _ ra.lt)).of_block (b4.block _ (Nat.lt_of_lt_of_le ra.lt b3.size))).of_block (hp2.oth _ oM);have rb5:=(rb.of_block (b4.block _ rb.lt)).of_block (hp2.oth _ oM);have rd5:=rd.of_block (hp2.oth _ oM);refine⟨⟨_,_,rfl,.inr ⟨A,0,rfl,fun i hi=>?_⟩⟩,⟨_,_,rfl,.inr ⟨B,0,rfl,fun i hi=>?_⟩⟩,⟨none,0,rfl,.inl rfl⟩,⟨_,_,rfl,.inr ⟨D,0,rfl,fun i hi=>?_⟩⟩⟩
  .have:i=0:=by have:i<1:=hi;omega
   subst this;intro j hj;have hj':j<3:=hj;rcases(show j=0\/j=1\/j=2 by omega)with rfl|rfl|rfl
   .exact ra5.cell (i:=0) dE
   .exact ra5.cell (i:=1) dE
   .exact ra5.cell (i:=2) dE
  .have:i=0:=by have:i<1:=hi;omega
   subst this;intro j hj;have hj':j<2:=hj;rcases(show j=0\/j=1 by omega)with rfl|rfl
   .exact rb5.cell (i:=0) dE
   .exact rb5.cell (i:=1) dE
  .have:i=0\/i=1:=by have:i<2:=hi;omega
   rcases this with rfl|rfl
   .exact Yc
   .exact Yc
 have HBB:Hid (Below w.heap.size w W5):=(bel (bel (bel (bel b0 b1) b2) b3) b4).trans (hp2.bel _ (Nat.le_of_eq hXX));have HW1:=A3 hW1;clear hW1;have HW2:=A3 (And.intro hW2 (And.intro hW3 hW4));clear hW2 hW3 hW4;clear b0 b1 b2 b3 b4 r0 rt ra rb rd lD t0 h4 r4 hp1 hp2 lX lT lA lB;go_enter func20,ntmps20;go_upto_region 2 with fail;rw[HW1.out];have hW2:=HW2.1;have hW3:=HW2.2.1;have hW4:=HW2.2.2;go_wp2;refine bodyPost_ret (by simp[results,results20,go_sem, *];try rfl) rfl ?_;try rw[hW5]
 exact⟨_,_,_,_,rfl,HCD.out,HBB.out⟩
theorem IR:BE Cy:=⟨dE,dE,dE,dE,dE,fun s hs=>(nomatch hs),fun i hi=>by
 simp only[Cy,List.mem_cons,List.not_mem_nil,or_false]at hi
 rcases hi with rfl|rfl<;>decide⟩
theorem M9(w:World)(hL:BL w):Calls prog 8 #[] w fun e w'=>e=.returned (.bool true)/\Below w.heap.size w w':=by
 have HL:=A3 hL;have HT:Hid (∀ (v:World) (a0 a1 a2 a3:Value),BL v->DO v a0 a1 a2 a3 Cy->Calls prog 19 #[.agg #[a0,a1,a2,a3]] v fun e w'=>e=.returned (.tuple #[.string ⟨#[108,97,116,104,101,32,49,10,112,97,114,97,109,32,119,32,114,101,97,108,32,50,10,114,101,103,32,48,32,118,101,99,116,111,114,32,48,10,103,114,97,100,32,114,48,32,48,10,111,117,116,32,114,48,32,48,10]⟩,.int .i64 0])/\Below v.heap.size v w'):=fun v a0 a1 a2 a3 h1 h2=>by
  have h9:=NA a0 a1 a2 a3 Cy IR v h1 h2;rw[if_pos Gt,if_pos Gt,show D5 Cy=GJ from rfl,FG]at h9;exact h9
 have HP:Hid (∀ (v:World) (T:ByteArray),bs T=GJ->BL v->Calls prog 5 #[.string T] v fun e w'=>∃p0 q0 p1 q1 p2 q2 p3 q3,e=.returned (.tuple #[.agg #[.slice p0 1 q0,.slice p1 1 q1,.slice p2 0 q2,.slice p3 2 q3],.int .i64 0,.int .i64 0])/\DO w' (.slice p0 1 q0) (.slice p1 1 q1) (.slice p2 0 q2) (.slice p3 2 q3) Cy/\Below v.heap.size v w'):=fun v T hT h1=>by
  have h9:=Dr T v h1;rw[hT,NV]at h9;refine h9.mono ?_;rintro e w' ⟨a0,a1,a2,a3,h2,h3,h4,-⟩;obtain⟨p0,q0,rfl⟩:=Ac h3.sign;obtain⟨p1,q1,rfl⟩:=Ac h3.regs;obtain⟨p2,q2,rfl⟩:=Ac h3.slots;obtain⟨p3,q3,rfl⟩:=Ac h3.list;exact⟨p0,q0,p1,q1,p2,q2,p3,q3,h2,h3.cdv,h4⟩
 have HM:Hid (∀ (v:World) (T:ByteArray),bs T=GJ++PR->BL v->Calls prog 5 #[.string T] v fun e w'=>∃p0 n0 q0 p1 n1 q1 p2 n2 q2 p3 n3 q3,e=.returned (.tuple #[.agg #[.slice p0 n0 q0,.slice p1 n1 q1,.slice p2 n2 q2,.slice p3 n3 q3],.int .i64 250,.int .i64 6])/\Below v.heap.size v w'):=fun v T hT h1=>by
  have h9:=Dr T v h1;rw[hT]at h9;refine h9.mono ?_;rintro e w' ⟨a0,a1,a2,a3,h2,h3,h4,-⟩;rw[I5.1,I5.2]at h2;obtain⟨p0,q0,rfl⟩:=Ac h3.sign;obtain⟨p1,q1,rfl⟩:=Ac h3.regs;obtain⟨p2,q2,rfl⟩:=Ac h3.slots;obtain⟨p3,q3,rfl⟩:=Ac h3.list;exact⟨p0,_,q0,p1,_,q1,p2,_,q2,p3,_,q3,h2,h4⟩
 clear hL;go_enter func8,ntmps8;go_upto_region 2 with(first
  |(go_at_call 20;(with_reducible refine(JJ _).mono ?_);rintro e w1 ⟨g0,g1,g2,g3,rfl,hg,b1⟩;have H1:=A3 (And.intro hg b1);clear hg b1)
  |(go_at_call 19;(with_reducible refine(HT.out _ _ _ _ _ (HL.out.below H1.out.2) H1.out.1).mono ?_);rintro e w2 ⟨rfl,b2⟩;have H2:=A3 (bel H1.out.2 b2);clear b2))
 go_upto_region 3 with(go_at_call 5;(refine(HP.out w2 _ (by rw[FG];rfl) (HL.below H2.out)).mono ?_);rintro e w3 ⟨p0,q0,p1,q1,p2,q2,p3,q3,rfl,hc3,b3⟩;have H3:=A3 (And.intro hc3 (bel H2.out b3));clear hc3 b3)
 obtain⟨V,hV⟩:=gA (w3.alloc (.cells #[.slice p0 1 q0,.slice p1 1 q1,.slice p2 0 q2,.slice p3 2 q3] 27))
 obtain⟨X,hXX⟩:=gA (w3.heap.size)
 have hb4:Below w3.heap.size w3 V:=by rw[<-hV];exact A2 _ _
 have hr4:V.rowIs X 27 4 (f4 (.slice p0 1 q0) (.slice p1 1 q1) (.slice p2 0 q2) (.slice p3 2 q3)):=by rw[<-hV,<-hXX];exact DA _ _ _ _ _ _
 have HCV:=A3 (H3.1.below hb4);have HBV:=A3 (bel H3.2 hb4);have HR4:=A3 hr4;try rw[hV]
 try rw[hXX]
 clear hV hXX hb4 hr4;go_upto_region 4 with(go_at_call 5;(refine(HM.out V _ (by rw[FG];rfl) (HL.below HBV.out)).mono ?_);rintro e w4 ⟨s0,n0,t0,s1,n1,t1,s2,n2,t2,s3,n3,t3,rfl,b4⟩;have HB4:=A3 b4;clear b4)
 obtain⟨V2,hV2⟩:∃V,w4.alloc (.cells #[.slice s0 n0 t0,.slice s1 n1 t1,.slice s2 n2 t2,.slice s3 n3 t3] 27)=V:=⟨_,rfl⟩
 have hb5:Below V.heap.size V V2:=by rw[<-hV2];exact bel HB4.out (A2 _ _)
 try rw[hV2]
 have HB5:=A3 hb5;obtain⟨a0,ha0⟩:∃a,Value.slice p0 1 q0=a:=⟨_,rfl⟩
 obtain⟨a1,ha1⟩:∃a,Value.slice p1 1 q1=a:=⟨_,rfl⟩
 obtain⟨a2,ha2⟩:∃a,Value.slice p2 0 q2=a:=⟨_,rfl⟩
 obtain⟨a3,ha3⟩:∃a,Value.slice p3 2 q3=a:=⟨_,rfl⟩
 rw[ha0,ha1,ha2,ha3]at HR4 HCV;obtain⟨x0,x1,x2,x3⟩:=c4 (HR4.of_block (hb5.block _ HR4.lt));have HCD:Hid (DO V2 a0 a1 a2 a3 Cy):=HCV.below hb5;have y0:V2.drew.cell? ⟨X,0,none⟩=some a0:=x0;have y1:V2.drew.cell? ⟨X,1,none⟩=some a1:=x1;have y2:V2.drew.cell? ⟨X,2,none⟩=some a2:=x2;have y3:V2.drew.cell? ⟨X,3,none⟩=some a3:=x3;have HEQ:Hid (∀ (v:World) (g0 g1 g2 g3:Value),Below V2.heap.size V2 v->DO v g0 g1 g2 g3 Cy->Calls prog 7 #[.agg #[a0,a1,a2,a3],.agg #[g0,g1,g2,g3]] v fun e w'=>e=.returned (.bool true)/\Below v.heap.size v w'):=fun v g0 g1 g2 g3 k hg=>by
  have h9:=GX a0 a1 a2 a3 g0 g1 g2 g3 Cy Cy IR IR v (HCD.below k) hg;rw[JK]at h9;exact h9
 clear hV2 hb5 ha0 ha1 ha2 ha3;refine rG (fun v=>v.cell? ⟨X,0,none⟩=some a0/\v.cell? ⟨X,1,none⟩=some a1/\v.cell? ⟨X,2,none⟩=some a2/\v.cell? ⟨X,3,none⟩=some a3) fun yH=>?_;refine Tf 0 1 2 3 4 5 ?_;refine Tb 6 7 ?_;clear yH;refine Aw 8 fun K hK=>?_;go_simp;(go_at_call 20;(with_reducible refine(JJ _).mono ?_);rintro e w6 ⟨g0,g1,g2,g3,rfl,hg,b6⟩;have b7:=bel (A4 V2) b6;have H6:=A3 (And.intro hg b7);have o0:=kc b7 x0;have o1:=kc b7 x1;have o2:=kc b7 x2;have o3:=kc b7 x3;clear hg b6 b7);try(go_wp2_with fail)
 refine AU hK fun yH=>?_;clear hK K;clear yH;refine Aw 9 fun K hK=>?_;go_simp;(go_at_call 7;(with_reducible refine(HEQ.out _ _ _ _ _ H6.out.2 H6.out.1).mono ?_);rintro e w8 ⟨rfl,b8⟩;have b9:=bel H6.out.2 b8;have H8:=A3 b9;clear o0 o1 o2 o3;have o0:=kc b9 x0;have o1:=kc b9 x1;have o2:=kc b9 x2;have o3:=kc b9 x3;clear b8 b9);try(go_wp2_with fail)
 refine AU hK fun yH=>?_;clear hK K;refine Tf 10 11 12 13 14 15 ?_;refine Tf 16 17 18 19 20 21 ?_;refine Tb 22 23 ?_;refine wpAnyH_done kR ?_ _;try go_wp2
 refine bodyPost_ret (by simp[results,results8,go_sem, *];try rfl) rfl ?_;exact⟨rfl,bel (bel HBV.out HB5.out) H8.out⟩
section
open Go.Lib (decDigits)
theorem Mm:∀d:Nat,d<10->(⟨#[48,49,50,51,52,53,54,55,56,57]⟩:ByteArray).extract d (d+1)=A6 [UInt8.ofNat (48+d)]:=fun d h=>by
 rcases(show d=0\/d=1\/d=2\/d=3\/d=4\/d=5\/d=6\/d=7\/d=8\/d=9 by omega)with rfl|rfl|rfl|rfl|rfl|rfl|rfl|rfl|rfl|rfl<;>decide
theorem Qr(n:Nat):n<=2147483647->∀w:World,Calls prog 33 #[.int .i64 (n:Int)] w fun e w'=>e=.returned (.string (A6 (decDigits n)))/\Below w.heap.size w w':=by
 induction n using Nat.strongRecOn with
 |ind n ih=>
 intro hn w;have e0:¬ (n:Int)<0:=oM;by_cases q:n<10
 .have e1:(n:Int)<10:=oM;have w1:IntKind.i64.wrap ((n:Int)+1)=(n:Int)+1:=by rw[IntKind.wrap_i64];omega
  have i0:(0:Int)<=(n:Int):=oM;have i1:(n:Int)+1<=10:=oM;have i2:(n:Int)<=(n:Int)+1:=oM;have HD:Hid (A6 (decDigits n)=A6 [UInt8.ofNat (48+n)]):=by show _=_;rw[Lib.decDigits_one q]
  have HX:=A3 (Mm n q);clear ih hn;go_enter func33,ntmps33;go_wp2;refine bodyPost_ret (by simp[results,results33,go_sem, *];try rfl) rfl ?_;refine⟨?_,Below.refl _ _⟩;rw[HD.out,<-HX.out]
 .have e1:¬ (n:Int)<10:=oM;obtain⟨M,hM⟩:=gA (n/10)
  have HIH:Hid (∀v,Calls prog 33 #[.int .i64 (M:Int)] v fun e w'=>e=.returned (.string (A6 (decDigits M)))/\Below v.heap.size v w'):=fun v=>ih M oM oM v;obtain⟨A,hA⟩:=gA (A6 (decDigits M))
  rw[hA]at HIH;have q1:(n:Int).tdiv 10=(M:Int):=by rw[Int.tdiv_eq_ediv_of_nonneg oM];omega
  have q2:(n:Int)/10=(M:Int):=oM;obtain⟨d,hd⟩:=gA (n%10)
  have hd10:d<10:=oM;have r1:(n:Int).tmod 10=(d:Int):=by rw[Int.tmod_eq_emod_of_nonneg oM];omega
  have r2:(n:Int)%10=(d:Int):=oM;have w0:IntKind.i64.wrap (M:Int)=(M:Int):=by rw[IntKind.wrap_i64];omega
  have w1:IntKind.i64.wrap ((d:Int)+1)=(d:Int)+1:=by rw[IntKind.wrap_i64];omega
  have w2:IntKind.i64.wrap (d:Int)=(d:Int):=by rw[IntKind.wrap_i64];omega
  have i0:(0:Int)<=(d:Int):=oM;have i1:(d:Int)+1<=10:=oM;have i2:(d:Int)<=(d:Int)+1:=oM;have sA:A.size<=10:=by
   rw[<-hA,<-A9,AZ];have:=Bg (n:=(M:Int)) oM;unfold Ao at this;rwa[Int.toNat_natCast]at this
  have s1:¬9223372036854775807<A.size+(min (d+1) 10-d):=oM;have HX:=A3 (Mm d hd10);have HD:Hid (A6 (decDigits n)=A++A6 [UInt8.ofNat (48+d)]):=by
   show _=_;rw[<-hA,B4]
   conv=>lhs;rw[decDigits,dif_neg q]
   rw[hd,hM]
  clear ih hn hA hd sA hM;go_enter func33,ntmps33;go_upto_region 5 with fail;refine wp_region_held_drew (S:=(fun _=>True)) kR ?_ (fun yH=>?_)
  .trivial
  refine Tf 0 1 3 4 5 6 ?_;refine Tb 7 8 ?_;clear yH;refine Aw 2 fun K hK=>?_;go_simp;(go_at_call 33;(with_reducible refine(HIH.out _).mono ?_);rintro e w2 ⟨rfl,b2⟩;have H2:=A3 (bel (A4 w) b2);clear b2);try(go_wp2_with fail)
  refine hK.out _ _ ?_ (fun yH=>?_)
  .trivial
  clear hK K;try simp only[Act.put,List.setIfInBounds_toArray,List.set_cons_zero,List.set_cons_succ]
  refine Tb 9 10 ?_;refine wpAnyH_done kR ?_ _;try go_wp2
  refine bodyPost_ret (by simp[results,results33,go_sem, *];try rfl) rfl ?_;refine⟨?_,H2.out⟩;rw[HD.out,<-HX.out]
end
theorem MQ(n:Int)(h0:0<=n)(h1:n<=2147483647)(w:World):Calls prog 33 #[.int .i64 n] w fun e w'=>e=.returned (.string (A6 (Ao n)))/\Below w.heap.size w w':=by
 have h9:=Qr n.toNat oM w;rw[show((n.toNat:Nat):Int)=n by omega]at h9;exact h9

theorem Jm(w:World):Calls prog 36 #[] w fun e w'=>∃p,e=.returned (.slice (some ⟨p,0,none⟩) 38 38)/\w.heap.size<=p/\w'.rowIs p 9 38 (fun i=>.string (A6 ((Dy[i]?).getD [])))/\Below w.heap.size w w':=by
 go_enter func36,ntmps36;go_wp2;go_ret;refine⟨_,rfl,?_,?_,?_⟩
 .simp
 .exact D1 Dy w _ _ rF
 .exact A2 _ _
theorem OF(op:Nat)(w:World):
 Calls prog 40 #[.int .i64 (op:Int)] w fun e w'=>e=.returned (.bool (EY op))/\w'=w:=by
 by_cases q:op=2\/op=29\/op=30\/op=31\/op=32\/op=33\/op=36
 .have HT:Hid (EY op=true):=by show EY op=_;unfold EY;simp[q]
  rw[HT.out];clear HT;rcases q with rfl|rfl|rfl|rfl|rfl|rfl|rfl
  all_goals
   exact Ye
 .have HT:Hid (EY op=false):=by show EY op=_;unfold EY;simp[q]
  rw[HT.out];have a1:((op:Int)==2)=false:=sO;have a2:((op:Int)==29)=false:=sO;have a3:((op:Int)==30)=false:=sO;have a4:((op:Int)==31)=false:=sO;have a5:((op:Int)==32)=false:=sO;have a6:((op:Int)==33)=false:=sO;have a7:((op:Int)==36)=false:=sO;clear HT q;exact Ye
end Go.Proofs.YtjlpkjblkllfbaaGreatDoor
