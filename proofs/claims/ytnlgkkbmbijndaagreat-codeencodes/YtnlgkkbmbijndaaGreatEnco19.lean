import Derived.Test.YtnlgkkbmbijndaaGreatEnco16
import Derived.Test.YtnlgkkbmbijndaaGreatEnco1
namespace Go.Proofs.YtnlgkkbmbijndaaGreat
open Go.RowKit Go.Proofs.Tryz
set_option linter.all false
set_option maxRecDepth 100000
set_option maxHeartbeats 16000000
theorem GG(op:Int)(hk:Ax op=true):∃a b c d e:UInt8,((a.toNat:Int)=(BU op).a/\(b.toNat:Int)=(BU op).b/\(c.toNat:Int)=(BU op).c/\(d.toNat:Int)=(BU op).d/\(e.toNat:Int)=(BU op).e)/\∀w,Calls prog 48 #[.int .i64 op] w fun x w'=>x=.returned (.tuple #[.string ⟨#[a,b,c,d,e]⟩,.bool true])/\w'=w:=by
 have hh:1<=op/\op<=37:=by unfold Ax at hk;simp at hk;omega
 clear hk;have:op=1\/op=2\/op=3\/op=4\/op=5\/op=6\/op=7\/op=8\/op=9\/op=10\/op=11\/op=12\/op=13\/op=14\/op=15\/op=16\/op=17\/op=18\/op=19\/op=20\/op=21\/op=22\/op=23\/op=24\/op=25\/op=26\/op=27\/op=28\/op=29\/op=30\/op=31\/op=32\/op=33\/op=34\/op=35\/op=36\/op=37:=oM;rcases this with rfl|rfl|rfl|rfl|rfl|rfl|rfl|rfl|rfl|rfl|rfl|rfl|rfl|rfl|rfl|rfl|rfl|rfl|rfl|rfl|rfl|rfl|rfl|rfl|rfl|rfl|rfl|rfl|rfl|rfl|rfl|rfl|rfl|rfl|rfl|rfl|rfl
 .exact⟨_,_,_,_,_,⟨rfl,rfl,rfl,rfl,rfl⟩,fun w=>MJ w⟩
 .exact⟨_,_,_,_,_,⟨rfl,rfl,rfl,rfl,rfl⟩,fun w=>MK w⟩
 .exact⟨_,_,_,_,_,⟨rfl,rfl,rfl,rfl,rfl⟩,fun w=>ML w⟩
 .exact⟨_,_,_,_,_,⟨rfl,rfl,rfl,rfl,rfl⟩,fun w=>MM w⟩
 .exact⟨_,_,_,_,_,⟨rfl,rfl,rfl,rfl,rfl⟩,fun w=>MN w⟩
 .exact⟨_,_,_,_,_,⟨rfl,rfl,rfl,rfl,rfl⟩,fun w=>MO w⟩
 .exact⟨_,_,_,_,_,⟨rfl,rfl,rfl,rfl,rfl⟩,fun w=>MP w⟩
 .exact⟨_,_,_,_,_,⟨rfl,rfl,rfl,rfl,rfl⟩,fun w=>MQ w⟩
 .exact⟨_,_,_,_,_,⟨rfl,rfl,rfl,rfl,rfl⟩,fun w=>MR w⟩
 .exact⟨_,_,_,_,_,⟨rfl,rfl,rfl,rfl,rfl⟩,fun w=>Jq w⟩
 .exact⟨_,_,_,_,_,⟨rfl,rfl,rfl,rfl,rfl⟩,fun w=>Jr w⟩
 .exact⟨_,_,_,_,_,⟨rfl,rfl,rfl,rfl,rfl⟩,fun w=>Js w⟩
 .exact⟨_,_,_,_,_,⟨rfl,rfl,rfl,rfl,rfl⟩,fun w=>Jt w⟩
 .exact⟨_,_,_,_,_,⟨rfl,rfl,rfl,rfl,rfl⟩,fun w=>Ju w⟩
 .exact⟨_,_,_,_,_,⟨rfl,rfl,rfl,rfl,rfl⟩,fun w=>Jv w⟩
 .exact⟨_,_,_,_,_,⟨rfl,rfl,rfl,rfl,rfl⟩,fun w=>Jw w⟩
 .exact⟨_,_,_,_,_,⟨rfl,rfl,rfl,rfl,rfl⟩,fun w=>Jx w⟩
 .exact⟨_,_,_,_,_,⟨rfl,rfl,rfl,rfl,rfl⟩,fun w=>Jy w⟩
 .exact⟨_,_,_,_,_,⟨rfl,rfl,rfl,rfl,rfl⟩,fun w=>Jz w⟩
 .exact⟨_,_,_,_,_,⟨rfl,rfl,rfl,rfl,rfl⟩,fun w=>JA w⟩
 .exact⟨_,_,_,_,_,⟨rfl,rfl,rfl,rfl,rfl⟩,fun w=>JB w⟩
 .exact⟨_,_,_,_,_,⟨rfl,rfl,rfl,rfl,rfl⟩,fun w=>JC w⟩
 .exact⟨_,_,_,_,_,⟨rfl,rfl,rfl,rfl,rfl⟩,fun w=>JD w⟩
 .exact⟨_,_,_,_,_,⟨rfl,rfl,rfl,rfl,rfl⟩,fun w=>JE w⟩
 .exact⟨_,_,_,_,_,⟨rfl,rfl,rfl,rfl,rfl⟩,fun w=>JF w⟩
 .exact⟨_,_,_,_,_,⟨rfl,rfl,rfl,rfl,rfl⟩,fun w=>JG w⟩
 .exact⟨_,_,_,_,_,⟨rfl,rfl,rfl,rfl,rfl⟩,fun w=>JH w⟩
 .exact⟨_,_,_,_,_,⟨rfl,rfl,rfl,rfl,rfl⟩,fun w=>JI w⟩
 .exact⟨_,_,_,_,_,⟨rfl,rfl,rfl,rfl,rfl⟩,fun w=>JJ w⟩
 .exact⟨_,_,_,_,_,⟨rfl,rfl,rfl,rfl,rfl⟩,fun w=>JK w⟩
 .exact⟨_,_,_,_,_,⟨rfl,rfl,rfl,rfl,rfl⟩,fun w=>JL w⟩
 .exact⟨_,_,_,_,_,⟨rfl,rfl,rfl,rfl,rfl⟩,fun w=>JM w⟩
 .exact⟨_,_,_,_,_,⟨rfl,rfl,rfl,rfl,rfl⟩,fun w=>JN w⟩
 .exact⟨_,_,_,_,_,⟨rfl,rfl,rfl,rfl,rfl⟩,fun w=>JO w⟩
 .exact⟨_,_,_,_,_,⟨rfl,rfl,rfl,rfl,rfl⟩,fun w=>JP w⟩
 .exact⟨_,_,_,_,_,⟨rfl,rfl,rfl,rfl,rfl⟩,fun w=>JQ w⟩
 .exact⟨_,_,_,_,_,⟨rfl,rfl,rfl,rfl,rfl⟩,fun w=>JR w⟩
def Bp(b:Int):Prop:=b=45\/b=110\/b=119\/b=118\/b=100\/b=120\/b=99\/b=97
instance (b:Int):Decidable (Bp b):=by unfold Bp;infer_instance
def PM(L:Lt):Bool:=decide (Bp L.a)&&(decide (Bp L.b)&&(decide (Bp L.c)&&(decide (Bp L.d)&&(decide (L.e=45\/L.e=105\/L.e=112\/L.e=115\/L.e=113)&&decide (L.e=112->L.a=118\/(L.a=45/\L.b=118))))))
theorem NT{p:Prop}[Decidable p]{x y:Lt}(h:PM x=true)(k:PM y=true):PM (if p then x else y)=true:=by
 split
 .exact h
 .exact k
theorem NM(op:Int):PM (BU op)=true:=by
 unfold BU
 iterate 19 refine NT dE ?_
 decide
theorem OY(op:Int):Bp (BU op).a/\Bp (BU op).b/\Bp (BU op).c/\Bp (BU op).d/\((BU op).e=45\/(BU op).e=105\/(BU op).e=112\/(BU op).e=115\/(BU op).e=113)/\((BU op).e=112->(BU op).a=118\/((BU op).a=45/\(BU op).b=118)):=by
 have:=NM op;unfold PM at this;simp only[Bool.and_eq_true,decide_eq_true_eq]at this;exact this
theorem Md(v0 v1 v2 v3:Value)(i:AB)(h0:0<=i.bits)(h1:i.bits<4294967296)(h:(Ax i.op&&((i.op==1||i.bits==0)&&BE i.bits))=false)(w:World):
 Calls prog 68 #[.agg #[v0,v1,v2,v3],Bo i] w fun e w'=>e=.returned (.bool false)/\Below w.heap.size w w':=by
 have HCAN:Hid (∀w,Calls prog 67 #[.int .u32 i.bits] w fun e w'=>e=.returned (.bool (BE i.bits))/\Below w.heap.size w w'):=Cr i.bits h0 h1;cases hk:Ax i.op
 .have HROW:Hid (∀w,Calls prog 48 #[.int .i64 i.op] w fun e w'=>e=.returned (.tuple #[.string ⟨#[]⟩,.bool false])/\w'=w):=Gi i.op hk;obtain⟨op,D,A,B,E,n,bt⟩:=i;unfold Bo;simp only at HROW HCAN |-;clear h hk;go_enter func68,ntmps68;go_wp2_with(go_at_call 48;refine(HROW.out _).mono ?_;rintro e w1 ⟨rfl,rfl⟩);go_ret;exact Nm
 .obtain⟨a,b,c,d,e,-,hc⟩:=GG i.op hk;have HROW:Hid (∀w,Calls prog 48 #[.int .i64 i.op] w fun x w'=>x=.returned (.tuple #[.string ⟨#[a,b,c,d,e]⟩,.bool true])/\w'=w):=hc;rw[hk,Bool.true_and]at h;clear hc hk;obtain⟨op,D,A,B,E,n,bt⟩:=i;unfold Bo;simp only at HROW HCAN h |-;cases ho:(op==1)
  .have ho':(op != 1)=true:=by simpa using ho
   cases hz:(bt==0)
   .have hz':(bt != 0)=true:=by simpa using hz
    clear h;go_enter func68,ntmps68;go_wp2_with(go_at_call 48;refine(HROW.out _).mono ?_;rintro e w1 ⟨rfl,rfl⟩);go_ret;exact Nm
   .rw[ho,hz,Bool.false_or,Bool.true_and]at h;rw[h]at HCAN;have hz':(bt != 0)=false:=by simpa using hz
    exact Rk
  .rw[ho,Bool.true_or,Bool.true_and]at h;rw[h]at HCAN;have ho':(op != 1)=false:=by simpa using ho
   exact Rk
structure TW(w:World)(v0 v1 v2 v3:Value)(J:Nat)(op D A B E n bt:Int)(v:World):Prop where
 bel:Below w.heap.size w v
 c0:v.cell? ⟨w.heap.size,0,none⟩=some v0
 c1:v.cell? ⟨w.heap.size,1,none⟩=some v1
 c2:v.cell? ⟨w.heap.size,2,none⟩=some v2
 c3:v.cell? ⟨w.heap.size,3,none⟩=some v3
 i0:v.cell? ⟨J,0,none⟩=some (.int .i64 op)
 i1:v.cell? ⟨J,1,none⟩=some (.int .i64 D)
 i2:v.cell? ⟨J,2,none⟩=some (.int .i64 A)
 i3:v.cell? ⟨J,3,none⟩=some (.int .i64 B)
 i4:v.cell? ⟨J,4,none⟩=some (.int .i64 E)
 i5:v.cell? ⟨J,5,none⟩=some (.int .i64 n)
 i6:v.cell? ⟨J,6,none⟩=some (.int .u32 bt)
theorem TW.next{w:World}{v0 v1 v2 v3:Value}{J:Nat}{op D A B E n bt:Int}{v v':World}(h:TW w v0 v1 v2 v3 J op D A B E n bt v)(k:Below v.heap.size v v'):TW w v0 v1 v2 v3 J op D A B E n bt v':=
 ⟨Go.Proofs.YtnlgkkbmbijndaaGreat.bel h.bel k,kc k h.c0,kc k h.c1,kc k h.c2,kc k h.c3,kc k h.i0,kc k h.i1,kc k h.i2,kc k h.i3,kc k h.i4,kc k h.i5,kc k h.i6⟩
theorem TW.keep{w:World}{v0 v1 v2 v3:Value}{J:Nat}{op D A B E n bt:Int}{v:World}(h:TW w v0 v1 v2 v3 J op D A B E n bt v){g o:Nat}(x:Value)(h1:w.heap.size<g)(h2:g≠J):TW w v0 v1 v2 v3 J op D A B E n bt (v.setCell ⟨g,o,none⟩ x):=by
 have f1:∀j,(v.setCell ⟨g,o,none⟩ x).cell? ⟨w.heap.size,j,none⟩=v.cell? ⟨w.heap.size,j,none⟩:=fun j=>gC (gE (by show w.heap.size≠g;omega));have f2:∀j,(v.setCell ⟨g,o,none⟩ x).cell? ⟨J,j,none⟩=v.cell? ⟨J,j,none⟩:=fun j=>gC (gE (by show J≠g;omega));exact⟨h.bel.setCell (by show w.heap.size<=g;omega) _,(f1 0).trans h.c0,(f1 1).trans h.c1,(f1 2).trans h.c2,(f1 3).trans h.c3,(f2 0).trans h.i0,(f2 1).trans h.i1,(f2 2).trans h.i2,(f2 3).trans h.i3,(f2 4).trans h.i4,(f2 5).trans h.i5,(f2 6).trans h.i6⟩
theorem TW.start(w:World)(v0 v1 v2 v3:Value)(op D A B E n bt:Int):TW w v0 v1 v2 v3 (w.heap.size+1) op D A B E n bt ((w.alloc (.cells #[v0,v1,v2,v3] 27)).alloc (.cells #[.int .i64 op,.int .i64 D,.int .i64 A,.int .i64 B,.int .i64 E,.int .i64 n,.int .u32 bt] 70)):=by
 have k:=A5 (w.alloc (.cells #[v0,v1,v2,v3] 27)) (.cells #[.int .i64 op,.int .i64 D,.int .i64 A,.int .i64 B,.int .i64 E,.int .i64 n,.int .u32 bt] 70);exact⟨Go.Proofs.YtnlgkkbmbijndaaGreat.bel (A5 _ _) k,kc k sG,kc k sG,kc k sG,kc k sG,sG,sG,sG,sG,sG,sG,sG⟩
theorem Ce{n:Nat}{w v:World}(h:Below n w v):Below n w v.drew:=h.drew
def Qr(a b:Cd):Bool:=decide (a.sign=b.sign)&&(decide (a.regs=b.regs)&&(decide (a.slots=b.slots)&&decide (a.list=b.list)))
theorem H5(a:Cd):Qr a a=true:=by simp[Qr]
theorem Ln{w v:World}{a0 a1 a2 a3 b0 b1 b2 b3:Value}{t:TypeId}(k:Below ((w.alloc (.cells #[a0,a1,a2,a3] t)).alloc (.cells #[b0,b1,b2,b3] t)).heap.size ((w.alloc (.cells #[a0,a1,a2,a3] t)).alloc (.cells #[b0,b1,b2,b3] t)) v):
 (v.cell? ⟨w.heap.size,0,none⟩=some a0/\v.cell? ⟨w.heap.size,1,none⟩=some a1/\v.cell? ⟨w.heap.size,2,none⟩=some a2/\v.cell? ⟨w.heap.size,3,none⟩=some a3)/\v.cell? ⟨w.heap.size+1,0,none⟩=some b0/\v.cell? ⟨w.heap.size+1,1,none⟩=some b1/\v.cell? ⟨w.heap.size+1,2,none⟩=some b2/\v.cell? ⟨w.heap.size+1,3,none⟩=some b3:=
 ⟨⟨kc k sG,kc k sG,kc k sG,kc k sG⟩,kc k sG,kc k sG,kc k sG,kc k sG⟩
theorem FB(a0 a1 a2 a3 b0 b1 b2 b3:Value)(a b:Cd)(ha:Bd a)(hb:Bd b)(w:World)(hA:CN w a0 a1 a2 a3 a)(hB:CN w b0 b1 b2 b3 b):
 Calls prog 10 #[.agg #[a0,a1,a2,a3],.agg #[b0,b1,b2,b3]] w fun e w'=>e=.returned (.bool (Qr a b))/\Below w.heap.size w w':=by
 have hl0:=ha.signL;have hm0:=hb.signL;have HV0:Hid (B4 3 Au w a0 a.sign):=hA.sign;have HU0:Hid (B4 3 Au w b0 b.sign):=hB.sign;have hl1:=ha.regsL;have hm1:=hb.regsL;have HV1:Hid (B4 2 Ey w a1 a.regs):=hA.regs;have HU1:Hid (B4 2 Ey w b1 b.regs):=hB.regs;have hl2:=ha.slotsL;have hm2:=hb.slotsL;have HV2:Hid (B4 5 F8 w a2 a.slots):=hA.slots;have HU2:Hid (B4 5 F8 w b2 b.slots):=hB.slots;have hl3:=ha.listL;have hm3:=hb.listL;have HV3:Hid (B4 7 BR w a3 a.list):=hA.list;have HU3:Hid (B4 7 BR w b3 b.list):=hB.list;obtain⟨p0,c0,rfl,-⟩:=hA.sign;obtain⟨q0,d0,rfl,-⟩:=hB.sign;obtain⟨p1,c1,rfl,-⟩:=hA.regs;obtain⟨q1,d1,rfl,-⟩:=hB.regs;obtain⟨p2,c2,rfl,-⟩:=hA.slots;obtain⟨q2,d2,rfl,-⟩:=hB.slots;obtain⟨p3,c3,rfl,-⟩:=hA.list;obtain⟨q3,d3,rfl,-⟩:=hB.list;clear hA hB ha hb;unfold Qr;obtain⟨l0,hL0⟩:∃l,a.sign=l:=⟨_,rfl⟩
 obtain⟨m0,hM0⟩:∃l,b.sign=l:=⟨_,rfl⟩
 rw[hL0]at hl0 HV0 |-;rw[hM0]at hm0 HU0 |-;obtain⟨l1,hL1⟩:∃l,a.regs=l:=⟨_,rfl⟩
 obtain⟨m1,hM1⟩:∃l,b.regs=l:=⟨_,rfl⟩
 rw[hL1]at hl1 HV1 |-;rw[hM1]at hm1 HU1 |-;obtain⟨l2,hL2⟩:∃l,a.slots=l:=⟨_,rfl⟩
 obtain⟨m2,hM2⟩:∃l,b.slots=l:=⟨_,rfl⟩
 rw[hL2]at hl2 HV2 |-;rw[hM2]at hm2 HU2 |-;obtain⟨l3,hL3⟩:∃l,a.list=l:=⟨_,rfl⟩
 obtain⟨m3,hM3⟩:∃l,b.list=l:=⟨_,rfl⟩
 rw[hL3]at hl3 HV3 |-;rw[hM3]at hm3 HU3 |-;clear hL0 hL1 hL2 hL3 hM0 hM1 hM2 hM3;have HLE0:Hid (l0.length=m0.length->(l0=m0↔∀j (h1:j<l0.length) (h2:j<m0.length),l0[j]=m0[j])):=fun hne=>⟨fun e=>by subst e;exact fun j h1 h2=>rfl,fun h=>List.ext_getElem hne h⟩
 obtain⟨N0,hN0⟩:∃N,l0.length=N:=⟨_,rfl⟩
 obtain⟨M0,hM0⟩:∃N,m0.length=N:=⟨_,rfl⟩
 rw[hN0]at hl0 HV0 |-;rw[hM0]at hm0 HU0 |-;have HN0:Hid (l0.length=N0):=hN0;have HM0:Hid (m0.length=M0):=hM0;have HLE1:Hid (l1.length=m1.length->(l1=m1↔∀j (h1:j<l1.length) (h2:j<m1.length),l1[j]=m1[j])):=fun hne=>⟨fun e=>by subst e;exact fun j h1 h2=>rfl,fun h=>List.ext_getElem hne h⟩
 obtain⟨N1,hN1⟩:∃N,l1.length=N:=⟨_,rfl⟩
 obtain⟨M1,hM1⟩:∃N,m1.length=N:=⟨_,rfl⟩
 rw[hN1]at hl1 HV1 |-;rw[hM1]at hm1 HU1 |-;have HN1:Hid (l1.length=N1):=hN1;have HM1:Hid (m1.length=M1):=hM1;have HLE2:Hid (l2.length=m2.length->(l2=m2↔∀j (h1:j<l2.length) (h2:j<m2.length),l2[j]=m2[j])):=fun hne=>⟨fun e=>by subst e;exact fun j h1 h2=>rfl,fun h=>List.ext_getElem hne h⟩
 obtain⟨N2,hN2⟩:∃N,l2.length=N:=⟨_,rfl⟩
 obtain⟨M2,hM2⟩:∃N,m2.length=N:=⟨_,rfl⟩
 rw[hN2]at hl2 HV2 |-;rw[hM2]at hm2 HU2 |-;have HN2:Hid (l2.length=N2):=hN2;have HM2:Hid (m2.length=M2):=hM2;have HLE3:Hid (l3.length=m3.length->(l3=m3↔∀j (h1:j<l3.length) (h2:j<m3.length),l3[j]=m3[j])):=fun hne=>⟨fun e=>by subst e;exact fun j h1 h2=>rfl,fun h=>List.ext_getElem hne h⟩
 obtain⟨N3,hN3⟩:∃N,l3.length=N:=⟨_,rfl⟩
 obtain⟨M3,hM3⟩:∃N,m3.length=N:=⟨_,rfl⟩
 rw[hN3]at hl3 HV3 |-;rw[hM3]at hm3 HU3 |-;have HN3:Hid (l3.length=N3):=hN3;have HM3:Hid (m3.length=M3):=hM3;obtain⟨R,hR⟩:=gA ((decide (l0=m0)&&(decide (l1=m1)&&(decide (l2=m2)&&decide (l3=m3)))))
 rw[hR];have HR:Hid ((decide (l0=m0)&&(decide (l1=m1)&&(decide (l2=m2)&&decide (l3=m3))))=R):=hR;have HBX:Hid (∀v,Below ((w.alloc (.cells #[.slice p0 N0 c0,.slice p1 N1 c1,.slice p2 N2 c2,.slice p3 N3 c3] 27)).alloc (.cells #[.slice q0 M0 d0,.slice q1 M1 d1,.slice q2 M2 d2,.slice q3 M3 d3] 27)).heap.size ((w.alloc (.cells #[.slice p0 N0 c0,.slice p1 N1 c1,.slice p2 N2 c2,.slice p3 N3 c3] 27)).alloc (.cells #[.slice q0 M0 d0,.slice q1 M1 d1,.slice q2 M2 d2,.slice q3 M3 d3] 27)) v->(v.cell? ⟨w.heap.size,0,none⟩=some (.slice p0 N0 c0)/\v.cell? ⟨w.heap.size,1,none⟩=some (.slice p1 N1 c1)/\v.cell? ⟨w.heap.size,2,none⟩=some (.slice p2 N2 c2)/\v.cell? ⟨w.heap.size,3,none⟩=some (.slice p3 N3 c3))/\v.cell? ⟨w.heap.size+1,0,none⟩=some (.slice q0 M0 d0)/\v.cell? ⟨w.heap.size+1,1,none⟩=some (.slice q1 M1 d1)/\v.cell? ⟨w.heap.size+1,2,none⟩=some (.slice q2 M2 d2)/\v.cell? ⟨w.heap.size+1,3,none⟩=some (.slice q3 M3 d3)):=fun v k=>Ln k;have HB0:Hid (Below w.heap.size w ((w.alloc (.cells #[.slice p0 N0 c0,.slice p1 N1 c1,.slice p2 N2 c2,.slice p3 N3 c3] 27)).alloc (.cells #[.slice q0 M0 d0,.slice q1 M1 d1,.slice q2 M2 d2,.slice q3 M3 d3] 27))):=bel (A5 _ _) (A5 _ _);clear hN0 hN1 hN2 hN3 hM0 hM1 hM2 hM3 hR;by_cases e0:N0=M0
 case neg=>
  have hf:R=false:=by
   rw[<-HR.out];have:decide (l0=m0)=false:=decide_eq_false fun e=>e0 (by rw[<-HN0.out,<-HM0.out,e]);rw[this];simp
  subst hf;have h1:((N0:Int)==(M0:Int))=false:=by have:(N0:Int)≠(M0:Int):=oM;simpa using this
  have h2:((N0:Int) != (M0:Int))=true:=by have:(N0:Int)≠(M0:Int):=oM;simpa using this
  have h3:(N0==M0)=false:=by simpa using e0
  clear HV0 HV1 HV2 HV3 HU0 HU1 HU2 HU3 HLE0 HLE1 HLE2 HLE3 e0;exact Q6
 subst e0;by_cases e1:N1=M1
 case neg=>
  have hf:R=false:=by
   rw[<-HR.out];have:decide (l1=m1)=false:=decide_eq_false fun e=>e1 (by rw[<-HN1.out,<-HM1.out,e]);rw[this];simp
  subst hf;have h1:((N1:Int)==(M1:Int))=false:=by have:(N1:Int)≠(M1:Int):=oM;simpa using this
  have h2:((N1:Int) != (M1:Int))=true:=by have:(N1:Int)≠(M1:Int):=oM;simpa using this
  have h3:(N1==M1)=false:=by simpa using e1
  clear HV0 HV1 HV2 HV3 HU0 HU1 HU2 HU3 HLE0 HLE1 HLE2 HLE3 e1;exact Q6
 subst e1;by_cases e2:N2=M2
 case neg=>
  have hf:R=false:=by
   rw[<-HR.out];have:decide (l2=m2)=false:=decide_eq_false fun e=>e2 (by rw[<-HN2.out,<-HM2.out,e]);rw[this];simp
  subst hf;have h1:((N2:Int)==(M2:Int))=false:=by have:(N2:Int)≠(M2:Int):=oM;simpa using this
  have h2:((N2:Int) != (M2:Int))=true:=by have:(N2:Int)≠(M2:Int):=oM;simpa using this
  have h3:(N2==M2)=false:=by simpa using e2
  clear HV0 HV1 HV2 HV3 HU0 HU1 HU2 HU3 HLE0 HLE1 HLE2 HLE3 e2;exact Q6
 subst e2;by_cases e3:N3=M3
 case neg=>
  have hf:R=false:=by
   rw[<-HR.out];have:decide (l3=m3)=false:=decide_eq_false fun e=>e3 (by rw[<-HN3.out,<-HM3.out,e]);rw[this];simp
  subst hf;have h1:((N3:Int)==(M3:Int))=false:=by have:(N3:Int)≠(M3:Int):=oM;simpa using this
  have h2:((N3:Int) != (M3:Int))=true:=by have:(N3:Int)≠(M3:Int):=oM;simpa using this
  have h3:(N3==M3)=false:=by simpa using e3
  clear HV0 HV1 HV2 HV3 HU0 HU1 HU2 HU3 HLE0 HLE1 HLE2 HLE3 e3;exact Q6
 subst e3;go_enter func10,ntmps10;go_wp2;obtain⟨V,hV⟩:=gA (((w.alloc (.cells #[.slice p0 N0 c0,.slice p1 N1 c1,.slice p2 N2 c2,.slice p3 N3 c3] 27)).alloc (.cells #[.slice q0 N0 d0,.slice q1 N1 d1,.slice q2 N2 d2,.slice q3 N3 d3] 27)))
 rw[hV]at HBX HB0 |-;have HBV:Hid (∀v,Below V.heap.size V v->(v.cell? ⟨w.heap.size,0,none⟩=some (.slice p0 N0 c0)/\v.cell? ⟨w.heap.size,1,none⟩=some (.slice p1 N1 c1)/\v.cell? ⟨w.heap.size,2,none⟩=some (.slice p2 N2 c2)/\v.cell? ⟨w.heap.size,3,none⟩=some (.slice p3 N3 c3))/\v.cell? ⟨w.heap.size+1,0,none⟩=some (.slice q0 N0 d0)/\v.cell? ⟨w.heap.size+1,1,none⟩=some (.slice q1 N1 d1)/\v.cell? ⟨w.heap.size+1,2,none⟩=some (.slice q2 N2 d2)/\v.cell? ⟨w.heap.size+1,3,none⟩=some (.slice q3 N3 d3)):=HBX.out;obtain⟨⟨z0,z1,z2,z3⟩,y0,y1,y2,y3⟩:=HBV.out V (Ck V);clear HBX hV
 go_loopw [5] (fun iv wr=>Below V.heap.size V wr/\∃j:Nat,j<=N0/\iv=.int .i64 j/\Hid (∀i (h1:i<l0.length) (h2:i<m0.length),i<j->l0[i]=m0[i])) (fun iv _=>N0-(intOf iv).toNat)
 case atStart=>exact⟨Ck V,0,gI _,rfl,fun i _ _ hi=>absurd hi (Nat.not_lt_zero _)⟩
 case round=>
  obtain⟨hbv,j,hj,rfl,hp⟩:=hrel;obtain⟨⟨g0,g1,g2,g3⟩,g4,g5,g6,g7⟩:=HBV.out wr hbv;by_cases hlt:j<N0
  .have h1:j<l0.length:=by rw[HN0.out];exact hlt
   have h2:j<m0.length:=by rw[HM0.out];exact hlt
   obtain⟨b,o,rfl,hx⟩:=HV0.at h1;obtain⟨b',o',rfl,hy⟩:=HU0.at h2;have hx':=hx.below (bel HB0.out hbv);have hy':=hy.below (bel HB0.out hbv);have x0:=hx'.at 0 rfl;have w0:=hy'.at 0 rfl;have x1:=hx'.at 1 rfl;have w1:=hy'.at 1 rfl;have x2:=hx'.at 2 rfl;have w2:=hy'.at 2 rfl;rw[Nat.add_zero]at x0 w0;have NE:=NR l0[j] m0[j];have NX:Hid (l0[j]=m0[j]->∀i (h1:i<l0.length) (h2:i<m0.length),i<j+1->l0[i]=m0[i]):=fun e i h1 h2 hi=>by
    exact Qc
   have NB:Hid (¬l0[j]=m0[j]->R=false):=fun e=>by
    rw[<-HR.out];have:decide (l0=m0)=false:=decide_eq_false fun e2=>e ((HLE0.out (by rw[HN0.out,HM0.out])).1 e2 j h1 h2);rw[this];simp
   obtain⟨X,hX⟩:=gA (l0[j])
   obtain⟨Y,hY⟩:=gA (m0[j])
   rw[hX]at x0 x1 x2 NX NB;rw[hY]at w0 w1 w2 NX NB;simp only[hX,hY]at NE;obtain⟨D,hD⟩:=gA (decide (X=Y))
   simp only[hD]at NE;unfold pv at NE;have HNE:Hid (∀w,(binOp .neq 59 (.agg #[.string X.name,.int .i64 X.kind,.int .i64 X.len]) (.agg #[.string Y.name,.int .i64 Y.kind,.int .i64 Y.len])).run prog w=.ok (.bool (!D)) w):=NE;have i1:(0:Int)<=(j:Int):=oM;have i2:(j:Int)<(N0:Int):=oM;clear NE hX hY hp hx hy hx' hy';cases D
   .have HB:Hid (¬X=Y):=(show¬X=Y from of_decide_eq_false hD)
    clear hD;go_wp2;refine rG (fun v=>v.cell? ⟨w.heap.size,0,none⟩=some (.slice (some ⟨b,o,none⟩) N0 c0)/\v.cell? ⟨w.heap.size+1,0,none⟩=some (.slice (some ⟨b',o',none⟩) N0 d0)/\v.cell? ⟨b,o+j*3,none⟩=some (.string X.name)/\v.cell? ⟨b,o+j*3+1,none⟩=some (.int .i64 X.kind)/\v.cell? ⟨b,o+j*3+2,none⟩=some (.int .i64 X.len)/\v.cell? ⟨b',o'+j*3,none⟩=some (.string Y.name)/\v.cell? ⟨b',o'+j*3+1,none⟩=some (.int .i64 Y.kind)/\v.cell? ⟨b',o'+j*3+2,none⟩=some (.int .i64 Y.len)) fun hJ=>?_;refine wpAnyH_take (i:=0) (v:=?_) A7 kR kR kR A8 (Or.inl ⟨rF,?_⟩) A9 ?_
    rotate_left 1
    ·(intro wS hSw;(try dsimp only at hSw);go_simp;try(with_reducible rfl))
    try simp only[Act.put,List.setIfInBounds_toArray,List.set_cons_zero,List.set_cons_succ]
    refine wpAnyH_take (i:=1) (v:=?_) A7 kR kR kR A8 (Or.inl ⟨rF,?_⟩) A9 ?_
    rotate_left 1
    ·(intro wS hSw;(try dsimp only at hSw);go_simp;try(with_reducible rfl))
    try simp only[Act.put,List.setIfInBounds_toArray,List.set_cons_zero,List.set_cons_succ]
    refine wpAnyH_take (i:=2) (v:=?_) A7 kR kR kR A8 (Or.inl ⟨rF,?_⟩) A9 ?_
    rotate_left 1
    ·(intro wS hSw;(try dsimp only at hSw);go_simp;try(with_reducible rfl))
    try simp only[Act.put,List.setIfInBounds_toArray,List.set_cons_zero,List.set_cons_succ]
    refine wpAnyH_take (i:=3) (v:=?_) A7 kR kR kR A8 (Or.inl ⟨rF,?_⟩) A9 ?_
    rotate_left 1
    ·(intro wS hSw;(try dsimp only at hSw);go_simp;try(with_reducible rfl))
    try simp only[Act.put,List.setIfInBounds_toArray,List.set_cons_zero,List.set_cons_succ]
    refine wpAnyH_take (i:=4) (v:=?_) A7 kR kR kR A8 (Or.inl ⟨rF,?_⟩) A9 ?_
    rotate_left 1
    ·(intro wS hSw;(try dsimp only at hSw);go_simp;try(with_reducible rfl))
    try simp only[Act.put,List.setIfInBounds_toArray,List.set_cons_zero,List.set_cons_succ]
    refine wpAnyH_take (i:=5) (v:=?_) A7 kR kR kR A8 (Or.inl ⟨rF,?_⟩) A9 ?_
    rotate_left 1
    ·(intro wS hSw;(try dsimp only at hSw);go_simp;try(with_reducible rfl))
    try simp only[Act.put,List.setIfInBounds_toArray,List.set_cons_zero,List.set_cons_succ]
    refine wpAnyH_take (i:=6) (v:=?_) A7 kR kR kR A8 (Or.inl ⟨rF,?_⟩) A9 ?_
    rotate_left 1
    ·(intro wS hSw;(try dsimp only at hSw);go_simp;try(with_reducible rfl))
    try simp only[Act.put,List.setIfInBounds_toArray,List.set_cons_zero,List.set_cons_succ]
    refine wpAnyH_take (i:=7) (v:=?_) A7 kR kR kR A8 (Or.inl ⟨rF,?_⟩) A9 ?_
    rotate_left 1
    ·(intro wS hSw;(try dsimp only at hSw);go_simp;try(with_reducible rfl))
    try simp only[Act.put,List.setIfInBounds_toArray,List.set_cons_zero,List.set_cons_succ]
    refine wpAnyH_take (i:=8) (v:=?_) A7 kR kR kR A8 (Or.inl ⟨rF,?_⟩) A9 ?_
    rotate_left 1
    ·(intro wS hSw;(try dsimp only at hSw);go_simp;try(with_reducible rfl))
    try simp only[Act.put,List.setIfInBounds_toArray,List.set_cons_zero,List.set_cons_succ]
    refine wpAnyH_take (i:=9) (v:=?_) A7 kR kR kR A8 (Or.inl ⟨rF,?_⟩) A9 ?_
    rotate_left 1
    ·(intro wS hSw;(try dsimp only at hSw);go_simp;try(with_reducible rfl))
    try simp only[Act.put,List.setIfInBounds_toArray,List.set_cons_zero,List.set_cons_succ]
    clear hJ;refine AR 10 fun K hK=>?_;refine C9 rF _ _ _ _ rF _ _ _ rF rF (Je _ _ X Y _) (HNE.out _) ?_;exact Q5
   .have HE:Hid (X=Y):=(show X=Y from of_decide_eq_true hD)
    clear hD;go_wp2;refine rG (fun v=>v.cell? ⟨w.heap.size,0,none⟩=some (.slice (some ⟨b,o,none⟩) N0 c0)/\v.cell? ⟨w.heap.size+1,0,none⟩=some (.slice (some ⟨b',o',none⟩) N0 d0)/\v.cell? ⟨b,o+j*3,none⟩=some (.string X.name)/\v.cell? ⟨b,o+j*3+1,none⟩=some (.int .i64 X.kind)/\v.cell? ⟨b,o+j*3+2,none⟩=some (.int .i64 X.len)/\v.cell? ⟨b',o'+j*3,none⟩=some (.string Y.name)/\v.cell? ⟨b',o'+j*3+1,none⟩=some (.int .i64 Y.kind)/\v.cell? ⟨b',o'+j*3+2,none⟩=some (.int .i64 Y.len)) fun hJ=>?_;refine wpAnyH_take (i:=0) (v:=?_) A7 kR kR kR A8 (Or.inl ⟨rF,?_⟩) A9 ?_
    rotate_left 1
    ·(intro wS hSw;(try dsimp only at hSw);go_simp;try(with_reducible rfl))
    try simp only[Act.put,List.setIfInBounds_toArray,List.set_cons_zero,List.set_cons_succ]
    refine wpAnyH_take (i:=1) (v:=?_) A7 kR kR kR A8 (Or.inl ⟨rF,?_⟩) A9 ?_
    rotate_left 1
    ·(intro wS hSw;(try dsimp only at hSw);go_simp;try(with_reducible rfl))
    try simp only[Act.put,List.setIfInBounds_toArray,List.set_cons_zero,List.set_cons_succ]
    refine wpAnyH_take (i:=2) (v:=?_) A7 kR kR kR A8 (Or.inl ⟨rF,?_⟩) A9 ?_
    rotate_left 1
    ·(intro wS hSw;(try dsimp only at hSw);go_simp;try(with_reducible rfl))
    try simp only[Act.put,List.setIfInBounds_toArray,List.set_cons_zero,List.set_cons_succ]
    refine wpAnyH_take (i:=3) (v:=?_) A7 kR kR kR A8 (Or.inl ⟨rF,?_⟩) A9 ?_
    rotate_left 1
    ·(intro wS hSw;(try dsimp only at hSw);go_simp;try(with_reducible rfl))
    try simp only[Act.put,List.setIfInBounds_toArray,List.set_cons_zero,List.set_cons_succ]
    refine wpAnyH_take (i:=4) (v:=?_) A7 kR kR kR A8 (Or.inl ⟨rF,?_⟩) A9 ?_
    rotate_left 1
    ·(intro wS hSw;(try dsimp only at hSw);go_simp;try(with_reducible rfl))
    try simp only[Act.put,List.setIfInBounds_toArray,List.set_cons_zero,List.set_cons_succ]
    refine wpAnyH_take (i:=5) (v:=?_) A7 kR kR kR A8 (Or.inl ⟨rF,?_⟩) A9 ?_
    rotate_left 1
    ·(intro wS hSw;(try dsimp only at hSw);go_simp;try(with_reducible rfl))
    try simp only[Act.put,List.setIfInBounds_toArray,List.set_cons_zero,List.set_cons_succ]
    refine wpAnyH_take (i:=6) (v:=?_) A7 kR kR kR A8 (Or.inl ⟨rF,?_⟩) A9 ?_
    rotate_left 1
    ·(intro wS hSw;(try dsimp only at hSw);go_simp;try(with_reducible rfl))
    try simp only[Act.put,List.setIfInBounds_toArray,List.set_cons_zero,List.set_cons_succ]
    refine wpAnyH_take (i:=7) (v:=?_) A7 kR kR kR A8 (Or.inl ⟨rF,?_⟩) A9 ?_
    rotate_left 1
    ·(intro wS hSw;(try dsimp only at hSw);go_simp;try(with_reducible rfl))
    try simp only[Act.put,List.setIfInBounds_toArray,List.set_cons_zero,List.set_cons_succ]
    refine wpAnyH_take (i:=8) (v:=?_) A7 kR kR kR A8 (Or.inl ⟨rF,?_⟩) A9 ?_
    rotate_left 1
    ·(intro wS hSw;(try dsimp only at hSw);go_simp;try(with_reducible rfl))
    try simp only[Act.put,List.setIfInBounds_toArray,List.set_cons_zero,List.set_cons_succ]
    refine wpAnyH_take (i:=9) (v:=?_) A7 kR kR kR A8 (Or.inl ⟨rF,?_⟩) A9 ?_
    rotate_left 1
    ·(intro wS hSw;(try dsimp only at hSw);go_simp;try(with_reducible rfl))
    try simp only[Act.put,List.setIfInBounds_toArray,List.set_cons_zero,List.set_cons_succ]
    clear hJ;refine AR 10 fun K hK=>?_;refine C9 rF _ _ _ _ rF _ _ _ rF rF (Je _ _ X Y _) (HNE.out _) ?_;exact Q4
  .have hjN:j=N0:=oM;have HF0:Hid (l0=m0):=(HLE0.out (by rw[HN0.out,HM0.out])).2 fun i h1 h2=>hp.out i h1 h2 (by rw[hjN,<-HN0.out];exact h1);have HBW0:Hid (Below V.heap.size V wr):=hbv;subst hjN;clear hp hbv;go_wp2
   go_loopw [6] (fun iv wr=>Below V.heap.size V wr/\∃j:Nat,j<=N1/\iv=.int .i64 j/\Hid (∀i (h1:i<l1.length) (h2:i<m1.length),i<j->l1[i]=m1[i])) (fun iv _=>N1-(intOf iv).toNat)
   case atStart=>exact⟨HBW0.out,0,gI _,rfl,fun i _ _ hi=>absurd hi (Nat.not_lt_zero _)⟩
   case round=>
    obtain⟨hbv,j,hj,rfl,hp⟩:=hrel;obtain⟨⟨g0,g1,g2,g3⟩,g4,g5,g6,g7⟩:=HBV.out wr hbv;by_cases hlt:j<N1
    .have h1:j<l1.length:=by rw[HN1.out];exact hlt
     have h2:j<m1.length:=by rw[HM1.out];exact hlt
     obtain⟨b,o,rfl,hx⟩:=HV1.at h1;obtain⟨b',o',rfl,hy⟩:=HU1.at h2;have hx':=hx.below (bel HB0.out hbv);have hy':=hy.below (bel HB0.out hbv);have x0:=hx'.at 0 rfl;have w0:=hy'.at 0 rfl;have x1:=hx'.at 1 rfl;have w1:=hy'.at 1 rfl;rw[Nat.add_zero]at x0 w0;have NE:=P5 l1[j] m1[j];have NX:Hid (l1[j]=m1[j]->∀i (h1:i<l1.length) (h2:i<m1.length),i<j+1->l1[i]=m1[i]):=fun e i h1 h2 hi=>by
      exact Qc
     have NB:Hid (¬l1[j]=m1[j]->R=false):=fun e=>by
      rw[<-HR.out];have:decide (l1=m1)=false:=decide_eq_false fun e2=>e ((HLE1.out (by rw[HN1.out,HM1.out])).1 e2 j h1 h2);rw[this];simp
     obtain⟨X,hX⟩:=gA (l1[j])
     obtain⟨Y,hY⟩:=gA (m1[j])
     rw[hX]at x0 x1 NX NB;rw[hY]at w0 w1 NX NB;simp only[hX,hY]at NE;obtain⟨D,hD⟩:=gA (decide (X=Y))
     simp only[hD]at NE;unfold Ci at NE;have HNE:Hid (∀w,(binOp .neq 62 (.agg #[.int .i64 X.kind,.int .i64 X.par]) (.agg #[.int .i64 Y.kind,.int .i64 Y.par])).run prog w=.ok (.bool (!D)) w):=NE;have i1:(0:Int)<=(j:Int):=oM;have i2:(j:Int)<(N1:Int):=oM;clear NE hX hY hp hx hy hx' hy';cases D
     .have HB:Hid (¬X=Y):=(show¬X=Y from of_decide_eq_false hD)
      clear hD;go_wp2;refine rG (fun v=>v.cell? ⟨w.heap.size,1,none⟩=some (.slice (some ⟨b,o,none⟩) N1 c1)/\v.cell? ⟨w.heap.size+1,1,none⟩=some (.slice (some ⟨b',o',none⟩) N1 d1)/\v.cell? ⟨b,o+j*2,none⟩=some (.int .i64 X.kind)/\v.cell? ⟨b,o+j*2+1,none⟩=some (.int .i64 X.par)/\v.cell? ⟨b',o'+j*2,none⟩=some (.int .i64 Y.kind)/\v.cell? ⟨b',o'+j*2+1,none⟩=some (.int .i64 Y.par)) fun hJ=>?_;refine wpAnyH_take (i:=0) (v:=?_) A7 kR kR kR A8 (Or.inl ⟨rF,?_⟩) A9 ?_
      rotate_left 1
      ·(intro wS hSw;(try dsimp only at hSw);go_simp;try(with_reducible rfl))
      try simp only[Act.put,List.setIfInBounds_toArray,List.set_cons_zero,List.set_cons_succ]
      refine wpAnyH_take (i:=1) (v:=?_) A7 kR kR kR A8 (Or.inl ⟨rF,?_⟩) A9 ?_
      rotate_left 1
      ·(intro wS hSw;(try dsimp only at hSw);go_simp;try(with_reducible rfl))
      try simp only[Act.put,List.setIfInBounds_toArray,List.set_cons_zero,List.set_cons_succ]
      refine wpAnyH_take (i:=2) (v:=?_) A7 kR kR kR A8 (Or.inl ⟨rF,?_⟩) A9 ?_
      rotate_left 1
      ·(intro wS hSw;(try dsimp only at hSw);go_simp;try(with_reducible rfl))
      try simp only[Act.put,List.setIfInBounds_toArray,List.set_cons_zero,List.set_cons_succ]
      refine wpAnyH_take (i:=3) (v:=?_) A7 kR kR kR A8 (Or.inl ⟨rF,?_⟩) A9 ?_
      rotate_left 1
      ·(intro wS hSw;(try dsimp only at hSw);go_simp;try(with_reducible rfl))
      try simp only[Act.put,List.setIfInBounds_toArray,List.set_cons_zero,List.set_cons_succ]
      refine wpAnyH_take (i:=4) (v:=?_) A7 kR kR kR A8 (Or.inl ⟨rF,?_⟩) A9 ?_
      rotate_left 1
      ·(intro wS hSw;(try dsimp only at hSw);go_simp;try(with_reducible rfl))
      try simp only[Act.put,List.setIfInBounds_toArray,List.set_cons_zero,List.set_cons_succ]
      refine wpAnyH_take (i:=5) (v:=?_) A7 kR kR kR A8 (Or.inl ⟨rF,?_⟩) A9 ?_
      rotate_left 1
      ·(intro wS hSw;(try dsimp only at hSw);go_simp;try(with_reducible rfl))
      try simp only[Act.put,List.setIfInBounds_toArray,List.set_cons_zero,List.set_cons_succ]
      refine wpAnyH_take (i:=6) (v:=?_) A7 kR kR kR A8 (Or.inl ⟨rF,?_⟩) A9 ?_
      rotate_left 1
      ·(intro wS hSw;(try dsimp only at hSw);go_simp;try(with_reducible rfl))
      try simp only[Act.put,List.setIfInBounds_toArray,List.set_cons_zero,List.set_cons_succ]
      refine wpAnyH_take (i:=7) (v:=?_) A7 kR kR kR A8 (Or.inl ⟨rF,?_⟩) A9 ?_
      rotate_left 1
      ·(intro wS hSw;(try dsimp only at hSw);go_simp;try(with_reducible rfl))
      try simp only[Act.put,List.setIfInBounds_toArray,List.set_cons_zero,List.set_cons_succ]
      refine wpAnyH_take (i:=8) (v:=?_) A7 kR kR kR A8 (Or.inl ⟨rF,?_⟩) A9 ?_
      rotate_left 1
      ·(intro wS hSw;(try dsimp only at hSw);go_simp;try(with_reducible rfl))
      try simp only[Act.put,List.setIfInBounds_toArray,List.set_cons_zero,List.set_cons_succ]
      refine wpAnyH_take (i:=9) (v:=?_) A7 kR kR kR A8 (Or.inl ⟨rF,?_⟩) A9 ?_
      rotate_left 1
      ·(intro wS hSw;(try dsimp only at hSw);go_simp;try(with_reducible rfl))
      try simp only[Act.put,List.setIfInBounds_toArray,List.set_cons_zero,List.set_cons_succ]
      clear hJ;refine AR 10 fun K hK=>?_;refine C9 rF _ _ _ _ rF _ _ _ rF rF (LM _ _ X Y _) (HNE.out _) ?_;exact Q5
     .have HE:Hid (X=Y):=(show X=Y from of_decide_eq_true hD)
      clear hD;go_wp2;refine rG (fun v=>v.cell? ⟨w.heap.size,1,none⟩=some (.slice (some ⟨b,o,none⟩) N1 c1)/\v.cell? ⟨w.heap.size+1,1,none⟩=some (.slice (some ⟨b',o',none⟩) N1 d1)/\v.cell? ⟨b,o+j*2,none⟩=some (.int .i64 X.kind)/\v.cell? ⟨b,o+j*2+1,none⟩=some (.int .i64 X.par)/\v.cell? ⟨b',o'+j*2,none⟩=some (.int .i64 Y.kind)/\v.cell? ⟨b',o'+j*2+1,none⟩=some (.int .i64 Y.par)) fun hJ=>?_;refine wpAnyH_take (i:=0) (v:=?_) A7 kR kR kR A8 (Or.inl ⟨rF,?_⟩) A9 ?_
      rotate_left 1
      ·(intro wS hSw;(try dsimp only at hSw);go_simp;try(with_reducible rfl))
      try simp only[Act.put,List.setIfInBounds_toArray,List.set_cons_zero,List.set_cons_succ]
      refine wpAnyH_take (i:=1) (v:=?_) A7 kR kR kR A8 (Or.inl ⟨rF,?_⟩) A9 ?_
      rotate_left 1
      ·(intro wS hSw;(try dsimp only at hSw);go_simp;try(with_reducible rfl))
      try simp only[Act.put,List.setIfInBounds_toArray,List.set_cons_zero,List.set_cons_succ]
      refine wpAnyH_take (i:=2) (v:=?_) A7 kR kR kR A8 (Or.inl ⟨rF,?_⟩) A9 ?_
      rotate_left 1
      ·(intro wS hSw;(try dsimp only at hSw);go_simp;try(with_reducible rfl))
      try simp only[Act.put,List.setIfInBounds_toArray,List.set_cons_zero,List.set_cons_succ]
      refine wpAnyH_take (i:=3) (v:=?_) A7 kR kR kR A8 (Or.inl ⟨rF,?_⟩) A9 ?_
      rotate_left 1
      ·(intro wS hSw;(try dsimp only at hSw);go_simp;try(with_reducible rfl))
      try simp only[Act.put,List.setIfInBounds_toArray,List.set_cons_zero,List.set_cons_succ]
      refine wpAnyH_take (i:=4) (v:=?_) A7 kR kR kR A8 (Or.inl ⟨rF,?_⟩) A9 ?_
      rotate_left 1
      ·(intro wS hSw;(try dsimp only at hSw);go_simp;try(with_reducible rfl))
      try simp only[Act.put,List.setIfInBounds_toArray,List.set_cons_zero,List.set_cons_succ]
      refine wpAnyH_take (i:=5) (v:=?_) A7 kR kR kR A8 (Or.inl ⟨rF,?_⟩) A9 ?_
      rotate_left 1
      ·(intro wS hSw;(try dsimp only at hSw);go_simp;try(with_reducible rfl))
      try simp only[Act.put,List.setIfInBounds_toArray,List.set_cons_zero,List.set_cons_succ]
      refine wpAnyH_take (i:=6) (v:=?_) A7 kR kR kR A8 (Or.inl ⟨rF,?_⟩) A9 ?_
      rotate_left 1
      ·(intro wS hSw;(try dsimp only at hSw);go_simp;try(with_reducible rfl))
      try simp only[Act.put,List.setIfInBounds_toArray,List.set_cons_zero,List.set_cons_succ]
      refine wpAnyH_take (i:=7) (v:=?_) A7 kR kR kR A8 (Or.inl ⟨rF,?_⟩) A9 ?_
      rotate_left 1
      ·(intro wS hSw;(try dsimp only at hSw);go_simp;try(with_reducible rfl))
      try simp only[Act.put,List.setIfInBounds_toArray,List.set_cons_zero,List.set_cons_succ]
      refine wpAnyH_take (i:=8) (v:=?_) A7 kR kR kR A8 (Or.inl ⟨rF,?_⟩) A9 ?_
      rotate_left 1
      ·(intro wS hSw;(try dsimp only at hSw);go_simp;try(with_reducible rfl))
      try simp only[Act.put,List.setIfInBounds_toArray,List.set_cons_zero,List.set_cons_succ]
      refine wpAnyH_take (i:=9) (v:=?_) A7 kR kR kR A8 (Or.inl ⟨rF,?_⟩) A9 ?_
      rotate_left 1
      ·(intro wS hSw;(try dsimp only at hSw);go_simp;try(with_reducible rfl))
      try simp only[Act.put,List.setIfInBounds_toArray,List.set_cons_zero,List.set_cons_succ]
      clear hJ;refine AR 10 fun K hK=>?_;refine C9 rF _ _ _ _ rF _ _ _ rF rF (LM _ _ X Y _) (HNE.out _) ?_;exact Q4
    .have hjN:j=N1:=oM;have HF1:Hid (l1=m1):=(HLE1.out (by rw[HN1.out,HM1.out])).2 fun i h1 h2=>hp.out i h1 h2 (by rw[hjN,<-HN1.out];exact h1);have HBW1:Hid (Below V.heap.size V wr):=hbv;subst hjN;clear hp hbv;go_wp2
     go_loopw [7] (fun iv wr=>Below V.heap.size V wr/\∃j:Nat,j<=N2/\iv=.int .i64 j/\Hid (∀i (h1:i<l2.length) (h2:i<m2.length),i<j->l2[i]=m2[i])) (fun iv _=>N2-(intOf iv).toNat)
     case atStart=>exact⟨HBW1.out,0,gI _,rfl,fun i _ _ hi=>absurd hi (Nat.not_lt_zero _)⟩
     case round=>
      obtain⟨hbv,j,hj,rfl,hp⟩:=hrel;obtain⟨⟨g0,g1,g2,g3⟩,g4,g5,g6,g7⟩:=HBV.out wr hbv;by_cases hlt:j<N2
      .have h1:j<l2.length:=by rw[HN2.out];exact hlt
       have h2:j<m2.length:=by rw[HM2.out];exact hlt
       obtain⟨b,o,rfl,hx⟩:=HV2.at h1;obtain⟨b',o',rfl,hy⟩:=HU2.at h2;have hx':=hx.below (bel HB0.out hbv);have hy':=hy.below (bel HB0.out hbv);have x0:=hx'.at 0 rfl;have w0:=hy'.at 0 rfl;have x1:=hx'.at 1 rfl;have w1:=hy'.at 1 rfl;have x2:=hx'.at 2 rfl;have w2:=hy'.at 2 rfl;have x3:=hx'.at 3 rfl;have w3:=hy'.at 3 rfl;have x4:=hx'.at 4 rfl;have w4:=hy'.at 4 rfl;rw[Nat.add_zero]at x0 w0;have NE:=P4 l2[j] m2[j];have NX:Hid (l2[j]=m2[j]->∀i (h1:i<l2.length) (h2:i<m2.length),i<j+1->l2[i]=m2[i]):=fun e i h1 h2 hi=>by
        exact Qc
       have NB:Hid (¬l2[j]=m2[j]->R=false):=fun e=>by
        rw[<-HR.out];have:decide (l2=m2)=false:=decide_eq_false fun e2=>e ((HLE2.out (by rw[HN2.out,HM2.out])).1 e2 j h1 h2);rw[this];simp
       obtain⟨X,hX⟩:=gA (l2[j])
       obtain⟨Y,hY⟩:=gA (m2[j])
       rw[hX]at x0 x1 x2 x3 x4 NX NB;rw[hY]at w0 w1 w2 w3 w4 NX NB;simp only[hX,hY]at NE;obtain⟨D,hD⟩:=gA (decide (X=Y))
       simp only[hD]at NE;unfold FN at NE;have HNE:Hid (∀w,(binOp .neq 66 (.agg #[.int .i64 X.ty.kind,.int .i64 X.ty.par,.bool X.keep,.int .u32 X.bits,.int .i64 X.int_]) (.agg #[.int .i64 Y.ty.kind,.int .i64 Y.ty.par,.bool Y.keep,.int .u32 Y.bits,.int .i64 Y.int_])).run prog w=.ok (.bool (!D)) w):=NE;have i1:(0:Int)<=(j:Int):=oM;have i2:(j:Int)<(N2:Int):=oM;clear NE hX hY hp hx hy hx' hy';cases D
       .have HB:Hid (¬X=Y):=(show¬X=Y from of_decide_eq_false hD)
        clear hD;go_wp2;refine rG (fun v=>v.cell? ⟨w.heap.size,2,none⟩=some (.slice (some ⟨b,o,none⟩) N2 c2)/\v.cell? ⟨w.heap.size+1,2,none⟩=some (.slice (some ⟨b',o',none⟩) N2 d2)/\v.cell? ⟨b,o+j*5,none⟩=some (.int .i64 X.ty.kind)/\v.cell? ⟨b,o+j*5+1,none⟩=some (.int .i64 X.ty.par)/\v.cell? ⟨b,o+j*5+2,none⟩=some (.bool X.keep)/\v.cell? ⟨b,o+j*5+3,none⟩=some (.int .u32 X.bits)/\v.cell? ⟨b,o+j*5+4,none⟩=some (.int .i64 X.int_)/\v.cell? ⟨b',o'+j*5,none⟩=some (.int .i64 Y.ty.kind)/\v.cell? ⟨b',o'+j*5+1,none⟩=some (.int .i64 Y.ty.par)/\v.cell? ⟨b',o'+j*5+2,none⟩=some (.bool Y.keep)/\v.cell? ⟨b',o'+j*5+3,none⟩=some (.int .u32 Y.bits)/\v.cell? ⟨b',o'+j*5+4,none⟩=some (.int .i64 Y.int_)) fun hJ=>?_;refine wpAnyH_take (i:=0) (v:=?_) A7 kR kR kR A8 (Or.inl ⟨rF,?_⟩) A9 ?_
        rotate_left 1
        ·(intro wS hSw;(try dsimp only at hSw);go_simp;try(with_reducible rfl))
        try simp only[Act.put,List.setIfInBounds_toArray,List.set_cons_zero,List.set_cons_succ]
        refine wpAnyH_take (i:=1) (v:=?_) A7 kR kR kR A8 (Or.inl ⟨rF,?_⟩) A9 ?_
        rotate_left 1
        ·(intro wS hSw;(try dsimp only at hSw);go_simp;try(with_reducible rfl))
        try simp only[Act.put,List.setIfInBounds_toArray,List.set_cons_zero,List.set_cons_succ]
        refine wpAnyH_take (i:=2) (v:=?_) A7 kR kR kR A8 (Or.inl ⟨rF,?_⟩) A9 ?_
        rotate_left 1
        ·(intro wS hSw;(try dsimp only at hSw);go_simp;try(with_reducible rfl))
        try simp only[Act.put,List.setIfInBounds_toArray,List.set_cons_zero,List.set_cons_succ]
        refine wpAnyH_take (i:=3) (v:=?_) A7 kR kR kR A8 (Or.inl ⟨rF,?_⟩) A9 ?_
        rotate_left 1
        ·(intro wS hSw;(try dsimp only at hSw);go_simp;try(with_reducible rfl))
        try simp only[Act.put,List.setIfInBounds_toArray,List.set_cons_zero,List.set_cons_succ]
        refine wpAnyH_take (i:=4) (v:=?_) A7 kR kR kR A8 (Or.inl ⟨rF,?_⟩) A9 ?_
        rotate_left 1
        ·(intro wS hSw;(try dsimp only at hSw);go_simp;try(with_reducible rfl))
        try simp only[Act.put,List.setIfInBounds_toArray,List.set_cons_zero,List.set_cons_succ]
        refine wpAnyH_take (i:=5) (v:=?_) A7 kR kR kR A8 (Or.inl ⟨rF,?_⟩) A9 ?_
        rotate_left 1
        ·(intro wS hSw;(try dsimp only at hSw);go_simp;try(with_reducible rfl))
        try simp only[Act.put,List.setIfInBounds_toArray,List.set_cons_zero,List.set_cons_succ]
        refine wpAnyH_take (i:=6) (v:=?_) A7 kR kR kR A8 (Or.inl ⟨rF,?_⟩) A9 ?_
        rotate_left 1
        ·(intro wS hSw;(try dsimp only at hSw);go_simp;try(with_reducible rfl))
        try simp only[Act.put,List.setIfInBounds_toArray,List.set_cons_zero,List.set_cons_succ]
        refine wpAnyH_take (i:=7) (v:=?_) A7 kR kR kR A8 (Or.inl ⟨rF,?_⟩) A9 ?_
        rotate_left 1
        ·(intro wS hSw;(try dsimp only at hSw);go_simp;try(with_reducible rfl))
        try simp only[Act.put,List.setIfInBounds_toArray,List.set_cons_zero,List.set_cons_succ]
        refine wpAnyH_take (i:=8) (v:=?_) A7 kR kR kR A8 (Or.inl ⟨rF,?_⟩) A9 ?_
        rotate_left 1
        ·(intro wS hSw;(try dsimp only at hSw);go_simp;try(with_reducible rfl))
        try simp only[Act.put,List.setIfInBounds_toArray,List.set_cons_zero,List.set_cons_succ]
        refine wpAnyH_take (i:=9) (v:=?_) A7 kR kR kR A8 (Or.inl ⟨rF,?_⟩) A9 ?_
        rotate_left 1
        ·(intro wS hSw;(try dsimp only at hSw);go_simp;try(with_reducible rfl))
        try simp only[Act.put,List.setIfInBounds_toArray,List.set_cons_zero,List.set_cons_succ]
        clear hJ;refine AR 10 fun K hK=>?_;refine C9 rF _ _ _ _ rF _ _ _ rF rF (LL _ _ X Y _) (HNE.out _) ?_;exact Q5
       .have HE:Hid (X=Y):=(show X=Y from of_decide_eq_true hD)
        clear hD;go_wp2;refine rG (fun v=>v.cell? ⟨w.heap.size,2,none⟩=some (.slice (some ⟨b,o,none⟩) N2 c2)/\v.cell? ⟨w.heap.size+1,2,none⟩=some (.slice (some ⟨b',o',none⟩) N2 d2)/\v.cell? ⟨b,o+j*5,none⟩=some (.int .i64 X.ty.kind)/\v.cell? ⟨b,o+j*5+1,none⟩=some (.int .i64 X.ty.par)/\v.cell? ⟨b,o+j*5+2,none⟩=some (.bool X.keep)/\v.cell? ⟨b,o+j*5+3,none⟩=some (.int .u32 X.bits)/\v.cell? ⟨b,o+j*5+4,none⟩=some (.int .i64 X.int_)/\v.cell? ⟨b',o'+j*5,none⟩=some (.int .i64 Y.ty.kind)/\v.cell? ⟨b',o'+j*5+1,none⟩=some (.int .i64 Y.ty.par)/\v.cell? ⟨b',o'+j*5+2,none⟩=some (.bool Y.keep)/\v.cell? ⟨b',o'+j*5+3,none⟩=some (.int .u32 Y.bits)/\v.cell? ⟨b',o'+j*5+4,none⟩=some (.int .i64 Y.int_)) fun hJ=>?_;refine wpAnyH_take (i:=0) (v:=?_) A7 kR kR kR A8 (Or.inl ⟨rF,?_⟩) A9 ?_
        rotate_left 1
        ·(intro wS hSw;(try dsimp only at hSw);go_simp;try(with_reducible rfl))
        try simp only[Act.put,List.setIfInBounds_toArray,List.set_cons_zero,List.set_cons_succ]
        refine wpAnyH_take (i:=1) (v:=?_) A7 kR kR kR A8 (Or.inl ⟨rF,?_⟩) A9 ?_
        rotate_left 1
        ·(intro wS hSw;(try dsimp only at hSw);go_simp;try(with_reducible rfl))
        try simp only[Act.put,List.setIfInBounds_toArray,List.set_cons_zero,List.set_cons_succ]
        refine wpAnyH_take (i:=2) (v:=?_) A7 kR kR kR A8 (Or.inl ⟨rF,?_⟩) A9 ?_
        rotate_left 1
        ·(intro wS hSw;(try dsimp only at hSw);go_simp;try(with_reducible rfl))
        try simp only[Act.put,List.setIfInBounds_toArray,List.set_cons_zero,List.set_cons_succ]
        refine wpAnyH_take (i:=3) (v:=?_) A7 kR kR kR A8 (Or.inl ⟨rF,?_⟩) A9 ?_
        rotate_left 1
        ·(intro wS hSw;(try dsimp only at hSw);go_simp;try(with_reducible rfl))
        try simp only[Act.put,List.setIfInBounds_toArray,List.set_cons_zero,List.set_cons_succ]
        refine wpAnyH_take (i:=4) (v:=?_) A7 kR kR kR A8 (Or.inl ⟨rF,?_⟩) A9 ?_
        rotate_left 1
        ·(intro wS hSw;(try dsimp only at hSw);go_simp;try(with_reducible rfl))
        try simp only[Act.put,List.setIfInBounds_toArray,List.set_cons_zero,List.set_cons_succ]
        refine wpAnyH_take (i:=5) (v:=?_) A7 kR kR kR A8 (Or.inl ⟨rF,?_⟩) A9 ?_
        rotate_left 1
        ·(intro wS hSw;(try dsimp only at hSw);go_simp;try(with_reducible rfl))
        try simp only[Act.put,List.setIfInBounds_toArray,List.set_cons_zero,List.set_cons_succ]
        refine wpAnyH_take (i:=6) (v:=?_) A7 kR kR kR A8 (Or.inl ⟨rF,?_⟩) A9 ?_
        rotate_left 1
        ·(intro wS hSw;(try dsimp only at hSw);go_simp;try(with_reducible rfl))
        try simp only[Act.put,List.setIfInBounds_toArray,List.set_cons_zero,List.set_cons_succ]
        refine wpAnyH_take (i:=7) (v:=?_) A7 kR kR kR A8 (Or.inl ⟨rF,?_⟩) A9 ?_
        rotate_left 1
        ·(intro wS hSw;(try dsimp only at hSw);go_simp;try(with_reducible rfl))
        try simp only[Act.put,List.setIfInBounds_toArray,List.set_cons_zero,List.set_cons_succ]
        refine wpAnyH_take (i:=8) (v:=?_) A7 kR kR kR A8 (Or.inl ⟨rF,?_⟩) A9 ?_
        rotate_left 1
        ·(intro wS hSw;(try dsimp only at hSw);go_simp;try(with_reducible rfl))
        try simp only[Act.put,List.setIfInBounds_toArray,List.set_cons_zero,List.set_cons_succ]
        refine wpAnyH_take (i:=9) (v:=?_) A7 kR kR kR A8 (Or.inl ⟨rF,?_⟩) A9 ?_
        rotate_left 1
        ·(intro wS hSw;(try dsimp only at hSw);go_simp;try(with_reducible rfl))
        try simp only[Act.put,List.setIfInBounds_toArray,List.set_cons_zero,List.set_cons_succ]
        clear hJ;refine AR 10 fun K hK=>?_;refine C9 rF _ _ _ _ rF _ _ _ rF rF (LL _ _ X Y _) (HNE.out _) ?_;exact Q4
      .have hjN:j=N2:=oM;have HF2:Hid (l2=m2):=(HLE2.out (by rw[HN2.out,HM2.out])).2 fun i h1 h2=>hp.out i h1 h2 (by rw[hjN,<-HN2.out];exact h1);have HBW2:Hid (Below V.heap.size V wr):=hbv;subst hjN;clear hp hbv;go_wp2
       go_loopw [8] (fun iv wr=>Below V.heap.size V wr/\∃j:Nat,j<=N3/\iv=.int .i64 j/\Hid (∀i (h1:i<l3.length) (h2:i<m3.length),i<j->l3[i]=m3[i])) (fun iv _=>N3-(intOf iv).toNat)
       case atStart=>exact⟨HBW2.out,0,gI _,rfl,fun i _ _ hi=>absurd hi (Nat.not_lt_zero _)⟩
       case round=>
        obtain⟨hbv,j,hj,rfl,hp⟩:=hrel;obtain⟨⟨g0,g1,g2,g3⟩,g4,g5,g6,g7⟩:=HBV.out wr hbv;by_cases hlt:j<N3
        .have h1:j<l3.length:=by rw[HN3.out];exact hlt
         have h2:j<m3.length:=by rw[HM3.out];exact hlt
         obtain⟨b,o,rfl,hx⟩:=HV3.at h1;obtain⟨b',o',rfl,hy⟩:=HU3.at h2;have hx':=hx.below (bel HB0.out hbv);have hy':=hy.below (bel HB0.out hbv);have x0:=hx'.at 0 rfl;have w0:=hy'.at 0 rfl;have x1:=hx'.at 1 rfl;have w1:=hy'.at 1 rfl;have x2:=hx'.at 2 rfl;have w2:=hy'.at 2 rfl;have x3:=hx'.at 3 rfl;have w3:=hy'.at 3 rfl;have x4:=hx'.at 4 rfl;have w4:=hy'.at 4 rfl;have x5:=hx'.at 5 rfl;have w5:=hy'.at 5 rfl;have x6:=hx'.at 6 rfl;have w6:=hy'.at 6 rfl;rw[Nat.add_zero]at x0 w0;have NE:=NQ l3[j] m3[j];have NX:Hid (l3[j]=m3[j]->∀i (h1:i<l3.length) (h2:i<m3.length),i<j+1->l3[i]=m3[i]):=fun e i h1 h2 hi=>by
          exact Qc
         have NB:Hid (¬l3[j]=m3[j]->R=false):=fun e=>by
          rw[<-HR.out];have:decide (l3=m3)=false:=decide_eq_false fun e2=>e ((HLE3.out (by rw[HN3.out,HM3.out])).1 e2 j h1 h2);rw[this];simp
         obtain⟨X,hX⟩:=gA (l3[j])
         obtain⟨Y,hY⟩:=gA (m3[j])
         rw[hX]at x0 x1 x2 x3 x4 x5 x6 NX NB;rw[hY]at w0 w1 w2 w3 w4 w5 w6 NX NB;simp only[hX,hY]at NE;obtain⟨D,hD⟩:=gA (decide (X=Y))
         simp only[hD]at NE;unfold Bo at NE;have HNE:Hid (∀w,(binOp .neq 70 (.agg #[.int .i64 X.op,.int .i64 X.d,.int .i64 X.a,.int .i64 X.b,.int .i64 X.c,.int .i64 X.n,.int .u32 X.bits]) (.agg #[.int .i64 Y.op,.int .i64 Y.d,.int .i64 Y.a,.int .i64 Y.b,.int .i64 Y.c,.int .i64 Y.n,.int .u32 Y.bits])).run prog w=.ok (.bool (!D)) w):=NE;have i1:(0:Int)<=(j:Int):=oM;have i2:(j:Int)<(N3:Int):=oM;clear NE hX hY hp hx hy hx' hy';cases D
         .have HB:Hid (¬X=Y):=(show¬X=Y from of_decide_eq_false hD)
          clear hD;go_wp2;refine rG (fun v=>v.cell? ⟨w.heap.size,3,none⟩=some (.slice (some ⟨b,o,none⟩) N3 c3)/\v.cell? ⟨w.heap.size+1,3,none⟩=some (.slice (some ⟨b',o',none⟩) N3 d3)/\v.cell? ⟨b,o+j*7,none⟩=some (.int .i64 X.op)/\v.cell? ⟨b,o+j*7+1,none⟩=some (.int .i64 X.d)/\v.cell? ⟨b,o+j*7+2,none⟩=some (.int .i64 X.a)/\v.cell? ⟨b,o+j*7+3,none⟩=some (.int .i64 X.b)/\v.cell? ⟨b,o+j*7+4,none⟩=some (.int .i64 X.c)/\v.cell? ⟨b,o+j*7+5,none⟩=some (.int .i64 X.n)/\v.cell? ⟨b,o+j*7+6,none⟩=some (.int .u32 X.bits)/\v.cell? ⟨b',o'+j*7,none⟩=some (.int .i64 Y.op)/\v.cell? ⟨b',o'+j*7+1,none⟩=some (.int .i64 Y.d)/\v.cell? ⟨b',o'+j*7+2,none⟩=some (.int .i64 Y.a)/\v.cell? ⟨b',o'+j*7+3,none⟩=some (.int .i64 Y.b)/\v.cell? ⟨b',o'+j*7+4,none⟩=some (.int .i64 Y.c)/\v.cell? ⟨b',o'+j*7+5,none⟩=some (.int .i64 Y.n)/\v.cell? ⟨b',o'+j*7+6,none⟩=some (.int .u32 Y.bits)) fun hJ=>?_;refine wpAnyH_take (i:=0) (v:=?_) A7 kR kR kR A8 (Or.inl ⟨rF,?_⟩) A9 ?_
          rotate_left 1
          ·(intro wS hSw;(try dsimp only at hSw);go_simp;try(with_reducible rfl))
          try simp only[Act.put,List.setIfInBounds_toArray,List.set_cons_zero,List.set_cons_succ]
          refine wpAnyH_take (i:=1) (v:=?_) A7 kR kR kR A8 (Or.inl ⟨rF,?_⟩) A9 ?_
          rotate_left 1
          ·(intro wS hSw;(try dsimp only at hSw);go_simp;try(with_reducible rfl))
          try simp only[Act.put,List.setIfInBounds_toArray,List.set_cons_zero,List.set_cons_succ]
          refine wpAnyH_take (i:=2) (v:=?_) A7 kR kR kR A8 (Or.inl ⟨rF,?_⟩) A9 ?_
          rotate_left 1
          ·(intro wS hSw;(try dsimp only at hSw);go_simp;try(with_reducible rfl))
          try simp only[Act.put,List.setIfInBounds_toArray,List.set_cons_zero,List.set_cons_succ]
          refine wpAnyH_take (i:=3) (v:=?_) A7 kR kR kR A8 (Or.inl ⟨rF,?_⟩) A9 ?_
          rotate_left 1
          ·(intro wS hSw;(try dsimp only at hSw);go_simp;try(with_reducible rfl))
          try simp only[Act.put,List.setIfInBounds_toArray,List.set_cons_zero,List.set_cons_succ]
          refine wpAnyH_take (i:=4) (v:=?_) A7 kR kR kR A8 (Or.inl ⟨rF,?_⟩) A9 ?_
          rotate_left 1
          ·(intro wS hSw;(try dsimp only at hSw);go_simp;try(with_reducible rfl))
          try simp only[Act.put,List.setIfInBounds_toArray,List.set_cons_zero,List.set_cons_succ]
          refine wpAnyH_take (i:=5) (v:=?_) A7 kR kR kR A8 (Or.inl ⟨rF,?_⟩) A9 ?_
          rotate_left 1
          ·(intro wS hSw;(try dsimp only at hSw);go_simp;try(with_reducible rfl))
          try simp only[Act.put,List.setIfInBounds_toArray,List.set_cons_zero,List.set_cons_succ]
          refine wpAnyH_take (i:=6) (v:=?_) A7 kR kR kR A8 (Or.inl ⟨rF,?_⟩) A9 ?_
          rotate_left 1
          ·(intro wS hSw;(try dsimp only at hSw);go_simp;try(with_reducible rfl))
          try simp only[Act.put,List.setIfInBounds_toArray,List.set_cons_zero,List.set_cons_succ]
          refine wpAnyH_take (i:=7) (v:=?_) A7 kR kR kR A8 (Or.inl ⟨rF,?_⟩) A9 ?_
          rotate_left 1
          ·(intro wS hSw;(try dsimp only at hSw);go_simp;try(with_reducible rfl))
          try simp only[Act.put,List.setIfInBounds_toArray,List.set_cons_zero,List.set_cons_succ]
          refine wpAnyH_take (i:=8) (v:=?_) A7 kR kR kR A8 (Or.inl ⟨rF,?_⟩) A9 ?_
          rotate_left 1
          ·(intro wS hSw;(try dsimp only at hSw);go_simp;try(with_reducible rfl))
          try simp only[Act.put,List.setIfInBounds_toArray,List.set_cons_zero,List.set_cons_succ]
          refine wpAnyH_take (i:=9) (v:=?_) A7 kR kR kR A8 (Or.inl ⟨rF,?_⟩) A9 ?_
          rotate_left 1
          ·(intro wS hSw;(try dsimp only at hSw);go_simp;try(with_reducible rfl))
          try simp only[Act.put,List.setIfInBounds_toArray,List.set_cons_zero,List.set_cons_succ]
          clear hJ;refine AR 10 fun K hK=>?_;refine C9 rF _ _ _ _ rF _ _ _ rF rF (Jd _ _ X Y _) (HNE.out _) ?_;exact Q5
         .have HE:Hid (X=Y):=(show X=Y from of_decide_eq_true hD)
          clear hD;go_wp2;refine rG (fun v=>v.cell? ⟨w.heap.size,3,none⟩=some (.slice (some ⟨b,o,none⟩) N3 c3)/\v.cell? ⟨w.heap.size+1,3,none⟩=some (.slice (some ⟨b',o',none⟩) N3 d3)/\v.cell? ⟨b,o+j*7,none⟩=some (.int .i64 X.op)/\v.cell? ⟨b,o+j*7+1,none⟩=some (.int .i64 X.d)/\v.cell? ⟨b,o+j*7+2,none⟩=some (.int .i64 X.a)/\v.cell? ⟨b,o+j*7+3,none⟩=some (.int .i64 X.b)/\v.cell? ⟨b,o+j*7+4,none⟩=some (.int .i64 X.c)/\v.cell? ⟨b,o+j*7+5,none⟩=some (.int .i64 X.n)/\v.cell? ⟨b,o+j*7+6,none⟩=some (.int .u32 X.bits)/\v.cell? ⟨b',o'+j*7,none⟩=some (.int .i64 Y.op)/\v.cell? ⟨b',o'+j*7+1,none⟩=some (.int .i64 Y.d)/\v.cell? ⟨b',o'+j*7+2,none⟩=some (.int .i64 Y.a)/\v.cell? ⟨b',o'+j*7+3,none⟩=some (.int .i64 Y.b)/\v.cell? ⟨b',o'+j*7+4,none⟩=some (.int .i64 Y.c)/\v.cell? ⟨b',o'+j*7+5,none⟩=some (.int .i64 Y.n)/\v.cell? ⟨b',o'+j*7+6,none⟩=some (.int .u32 Y.bits)) fun hJ=>?_;refine wpAnyH_take (i:=0) (v:=?_) A7 kR kR kR A8 (Or.inl ⟨rF,?_⟩) A9 ?_
          rotate_left 1
          ·(intro wS hSw;(try dsimp only at hSw);go_simp;try(with_reducible rfl))
          try simp only[Act.put,List.setIfInBounds_toArray,List.set_cons_zero,List.set_cons_succ]
          refine wpAnyH_take (i:=1) (v:=?_) A7 kR kR kR A8 (Or.inl ⟨rF,?_⟩) A9 ?_
          rotate_left 1
          ·(intro wS hSw;(try dsimp only at hSw);go_simp;try(with_reducible rfl))
          try simp only[Act.put,List.setIfInBounds_toArray,List.set_cons_zero,List.set_cons_succ]
          refine wpAnyH_take (i:=2) (v:=?_) A7 kR kR kR A8 (Or.inl ⟨rF,?_⟩) A9 ?_
          rotate_left 1
          ·(intro wS hSw;(try dsimp only at hSw);go_simp;try(with_reducible rfl))
          try simp only[Act.put,List.setIfInBounds_toArray,List.set_cons_zero,List.set_cons_succ]
          refine wpAnyH_take (i:=3) (v:=?_) A7 kR kR kR A8 (Or.inl ⟨rF,?_⟩) A9 ?_
          rotate_left 1
          ·(intro wS hSw;(try dsimp only at hSw);go_simp;try(with_reducible rfl))
          try simp only[Act.put,List.setIfInBounds_toArray,List.set_cons_zero,List.set_cons_succ]
          refine wpAnyH_take (i:=4) (v:=?_) A7 kR kR kR A8 (Or.inl ⟨rF,?_⟩) A9 ?_
          rotate_left 1
          ·(intro wS hSw;(try dsimp only at hSw);go_simp;try(with_reducible rfl))
          try simp only[Act.put,List.setIfInBounds_toArray,List.set_cons_zero,List.set_cons_succ]
          refine wpAnyH_take (i:=5) (v:=?_) A7 kR kR kR A8 (Or.inl ⟨rF,?_⟩) A9 ?_
          rotate_left 1
          ·(intro wS hSw;(try dsimp only at hSw);go_simp;try(with_reducible rfl))
          try simp only[Act.put,List.setIfInBounds_toArray,List.set_cons_zero,List.set_cons_succ]
          refine wpAnyH_take (i:=6) (v:=?_) A7 kR kR kR A8 (Or.inl ⟨rF,?_⟩) A9 ?_
          rotate_left 1
          ·(intro wS hSw;(try dsimp only at hSw);go_simp;try(with_reducible rfl))
          try simp only[Act.put,List.setIfInBounds_toArray,List.set_cons_zero,List.set_cons_succ]
          refine wpAnyH_take (i:=7) (v:=?_) A7 kR kR kR A8 (Or.inl ⟨rF,?_⟩) A9 ?_
          rotate_left 1
          ·(intro wS hSw;(try dsimp only at hSw);go_simp;try(with_reducible rfl))
          try simp only[Act.put,List.setIfInBounds_toArray,List.set_cons_zero,List.set_cons_succ]
          refine wpAnyH_take (i:=8) (v:=?_) A7 kR kR kR A8 (Or.inl ⟨rF,?_⟩) A9 ?_
          rotate_left 1
          ·(intro wS hSw;(try dsimp only at hSw);go_simp;try(with_reducible rfl))
          try simp only[Act.put,List.setIfInBounds_toArray,List.set_cons_zero,List.set_cons_succ]
          refine wpAnyH_take (i:=9) (v:=?_) A7 kR kR kR A8 (Or.inl ⟨rF,?_⟩) A9 ?_
          rotate_left 1
          ·(intro wS hSw;(try dsimp only at hSw);go_simp;try(with_reducible rfl))
          try simp only[Act.put,List.setIfInBounds_toArray,List.set_cons_zero,List.set_cons_succ]
          clear hJ;refine AR 10 fun K hK=>?_;refine C9 rF _ _ _ _ rF _ _ _ rF rF (Jd _ _ X Y _) (HNE.out _) ?_;exact Q4
        .have hjN:j=N3:=oM;have HF3:Hid (l3=m3):=(HLE3.out (by rw[HN3.out,HM3.out])).2 fun i h1 h2=>hp.out i h1 h2 (by rw[hjN,<-HN3.out];exact h1);have HBW3:Hid (Below V.heap.size V wr):=hbv;subst hjN;clear hp hbv;go_wp2;go_ret;exact⟨Ab (by rw[<-HR.out,HF0.out,HF1.out,HF2.out,HF3.out];simp),bel HB0.out HBW3.out⟩
theorem O9(v0 v1 v2 v3:Value)(c:Cd)(co:Bd c)(hT:Aq c=true)(op D A B E n bt La Lb Lc Ld Le:Int)(a b cc d e:UInt8)
 (HROW:Hid (∀w,Calls prog 48 #[.int .i64 op] w fun x w'=>x=.returned (.tuple #[.string ⟨#[a,b,cc,d,e]⟩,.bool true])/\w'=w))
 (HCAN:Hid (∀w,Calls prog 67 #[.int .u32 bt] w fun e w'=>e=.returned (.bool true)/\Below w.heap.size w w'))
 (ix0:∀w,(Instr.index 9 (.string ⟨#[a,b,cc,d,e]⟩) (.int .i64 0)).run prog w=.ok (.int .u8 La) w)
 (ix1:∀w,(Instr.index 9 (.string ⟨#[a,b,cc,d,e]⟩) (.int .i64 1)).run prog w=.ok (.int .u8 Lb) w)
 (ix2:∀w,(Instr.index 9 (.string ⟨#[a,b,cc,d,e]⟩) (.int .i64 2)).run prog w=.ok (.int .u8 Lc) w)
 (ix3:∀w,(Instr.index 9 (.string ⟨#[a,b,cc,d,e]⟩) (.int .i64 3)).run prog w=.ok (.int .u8 Ld) w)
 (Jh:∀w,(Instr.index 9 (.string ⟨#[a,b,cc,d,e]⟩) (.int .i64 4)).run prog w=.ok (.int .u8 Le) w)
 (oa:Bp La) (ob:Bp Lb) (oc:Bp Lc) (od:Bp Ld) (oT:Le=112->La=118\/(La=45/\Lb=118)) (o1:(op==1)=true) (o2:(op != 1)=false) (hz0:La≠45) (oe:Le=45)
 (w:World) (hv:CN w v0 v1 v2 v3 c):
 Calls prog 68 #[.agg #[v0,v1,v2,v3],.agg #[.int .i64 op,.int .i64 D,.int .i64 A,.int .i64 B,.int .i64 E,.int .i64 n,.int .u32 bt]] w fun e w'=>e=.returned (.bool (Am c.regs La D ⟨0,0⟩&&(Am c.regs Lb A (dR c.regs La D)&&(Am c.regs Lc B (dR c.regs La D)&&(Am c.regs Ld E (dR c.regs La D)&&BV c Le n (tR c.regs La Lb D A))))))/\Below w.heap.size w w':=by
 have KO:∀ (l n:Int) (d:Ty),Bp l->∀v,Below w.heap.size w v->Calls prog 92 #[.agg #[v0,v1,v2,v3],.int .u8 l,.int .i64 n,.agg #[.int .i64 d.kind,.int .i64 d.par]] v fun e w'=>e=.returned (.bool (Am c.regs l n d))/\Below v.heap.size v w':=fun l n d hl v hb=>De v0 v1 v2 v3 c co l n d hl v (hv.below hb);have HT0:Hid (TW w v0 v1 v2 v3 (w.heap.size+1) op D A B E n bt ((w.alloc (.cells #[v0,v1,v2,v3] 27)).alloc (.cells #[.int .i64 op,.int .i64 D,.int .i64 A,.int .i64 B,.int .i64 E,.int .i64 n,.int .u32 bt] 70))):=TW.start w v0 v1 v2 v3 op D A B E n bt;obtain⟨p0,q0,rfl,-⟩:=id hv.sign;obtain⟨p1,q1,rfl,hr1⟩:=id hv.regs;obtain⟨p2,q2,rfl,-⟩:=id hv.slots;have hREG:∀x:Int,Ao x c.regs.length=true->∃ (k lb lo:Nat),x=(k:Int)/\k<c.regs.length/\p1=some ⟨lb,lo,none⟩/\w.cell? ⟨lb,lo+k*2,none⟩=some (.int .i64 (Av c.regs x).kind)/\w.cell? ⟨lb,lo+k*2+1,none⟩=some (.int .i64 (Av c.regs x).par):=by
  exact QA
 have HREG:Hid (∀x:Int,Ao x c.regs.length=true->∃ (k lb lo:Nat),x=(k:Int)/\k<c.regs.length/\p1=some ⟨lb,lo,none⟩/\w.cell? ⟨lb,lo+k*2,none⟩=some (.int .i64 (Av c.regs x).kind)/\w.cell? ⟨lb,lo+k*2+1,none⟩=some (.int .i64 (Av c.regs x).par)):=hREG;have HCV:Hid (CN w (.slice p0 c.sign.length q0) (.slice p1 c.regs.length q1) (.slice p2 c.slots.length q2) v3 c):=hv;have HCO:Hid (Bd c):=co;have hB0:=co.signL;have hB1:=co.regsL;have hB2:=co.slotsL;have hTy:∀x:Int,Ao x c.regs.length=true->DP 118 (Av c.regs x) ⟨0,0⟩=true->Ao (Av c.regs x).par c.sign.length=true:=fun x hx hk=>by
  exact QE
 obtain⟨n0,hn0⟩:=gA (c.sign.length)
 obtain⟨n1,hn1⟩:=gA (c.regs.length)
 obtain⟨n2,hn2⟩:=gA (c.slots.length)
 have HN0:Hid (c.sign.length=n0):=hn0;have HN1:Hid (c.regs.length=n1):=hn1;have HN2:Hid (c.slots.length=n2):=hn2;rw[hn0]at hB0;rw[hn1]at hB1;rw[hn2]at hB2;rw[hn0,hn1,hn2]at HCV KO HT0 |-;clear hREG hv hr1 hn0 hn1 hn2 co;have HTY:Hid (∀x:Int,Ao x c.regs.length=true->DP 118 (Av c.regs x) ⟨0,0⟩=true->Ao (Av c.regs x).par c.sign.length=true):=hTy;clear hTy hT;have hKO0:=fun d=>KO La D d oa;have hKOA:=fun d=>KO Lb A d ob;have hKOB:=fun d=>KO Lc B d oc;have hKOC:=fun d=>KO Ld E d od;clear KO;have hPP0:Le=112->La=118\/(La=45/\Lb=118):=oT;clear oT oc od;obtain⟨RES,hRES⟩:∃R,(Am c.regs La D ⟨0,0⟩&&(Am c.regs Lb A (dR c.regs La D)&&(Am c.regs Lc B (dR c.regs La D)&&(Am c.regs Ld E (dR c.regs La D)&&BV c Le n (tR c.regs La Lb D A)))))=R:=⟨_,rfl⟩
 rw[hRES];have hz1:(La==45)=false:=by simpa using hz0
 have hz2:(La != 45)=true:=by simpa using hz0
 have hPL:Am c.regs La D ⟨0,0⟩=true->Ao D c.regs.length=true:=fun h=>by
  rw[Bg hz0]at h;simp only[Bool.and_eq_true]at h;exact h.1
 have hPV:Am c.regs La D ⟨0,0⟩=true->La=118->DP 118 (Av c.regs D) ⟨0,0⟩=true:=fun h hl=>by
  exact QK
 have hdR:dR c.regs La D=Av c.regs D:=if_neg hz0;have htR:tR c.regs La Lb D A=Av c.regs D:=by unfold tR;rw[if_neg (fun e=>hz0 e.1),hdR]
 rw[htR,hdR]at hRES;have HPP0:Hid (Am c.regs La D ⟨0,0⟩=true->Le=112->Ao (Av c.regs D).par c.sign.length=true):=fun h e=>by
  rcases hPP0 e with h1|⟨h1,-⟩
  .exact HTY.out _ (hPL h) (hPV h h1)
  .exact absurd h1 hz0
 obtain⟨X0,hX0⟩:∃X,Am c.regs La D ⟨0,0⟩=X:=⟨_,rfl⟩
 have HK0:Hid _:=hKO0 ⟨0,0⟩;rw[hX0]at hRES hPL HPP0 HK0;simp only at HK0;clear hX0 hPV hdR htR hKO0 hPP0 HTY;cases X0
 .exact R6
 obtain⟨kd,lb,lo,rfl,hkd,rfl,ya0,ya1⟩:=HREG.out D (hPL rfl);obtain⟨⟨dk,dp⟩,htt⟩:∃t:Ty,Av c.regs (kd:Int)=t:=⟨_,rfl⟩
 rw[htt]at HPP0 ya0 ya1 hRES;obtain⟨XA,hXA⟩:∃X,Am c.regs Lb A ⟨dk,dp⟩=X:=⟨_,rfl⟩
 obtain⟨XB,hXB⟩:∃X,Am c.regs Lc B ⟨dk,dp⟩=X:=⟨_,rfl⟩
 obtain⟨XC,hXC⟩:∃X,Am c.regs Ld E ⟨dk,dp⟩=X:=⟨_,rfl⟩
 rw[hXA,hXB,hXC]at hRES;have HKA:Hid _:=hKOA ⟨dk,dp⟩;have HKB:Hid _:=hKOB ⟨dk,dp⟩;have HKC:Hid _:=hKOC ⟨dk,dp⟩;rw[hXA]at HKA;rw[hXB]at HKB;rw[hXC]at HKC;simp only at HKA HKB HKC;have HRES:Hid ((XA&&(XB&&(XC&&BV c Le n ⟨dk,dp⟩)))=RES):=hRES;have HPP:Hid (Le=112->Ao dp c.sign.length=true):=HPP0.out rfl;have ka0:(0:Int)<=(kd:Int):=oM;have ka1:(kd:Int)<(n1:Int):=by have:=HN1.out;omega
 clear hKOA hKOB hKOC hXA hXB hXC hRES HPP0 hPL htt;go_enter func68,ntmps68;go_wp2_with(first
  |(go_at_call 48;refine(HROW.out _).mono ?_;rintro e w1 ⟨rfl,rfl⟩)
  |(go_at_call 67;refine(HCAN.out _).mono ?_;rintro e w2 ⟨rfl,hb2⟩;have HT2:Hid (TW w (.slice p0 n0 q0) (.slice (some ⟨lb,lo,none⟩) n1 q1) (.slice p2 n2 q2) v3 (w.heap.size+1) op (kd:Int) A B E n bt (w2.alloc (.cells #[.int .i64 0,.int .i64 0] 62))):=(HT0.next hb2).next (A5 _ _);obtain⟨b1,c0,c1,c2,c3,i0,i1,i2,i3,i4,i5,i6⟩:=HT2.out;have HS2:Hid (w.heap.size+1<w2.heap.size):=Ae (HT0.next hb2).i0;clear hb2))
 have HTD0:Hid _:=HT2.out;have HD0:Hid ((w2.alloc (.cells #[.int .i64 0,.int .i64 0] 62)).cell? ⟨w2.heap.size,0,none⟩=some (.int .i64 0)/\(w2.alloc (.cells #[.int .i64 0,.int .i64 0] 62)).cell? ⟨w2.heap.size,1,none⟩=some (.int .i64 0)/\(w2.alloc (.cells #[.int .i64 0,.int .i64 0] 62)).frozen? ⟨w2.heap.size,0,none⟩=false/\(w2.alloc (.cells #[.int .i64 0,.int .i64 0] 62)).frozen? ⟨w2.heap.size,1,none⟩=false):=⟨sG,sG,sG,sG⟩
 have HBZ9:Hid (lb<w.heap.size):=Ae ya0;have HZ:Hid (w2.heap.size≠w.heap.size+1/\w.heap.size<w2.heap.size/\lb≠w2.heap.size):=by
  refine⟨?_,?_,?_⟩
  all_goals(have h3:=HS2.out;have h4:=HBZ9.out;omega)
 obtain⟨Z,hZ⟩:=gA (w2.heap.size)
 obtain⟨Wa,hWa⟩:∃W,w2.alloc (.cells #[.int .i64 0,.int .i64 0] 62)=W:=⟨_,rfl⟩
 rw[hZ]at HD0 HZ;rw[hWa]at HD0 HTD0 |-;try rw[hZ]
 clear hZ hWa HT2 b1 c0 c1 c2 c3 i0 i1 i2 i3 i4 i5 i6 HT0 HROW HCAN HS2;have HCD0:Hid (∀v,Below Wa.heap.size Wa v->v.cell? ⟨w.heap.size,0,none⟩=some (.slice p0 n0 q0)/\v.cell? ⟨w.heap.size,1,none⟩=some (.slice (some ⟨lb,lo,none⟩) n1 q1)/\v.cell? ⟨w.heap.size,2,none⟩=some (.slice p2 n2 q2)/\v.cell? ⟨w.heap.size,3,none⟩=some v3/\v.cell? ⟨w.heap.size+1,1,none⟩=some (.int .i64 (kd:Int))/\v.cell? ⟨w.heap.size+1,2,none⟩=some (.int .i64 A)/\v.cell? ⟨w.heap.size+1,3,none⟩=some (.int .i64 B)/\v.cell? ⟨w.heap.size+1,4,none⟩=some (.int .i64 E)/\v.cell? ⟨w.heap.size+1,5,none⟩=some (.int .i64 n)/\v.cell? ⟨Z,0,none⟩=some (.int .i64 0)/\v.cell? ⟨Z,1,none⟩=some (.int .i64 0)):=fun v hb=>⟨kc hb HTD0.c0,kc hb HTD0.c1,kc hb HTD0.c2,kc hb HTD0.c3,kc hb HTD0.i1,kc hb HTD0.i2,kc hb HTD0.i3,kc hb HTD0.i4,kc hb HTD0.i5,kc hb HD0.1,kc hb HD0.2.1⟩
 obtain⟨c0,c1,c2,c3,i1,i2,i3,i4,i5,d0,d1⟩:=HCD0.out Wa (Ck _);have HYA:Hid (∀v,Below Wa.heap.size Wa v->v.cell? ⟨lb,lo+kd*2,none⟩=some (.int .i64 dk)/\v.cell? ⟨lb,lo+kd*2+1,none⟩=some (.int .i64 dp)/\v.frozen? ⟨Z,0,none⟩=false/\v.frozen? ⟨Z,1,none⟩=false):=fun v hb=>⟨kc (bel HTD0.bel hb) ya0,kc (bel HTD0.bel hb) ya1,kf hb HD0.1 HD0.2.2.1,kf hb HD0.2.1 HD0.2.2.2⟩
 refine rG (fun v=>v.cell? ⟨w.heap.size,0,none⟩=some (.slice p0 n0 q0)/\v.cell? ⟨w.heap.size,1,none⟩=some (.slice (some ⟨lb,lo,none⟩) n1 q1)/\v.cell? ⟨w.heap.size,2,none⟩=some (.slice p2 n2 q2)/\v.cell? ⟨w.heap.size,3,none⟩=some v3/\v.cell? ⟨w.heap.size+1,1,none⟩=some (.int .i64 (kd:Int))/\v.cell? ⟨w.heap.size+1,2,none⟩=some (.int .i64 A)/\v.cell? ⟨w.heap.size+1,3,none⟩=some (.int .i64 B)/\v.cell? ⟨w.heap.size+1,4,none⟩=some (.int .i64 E)/\v.cell? ⟨w.heap.size+1,5,none⟩=some (.int .i64 n)/\v.cell? ⟨Z,0,none⟩=some (.int .i64 0)/\v.cell? ⟨Z,1,none⟩=some (.int .i64 0)) fun hJ=>?_;refine wpAnyH_take (i:=0) (v:=?_) A7 kR kR kR A8 (Or.inl ⟨rF,?_⟩) A9 ?_
 rotate_left 1
 ·(intro wS hSw;(try dsimp only at hSw);go_simp;try(with_reducible rfl))
 try simp only[Act.put,List.setIfInBounds_toArray,List.set_cons_zero,List.set_cons_succ]
 refine wpAnyH_take (i:=1) (v:=?_) A7 kR kR kR A8 (Or.inl ⟨rF,?_⟩) A9 ?_
 rotate_left 1
 ·(intro wS hSw;(try dsimp only at hSw);go_simp;try(with_reducible rfl))
 try simp only[Act.put,List.setIfInBounds_toArray,List.set_cons_zero,List.set_cons_succ]
 refine wpAnyH_take (i:=2) (v:=?_) A7 kR kR kR A8 (Or.inl ⟨rF,?_⟩) A9 ?_
 rotate_left 1
 ·(intro wS hSw;(try dsimp only at hSw);go_simp;try(with_reducible rfl))
 try simp only[Act.put,List.setIfInBounds_toArray,List.set_cons_zero,List.set_cons_succ]
 refine wpAnyH_take (i:=3) (v:=?_) A7 kR kR kR A8 (Or.inl ⟨rF,?_⟩) A9 ?_
 rotate_left 1
 ·(intro wS hSw;(try dsimp only at hSw);go_simp;try(with_reducible rfl))
 try simp only[Act.put,List.setIfInBounds_toArray,List.set_cons_zero,List.set_cons_succ]
 refine wpAnyH_take (i:=4) (v:=?_) A7 kR kR kR A8 (Or.inl ⟨rF,?_⟩) A9 ?_
 rotate_left 1
 ·(intro wS hSw;(try dsimp only at hSw);go_simp;try(with_reducible rfl))
 try simp only[Act.put,List.setIfInBounds_toArray,List.set_cons_zero,List.set_cons_succ]
 refine wpAnyH_take (i:=5) (v:=?_) A7 kR kR kR A8 (Or.inl ⟨rF,?_⟩) A9 ?_
 rotate_left 1
 ·(intro wS hSw;(try dsimp only at hSw);go_simp;try(with_reducible rfl))
 try simp only[Act.put,List.setIfInBounds_toArray,List.set_cons_zero,List.set_cons_succ]
 clear hJ;refine AR 6 fun K hK=>?_;go_simp;(go_at_call 92;(with_reducible refine(HK0.out _ (bel HTD0.out.bel (Ag _))).mono ?_);rintro e w9 ⟨rfl,hb9⟩;have HB9:Hid (Below Wa.heap.size Wa w9):=bel (Ag _) hb9;clear hb9;obtain⟨ya2,ya3,fz0,fz1⟩:=HYA.out w9 HB9.out;obtain⟨c0,c1,c2,c3,i1,i2,i3,i4,i5,d0,d1⟩:=HCD0.out w9 HB9.out);try(go_wp2_with fail)
 refine AX hK fun hJ=>?_;clear hK K;refine wpAnyH_take (i:=7) (v:=?_) A7 kR kR kR A8 (Or.inl ⟨rF,?_⟩) A9 ?_
 rotate_left 1
 ·(intro wS hSw;(try dsimp only at hSw);go_simp;try(with_reducible rfl))
 try simp only[Act.put,List.setIfInBounds_toArray,List.set_cons_zero,List.set_cons_succ]
 refine wpAnyH_done kR ?_ _;obtain⟨hz5,hz6,hz7⟩:=HZ.out;go_wp2;have HD:Hid (((w9.setCell ⟨Z,0,none⟩ (.int .i64 dk)).setCell ⟨Z,1,none⟩ (.int .i64 dp)).cell? ⟨Z,0,none⟩=some (.int .i64 dk)/\((w9.setCell ⟨Z,0,none⟩ (.int .i64 dk)).setCell ⟨Z,1,none⟩ (.int .i64 dp)).cell? ⟨Z,1,none⟩=some (.int .i64 dp)):=⟨by simp[go_sem,d0,d1],by simp[go_sem,d0,d1]⟩
 have HTD:Hid _:=((HTD0.next HB9.out).keep (g:=Z) (o:=0) (.int .i64 dk) hz6 hz5).keep (g:=Z) (o:=1) (.int .i64 dp) hz6 hz5;obtain⟨Wd,hWd⟩:∃W,(w9.setCell ⟨Z,0,none⟩ (.int .i64 dk)).setCell ⟨Z,1,none⟩ (.int .i64 dp)=W:=⟨_,rfl⟩
 rw[hWd]at HD HTD |-;clear hWd c0 c1 c2 c3 i1 i2 i3 i4 i5 d0 d1 ya2 ya3 fz0 fz1 HCD0 HYA HD0 HTD0 HB9 HK0 hz5 hz6 hz7 HZ;have HCD:Hid (∀v,Below Wd.heap.size Wd v->v.cell? ⟨w.heap.size,0,none⟩=some (.slice p0 n0 q0)/\v.cell? ⟨w.heap.size,1,none⟩=some (.slice (some ⟨lb,lo,none⟩) n1 q1)/\v.cell? ⟨w.heap.size,2,none⟩=some (.slice p2 n2 q2)/\v.cell? ⟨w.heap.size,3,none⟩=some v3/\v.cell? ⟨w.heap.size+1,1,none⟩=some (.int .i64 (kd:Int))/\v.cell? ⟨w.heap.size+1,2,none⟩=some (.int .i64 A)/\v.cell? ⟨w.heap.size+1,3,none⟩=some (.int .i64 B)/\v.cell? ⟨w.heap.size+1,4,none⟩=some (.int .i64 E)/\v.cell? ⟨w.heap.size+1,5,none⟩=some (.int .i64 n)/\v.cell? ⟨Z,0,none⟩=some (.int .i64 dk)/\v.cell? ⟨Z,1,none⟩=some (.int .i64 dp)):=fun v hb=>⟨kc hb HTD.c0,kc hb HTD.c1,kc hb HTD.c2,kc hb HTD.c3,kc hb HTD.i1,kc hb HTD.i2,kc hb HTD.i3,kc hb HTD.i4,kc hb HTD.i5,kc hb HD.1,kc hb HD.2⟩
 obtain⟨c0,c1,c2,c3,i1,i2,i3,i4,i5,d0,d1⟩:=HCD.out Wd (Ck _);cases XA
 .have HQF:Hid (false=RES):=HRES.out;go_wp2;refine rG (fun v=>v.cell? ⟨w.heap.size,0,none⟩=some (.slice p0 n0 q0)/\v.cell? ⟨w.heap.size,1,none⟩=some (.slice (some ⟨lb,lo,none⟩) n1 q1)/\v.cell? ⟨w.heap.size,2,none⟩=some (.slice p2 n2 q2)/\v.cell? ⟨w.heap.size,3,none⟩=some v3/\v.cell? ⟨w.heap.size+1,1,none⟩=some (.int .i64 (kd:Int))/\v.cell? ⟨w.heap.size+1,2,none⟩=some (.int .i64 A)/\v.cell? ⟨w.heap.size+1,3,none⟩=some (.int .i64 B)/\v.cell? ⟨w.heap.size+1,4,none⟩=some (.int .i64 E)/\v.cell? ⟨w.heap.size+1,5,none⟩=some (.int .i64 n)/\v.cell? ⟨Z,0,none⟩=some (.int .i64 dk)/\v.cell? ⟨Z,1,none⟩=some (.int .i64 dp)) fun hJ=>?_;exact Qv
 cases XB
 .have HQF:Hid (false=RES):=HRES.out;go_wp2;refine rG (fun v=>v.cell? ⟨w.heap.size,0,none⟩=some (.slice p0 n0 q0)/\v.cell? ⟨w.heap.size,1,none⟩=some (.slice (some ⟨lb,lo,none⟩) n1 q1)/\v.cell? ⟨w.heap.size,2,none⟩=some (.slice p2 n2 q2)/\v.cell? ⟨w.heap.size,3,none⟩=some v3/\v.cell? ⟨w.heap.size+1,1,none⟩=some (.int .i64 (kd:Int))/\v.cell? ⟨w.heap.size+1,2,none⟩=some (.int .i64 A)/\v.cell? ⟨w.heap.size+1,3,none⟩=some (.int .i64 B)/\v.cell? ⟨w.heap.size+1,4,none⟩=some (.int .i64 E)/\v.cell? ⟨w.heap.size+1,5,none⟩=some (.int .i64 n)/\v.cell? ⟨Z,0,none⟩=some (.int .i64 dk)/\v.cell? ⟨Z,1,none⟩=some (.int .i64 dp)) fun hJ=>?_;exact Qu
 cases XC
 .have HQF:Hid (false=RES):=HRES.out;go_wp2;refine rG (fun v=>v.cell? ⟨w.heap.size,0,none⟩=some (.slice p0 n0 q0)/\v.cell? ⟨w.heap.size,1,none⟩=some (.slice (some ⟨lb,lo,none⟩) n1 q1)/\v.cell? ⟨w.heap.size,2,none⟩=some (.slice p2 n2 q2)/\v.cell? ⟨w.heap.size,3,none⟩=some v3/\v.cell? ⟨w.heap.size+1,1,none⟩=some (.int .i64 (kd:Int))/\v.cell? ⟨w.heap.size+1,2,none⟩=some (.int .i64 A)/\v.cell? ⟨w.heap.size+1,3,none⟩=some (.int .i64 B)/\v.cell? ⟨w.heap.size+1,4,none⟩=some (.int .i64 E)/\v.cell? ⟨w.heap.size+1,5,none⟩=some (.int .i64 n)/\v.cell? ⟨Z,0,none⟩=some (.int .i64 dk)/\v.cell? ⟨Z,1,none⟩=some (.int .i64 dp)) fun hJ=>?_;exact Qt
 go_wp2;refine rG (fun v=>v.cell? ⟨w.heap.size,0,none⟩=some (.slice p0 n0 q0)/\v.cell? ⟨w.heap.size,1,none⟩=some (.slice (some ⟨lb,lo,none⟩) n1 q1)/\v.cell? ⟨w.heap.size,2,none⟩=some (.slice p2 n2 q2)/\v.cell? ⟨w.heap.size,3,none⟩=some v3/\v.cell? ⟨w.heap.size+1,1,none⟩=some (.int .i64 (kd:Int))/\v.cell? ⟨w.heap.size+1,2,none⟩=some (.int .i64 A)/\v.cell? ⟨w.heap.size+1,3,none⟩=some (.int .i64 B)/\v.cell? ⟨w.heap.size+1,4,none⟩=some (.int .i64 E)/\v.cell? ⟨w.heap.size+1,5,none⟩=some (.int .i64 n)/\v.cell? ⟨Z,0,none⟩=some (.int .i64 dk)/\v.cell? ⟨Z,1,none⟩=some (.int .i64 dp)) fun hJ=>?_;refine wpAnyH_take (i:=0) (v:=?_) A7 kR kR kR A8 (Or.inl ⟨rF,?_⟩) A9 ?_
 rotate_left 1
 ·(intro wS hSw;(try dsimp only at hSw);go_simp;try(with_reducible rfl))
 try simp only[Act.put,List.setIfInBounds_toArray,List.set_cons_zero,List.set_cons_succ]
 refine wpAnyH_take (i:=1) (v:=?_) A7 kR kR kR A8 (Or.inl ⟨rF,?_⟩) A9 ?_
 rotate_left 1
 ·(intro wS hSw;(try dsimp only at hSw);go_simp;try(with_reducible rfl))
 try simp only[Act.put,List.setIfInBounds_toArray,List.set_cons_zero,List.set_cons_succ]
 refine wpAnyH_take (i:=2) (v:=?_) A7 kR kR kR A8 (Or.inl ⟨rF,?_⟩) A9 ?_
 rotate_left 1
 ·(intro wS hSw;(try dsimp only at hSw);go_simp;try(with_reducible rfl))
 try simp only[Act.put,List.setIfInBounds_toArray,List.set_cons_zero,List.set_cons_succ]
 refine wpAnyH_take (i:=3) (v:=?_) A7 kR kR kR A8 (Or.inl ⟨rF,?_⟩) A9 ?_
 rotate_left 1
 ·(intro wS hSw;(try dsimp only at hSw);go_simp;try(with_reducible rfl))
 try simp only[Act.put,List.setIfInBounds_toArray,List.set_cons_zero,List.set_cons_succ]
 refine wpAnyH_take (i:=4) (v:=?_) A7 kR kR kR A8 (Or.inl ⟨rF,?_⟩) A9 ?_
 rotate_left 1
 ·(intro wS hSw;(try dsimp only at hSw);go_simp;try(with_reducible rfl))
 try simp only[Act.put,List.setIfInBounds_toArray,List.set_cons_zero,List.set_cons_succ]
 refine wpAnyH_take (i:=5) (v:=?_) A7 kR kR kR A8 (Or.inl ⟨rF,?_⟩) A9 ?_
 rotate_left 1
 ·(intro wS hSw;(try dsimp only at hSw);go_simp;try(with_reducible rfl))
 try simp only[Act.put,List.setIfInBounds_toArray,List.set_cons_zero,List.set_cons_succ]
 clear hJ;refine AR 6 fun K hK=>?_;go_simp;(go_at_call 92;(with_reducible refine(HKA.out _ (bel HTD.out.bel (Ag _))).mono ?_);rintro e w3 ⟨rfl,hb9⟩;have HB3:Hid (Below Wd.heap.size Wd w3):=bel (Ag _) hb9;clear hb9;obtain⟨c0,c1,c2,c3,i1,i2,i3,i4,i5,d0,d1⟩:=HCD.out w3 HB3.out);try(go_wp2_with fail)
 refine AX hK fun hJ=>?_;clear hK K;refine wpAnyH_take (i:=7) (v:=?_) A7 kR kR kR A8 (Or.inl ⟨rF,?_⟩) A9 ?_
 rotate_left 1
 ·(intro wS hSw;(try dsimp only at hSw);go_simp;try(with_reducible rfl))
 try simp only[Act.put,List.setIfInBounds_toArray,List.set_cons_zero,List.set_cons_succ]
 refine wpAnyH_take (i:=8) (v:=?_) A7 kR kR kR A8 (Or.inl ⟨rF,?_⟩) A9 ?_
 rotate_left 1
 ·(intro wS hSw;(try dsimp only at hSw);go_simp;try(with_reducible rfl))
 try simp only[Act.put,List.setIfInBounds_toArray,List.set_cons_zero,List.set_cons_succ]
 refine wpAnyH_take (i:=9) (v:=?_) A7 kR kR kR A8 (Or.inl ⟨rF,?_⟩) A9 ?_
 rotate_left 1
 ·(intro wS hSw;(try dsimp only at hSw);go_simp;try(with_reducible rfl))
 try simp only[Act.put,List.setIfInBounds_toArray,List.set_cons_zero,List.set_cons_succ]
 refine wpAnyH_take (i:=10) (v:=?_) A7 kR kR kR A8 (Or.inl ⟨rF,?_⟩) A9 ?_
 rotate_left 1
 ·(intro wS hSw;(try dsimp only at hSw);go_simp;try(with_reducible rfl))
 try simp only[Act.put,List.setIfInBounds_toArray,List.set_cons_zero,List.set_cons_succ]
 refine wpAnyH_take (i:=11) (v:=?_) A7 kR kR kR A8 (Or.inl ⟨rF,?_⟩) A9 ?_
 rotate_left 1
 ·(intro wS hSw;(try dsimp only at hSw);go_simp;try(with_reducible rfl))
 try simp only[Act.put,List.setIfInBounds_toArray,List.set_cons_zero,List.set_cons_succ]
 refine wpAnyH_take (i:=12) (v:=?_) A7 kR kR kR A8 (Or.inl ⟨rF,?_⟩) A9 ?_
 rotate_left 1
 ·(intro wS hSw;(try dsimp only at hSw);go_simp;try(with_reducible rfl))
 try simp only[Act.put,List.setIfInBounds_toArray,List.set_cons_zero,List.set_cons_succ]
 refine wpAnyH_take (i:=13) (v:=?_) A7 kR kR kR A8 (Or.inl ⟨rF,?_⟩) A9 ?_
 rotate_left 1
 ·(intro wS hSw;(try dsimp only at hSw);go_simp;try(with_reducible rfl))
 try simp only[Act.put,List.setIfInBounds_toArray,List.set_cons_zero,List.set_cons_succ]
 refine wpAnyH_take (i:=14) (v:=?_) A7 kR kR kR A8 (Or.inl ⟨rF,?_⟩) A9 ?_
 rotate_left 1
 ·(intro wS hSw;(try dsimp only at hSw);go_simp;try(with_reducible rfl))
 try simp only[Act.put,List.setIfInBounds_toArray,List.set_cons_zero,List.set_cons_succ]
 clear hJ;refine AR 15 fun K hK=>?_;go_simp;(go_at_call 92;(with_reducible refine(HKB.out _ (bel HTD.out.bel HB3.out)).mono ?_);rintro e w4 ⟨rfl,hb9⟩;have HB4:Hid (Below Wd.heap.size Wd w4):=bel HB3.out hb9;clear hb9;clear c0 c1 c2 c3 i1 i2 i3 i4 i5 d0 d1;obtain⟨c0,c1,c2,c3,i1,i2,i3,i4,i5,d0,d1⟩:=HCD.out w4 HB4.out);try(go_wp2_with fail)
 refine AX hK fun hJ=>?_;clear hK K;refine wpAnyH_take (i:=16) (v:=?_) A7 kR kR kR A8 (Or.inl ⟨rF,?_⟩) A9 ?_
 rotate_left 1
 ·(intro wS hSw;(try dsimp only at hSw);go_simp;try(with_reducible rfl))
 try simp only[Act.put,List.setIfInBounds_toArray,List.set_cons_zero,List.set_cons_succ]
 refine wpAnyH_take (i:=17) (v:=?_) A7 kR kR kR A8 (Or.inl ⟨rF,?_⟩) A9 ?_
 rotate_left 1
 ·(intro wS hSw;(try dsimp only at hSw);go_simp;try(with_reducible rfl))
 try simp only[Act.put,List.setIfInBounds_toArray,List.set_cons_zero,List.set_cons_succ]
 refine wpAnyH_take (i:=18) (v:=?_) A7 kR kR kR A8 (Or.inl ⟨rF,?_⟩) A9 ?_
 rotate_left 1
 ·(intro wS hSw;(try dsimp only at hSw);go_simp;try(with_reducible rfl))
 try simp only[Act.put,List.setIfInBounds_toArray,List.set_cons_zero,List.set_cons_succ]
 refine wpAnyH_take (i:=19) (v:=?_) A7 kR kR kR A8 (Or.inl ⟨rF,?_⟩) A9 ?_
 rotate_left 1
 ·(intro wS hSw;(try dsimp only at hSw);go_simp;try(with_reducible rfl))
 try simp only[Act.put,List.setIfInBounds_toArray,List.set_cons_zero,List.set_cons_succ]
 refine wpAnyH_take (i:=20) (v:=?_) A7 kR kR kR A8 (Or.inl ⟨rF,?_⟩) A9 ?_
 rotate_left 1
 ·(intro wS hSw;(try dsimp only at hSw);go_simp;try(with_reducible rfl))
 try simp only[Act.put,List.setIfInBounds_toArray,List.set_cons_zero,List.set_cons_succ]
 refine wpAnyH_take (i:=21) (v:=?_) A7 kR kR kR A8 (Or.inl ⟨rF,?_⟩) A9 ?_
 rotate_left 1
 ·(intro wS hSw;(try dsimp only at hSw);go_simp;try(with_reducible rfl))
 try simp only[Act.put,List.setIfInBounds_toArray,List.set_cons_zero,List.set_cons_succ]
 refine wpAnyH_take (i:=22) (v:=?_) A7 kR kR kR A8 (Or.inl ⟨rF,?_⟩) A9 ?_
 rotate_left 1
 ·(intro wS hSw;(try dsimp only at hSw);go_simp;try(with_reducible rfl))
 try simp only[Act.put,List.setIfInBounds_toArray,List.set_cons_zero,List.set_cons_succ]
 refine wpAnyH_take (i:=23) (v:=?_) A7 kR kR kR A8 (Or.inl ⟨rF,?_⟩) A9 ?_
 rotate_left 1
 ·(intro wS hSw;(try dsimp only at hSw);go_simp;try(with_reducible rfl))
 try simp only[Act.put,List.setIfInBounds_toArray,List.set_cons_zero,List.set_cons_succ]
 refine wpAnyH_take (i:=24) (v:=?_) A7 kR kR kR A8 (Or.inl ⟨rF,?_⟩) A9 ?_
 rotate_left 1
 ·(intro wS hSw;(try dsimp only at hSw);go_simp;try(with_reducible rfl))
 try simp only[Act.put,List.setIfInBounds_toArray,List.set_cons_zero,List.set_cons_succ]
 clear hJ;refine AR 25 fun K hK=>?_;go_simp;(go_at_call 92;(with_reducible refine(HKC.out _ (bel HTD.out.bel HB4.out)).mono ?_);rintro e w5 ⟨rfl,hb9⟩;have HB5:Hid (Below Wd.heap.size Wd w5):=bel HB4.out hb9;clear hb9;clear c0 c1 c2 c3 i1 i2 i3 i4 i5 d0 d1;obtain⟨c0,c1,c2,c3,i1,i2,i3,i4,i5,d0,d1⟩:=HCD.out w5 HB5.out);try(go_wp2_with fail)
 refine AX hK fun hJ=>?_;clear hK K;refine wpAnyH_take (i:=26) (v:=?_) A7 kR kR kR A8 (Or.inl ⟨rF,?_⟩) A9 ?_
 rotate_left 1
 ·(intro wS hSw;(try dsimp only at hSw);go_simp;try(with_reducible rfl))
 try simp only[Act.put,List.setIfInBounds_toArray,List.set_cons_zero,List.set_cons_succ]
 refine wpAnyH_take (i:=27) (v:=?_) A7 kR kR kR A8 (Or.inl ⟨rF,?_⟩) A9 ?_
 rotate_left 1
 ·(intro wS hSw;(try dsimp only at hSw);go_simp;try(with_reducible rfl))
 try simp only[Act.put,List.setIfInBounds_toArray,List.set_cons_zero,List.set_cons_succ]
 refine wpAnyH_done kR ?_ _;clear c0 c1 c2 c3 i1 i2 i3 i4 i5 d0 d1;have HT5:Hid (TW w (.slice p0 n0 q0) (.slice (some ⟨lb,lo,none⟩) n1 q1) (.slice p2 n2 q2) v3 (w.heap.size+1) op (kd:Int) A B E n bt w5):=HTD.next HB5.out;obtain⟨hb5,c0,c1,c2,c3,i0,i1,i2,i3,i4,i5,i6⟩:=HT5.out;obtain⟨-,-,-,-,-,-,-,-,-,d0,d1⟩:=HCD.out w5 HB5.out;have hs5:w5.heap.size≠w.heap.size+1/\w.heap.size<w5.heap.size:=⟨fun e=>by have:=Ae i0;simp only at this;omega,by have:=Ae c0;simp only at this;omega⟩
 have HAL:Hid (TW w (.slice p0 n0 q0) (.slice (some ⟨lb,lo,none⟩) n1 q1) (.slice p2 n2 q2) v3 (w.heap.size+1) op (kd:Int) A B E n bt (w5.alloc (.cells #[.int .i64 dk,.int .i64 dp] 62))):=HT5.next (A5 _ _);have HRT:Hid (BV c Le n ⟨dk,dp⟩=RES):=HRES.out;clear c0 c1 c2 c3 i0 i1 i2 i3 i4 i5 i6;have t0:(w5.alloc (.cells #[.int .i64 dk,.int .i64 dp] 62)).cell? ⟨w5.heap.size,0,none⟩=some (.int .i64 dk):=sG;have t1:(w5.alloc (.cells #[.int .i64 dk,.int .i64 dp] 62)).cell? ⟨w5.heap.size,1,none⟩=some (.int .i64 dp):=sG;obtain⟨hbx,c0,c1,c2,c3,i0,i1,i2,i3,i4,i5,i6⟩:=HAL.out;clear d0 d1 HRES;have hbt:=hbx;subst oe;exact Q7
end Go.Proofs.YtnlgkkbmbijndaaGreat
