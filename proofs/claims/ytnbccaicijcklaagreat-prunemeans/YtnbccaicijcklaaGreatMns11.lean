import Derived.Test.YtnbccaicijcklaaGreatMns9
import Derived.Shelf.Small.Bits
import Derived.Test.YtnbccaicijcklaaGreatMns6
import Derived.Test.YtnbccaicijcklaaGreatMns2
import Derived.Test.YtnbccaicijcklaaGreatMns7
import Derived.Deep.OwnRows
import Derived.Test.YtnbccaicijcklaaGreatMns8
import Derived.Deep.AppendLies
import Derived.Deep.DeepCutAuto
import Derived.Test.YtnbccaicijcklaaGreatRows
import Derived.WalkKit
import Derived.ProofKit
import Derived.OpenShut
import Derived.JoinedCond
import Derived.Deep.Slices
import Derived.Deep.Strs
import Derived.SizedLaws
import Derived.Test.YtnbccaicijcklaaGreatMns1
namespace Go.Proofs.YtnbccaicijcklaaGreat
open Go.RowKit Go.Proofs.Tryz
set_option linter.all false
set_option maxRecDepth 100000
set_option maxHeartbeats 16000000
section
open Go.RowKit Go.Shelf Go.Proofs.Tryz
end
def Vm(x n:Int):Nat->Int->Int
 |0,r=>r
 |k+1,r=>Vm x n k (if n/2^k%2=1 then FJ (FJ r r) x else FJ r r)
def JJ(x n:Int):Int:=if n<1 then 1065353216 else Vm x n (Dg n.toNat-1) (An x)
theorem PE(x n:Int):∀ (k:Nat) (r:Int),0<=r->r<4294967296->0<=Vm x n k r/\Vm x n k r<4294967296
 |0,r,h0,h1=>⟨h0,h1⟩
 |k+1,r,h0,h1=>by
  unfold Vm;split
  .exact PE x n k _ (Fc _ _).1 (Fc _ _).2
  .exact PE x n k _ (Fc _ _).1 (Fc _ _).2
theorem YU(x n:Int)(h0:0<=x)(h1:x<4294967296):0<=JJ x n/\JJ x n<4294967296:=by
 unfold JJ;split
 .decide
 .exact PE x n _ _ (ET x h0 h1).1 (ET x h0 h1).2
theorem Ys(n:Int)(h0:0<=n)(h1:n<=9223372036854775807)(i:Nat):bits .and .i64 (n/2^i) 1=n/2^i%2:=by
 have e:n/2^i=((n.toNat/2^i:Nat):Int):=by
  rw[Int.natCast_ediv,Int.natCast_pow,Int.toNat_of_nonneg h0];rfl
 have hle:n.toNat/2^i<=n.toNat:=Nat.div_le_self ..;rw[e];generalize n.toNat/2^i=q at *;have hx:q&&& 1=q%2:=Nat.and_one_is_mod q;show IntKind.i64.wrap ((BitVec.ofInt 64 (q:Int)&&& BitVec.ofInt 64 ((1:Nat):Int)).toNat:Int)=_;rw[BitVec.toNat_and,ofInt_u64 q oM,ofInt_u64 1 dE,hx,IntKind.wrap_i64];omega
theorem Xh(x:Int)(h0:0<=x)(h1:x<4294967296)(n:Int)(n0: -9223372036854775808<=n)(n1:n<=9223372036854775807)(w:World):
 Calls prog 63 #[.int .i64 x,.int .i64 n] w fun e w'=>e=.returned (.int .i64 (JJ x n))/\Below w.heap.size w w':=by
 unfold JJ;by_cases c:n<1
 .rw[if_pos c];go_enter func63,ntmps63;go_wp2;go_ret;exact⟨rfl,Lm _⟩
 .rw[if_neg c];have hc:=ET x h0 h1;have hc':0<=An x/\An x<4294967296:=hc;clear hc;have hB:1<=Dg n.toNat/\Dg n.toNat<=63:=by
   unfold Dg;rw[if_neg oM];have:n.toNat.log2<63:=(Nat.log2_lt oM).2 (by have:(2:Nat)^63=9223372036854775808:=rfl;omega);omega
  generalize hBB:Dg n.toNat=B at *;generalize hP:Vm x n (B-1) (An x)=P at *;have HP:Hid (Vm x n (B-1) (An x)=P):=hP;clear hP;go_enter func63,ntmps63;go_wp2_with(first
   |(go_at_call 85;refine(G9 _ oM oM _).mono ?_;rintro e w1 ⟨rfl,hb1⟩)
   |(go_at_call 92;refine(Fv _ oM oM _).mono ?_;rintro e w' ⟨rfl,hw'⟩;obtain rfl:=hw'.symm))
  go_loopw [5,6] (fun rv pv wr=>Below w.heap.size w wr/\∃ (j:Nat) (r:Int),j<=62/\rv=.int .i64 r/\pv=.int .i64 ((j:Int)-1)/\0<=r/\r<4294967296/\Vm x n j r=P) (fun _ pv _=>(intOf pv+1).toNat)
  case atStart=>exact⟨hb1,B-1,An x,oM,rfl,by rw[show((B-1:Nat):Int)-1=(B:Int)-2 by omega],hc'.1,hc'.2,HP.out⟩
  case round=>
   obtain⟨hbel,j,r,hj,rfl,rfl,r0,r1,hr⟩:=hrel;have HR:Hid (Vm x n j r=P):=hr;clear hr;rcases Nat.eq_zero_or_pos j with hz|hz
   .subst hz;have hPr:r=P:=HR.out;subst hPr;clear HR HP;go_wp2;go_ret;exact⟨rfl,hbel⟩
   .obtain⟨i,rfl⟩:∃i,j=i+1:=⟨j-1,oM⟩
    rw[show((i+1:Nat):Int)-1=(i:Int) by omega];have hbit:=Ys n oM n1 i;have l1:=Fc r r;have l2:=Fc (FJ r r) x;by_cases cb:n/2^i%2=1
    .go_wp2_with(go_at_call 93;refine(Kl _ oM oM _ oM oM _).mono ?_;rintro e w2 ⟨rfl,hb2⟩);go_roundw
     case rel=>exact⟨by repeat(first|assumption|refine Jx ?_ (by assumption)),i,_,oM,rfl,rfl,l2.1,l2.2,by have:=HR.out;rw[Vm,if_pos cb]at this;exact this⟩
     case measure=>first|(simp[intOf];done)|(simp[intOf];omega)
    .go_wp2_with(go_at_call 93;refine(Kl _ oM oM _ oM oM _).mono ?_;rintro e w2 ⟨rfl,hb2⟩);go_roundw
     case rel=>exact⟨by repeat(first|assumption|refine Jx ?_ (by assumption)),i,_,oM,rfl,rfl,l1.1,l1.2,by have:=HR.out;rw[Vm,if_neg cb]at this;exact this⟩
     case measure=>first|(simp[intOf];done)|(simp[intOf];omega)
structure Hd where
 pats:List Int
 whole:Int
structure Fr where
 nums:Nat->Int
 whs:Nat->Int
 vecs:Nat->List Int
 slots:List Hd
 outs:Nat->Nat->Int
def Fl{α:Type}(f:Nat->α)(k:Nat)(x:α):Nat->α:=fun j=>if j=k then x else f j
theorem Bx{α:Type}(f:Nat->α)(k:Nat)(x:α):Fl f k x k=x:=if_pos rfl
theorem By{α:Type}(f:Nat->α){k j:Nat}(x:α)(h:j≠k):Fl f k x j=f j:=if_neg h
theorem Cr{α:Type}{Q:α->Prop}{f:Nat->α}{k:Nat}{x:α}(h:∀j,Q (f j))(hx:Q x)(j:Nat):Q (Fl f k x j):=by
 unfold Fl;split
 .exact hx
 .exact h j
def lenOf(c:Cd)(p:Int):Nat:=((c.sign[p.toNat]?).map fun q=>q.len.toNat).getD 0
def AI(c:Cd)(p:Int):Nat:=if CU c.sign p=2 then 2 else 1
def B4(c:Cd)(t:Ty):Nat:=if t.kind=3 then lenOf c t.par else if t.kind=1 then 1 else 0
def DU(c:Cd)(t:Ty)(a:Int):List Int:=List.replicate (B4 c t) (An a)
def Bf(c:Cd)(s:Sl):Hd:=⟨DU c s.ty s.bits,s.int_⟩
def C5(c:Cd)(f:Fr)(r:Int):Hd:=
 if(Aa c.regs r).kind=1 then⟨[f.nums r.toNat],0⟩else if(Aa c.regs r).kind=2 then⟨[],f.whs r.toNat⟩else⟨f.vecs r.toNat,0⟩
def Kt(c:Cd)(f:Fr)(r:Int)(h:Hd):Fr:=
 if(Aa c.regs r).kind=1 then{f with nums:=Fl f.nums r.toNat (h.pats.headD 0)}
 else if(Aa c.regs r).kind=2 then{f with whs:=Fl f.whs r.toNat h.whole}
 else{f with vecs:=Fl f.vecs r.toNat h.pats}
def CG(l:List Int)(j:Nat):Int:=(l[j]?).getD 0
def EK(vs:List (List Int))(p:Nat):List Int:=(vs[p]?).getD []
def BH(c:Cd)(vs:List (List Int))(i:Ad):List Int:=
 (List.range (lenOf c (Aa c.regs i.d).par)).map fun e=>An (CG (EK vs (Aa c.regs i.d).par.toNat) (AI c (Aa c.regs i.d).par*e+i.n.toNat))
def W7(o:Nat->Nat->Int)(p k n:Nat)(l:List Int):Nat->Nat->Int:=
 fun q j=>if q=p/\j%k=n/\j/k<l.length then CG l (j/k)else o q j
def lF(args:List (List Int))(i:Nat):Nat:=(EK args i).length
def xF(args:List (List Int))(i j:Nat):Int:=CG (EK args i) j
def D3(op:Int)(args:List (List Int)):List Int:=
 match Eo (lF args) (args.length-1)with
 |some n=>(List.range n).map fun i=>Kb op (Gz (lF args) (xF args) args.length i 0) (Gz (lF args) (xF args) args.length i 1) (Gz (lF args) (xF args) args.length i 2)
 |none=>[]
def Br(c:Cd)(f:Fr)(i:Ad):List (List Int):=(Ae i (A4 i.op)).map fun r=>(C5 c f r).pats
def EU(c:Cd)(f:Fr)(i:Ad):Fr:=
 if(Aa c.regs i.d).kind=2 then{f with whs:=Fl f.whs i.d.toNat (f.whs i.a.toNat)}
 else Kt c f i.d ⟨if(D3 i.op (Br c f i)).length<B4 c (Aa c.regs i.d)then DU c (Aa c.regs i.d) ((D3 i.op (Br c f i)).headD 0)else D3 i.op (Br c f i),0⟩
def O4(f:Fr)(i:Ad):Int:=
 if i.op=16 then JJ (f.nums i.a.toNat) (f.whs i.b.toNat)else if i.op=17 then GG (f.whs i.a.toNat)
 else if i.op=19 then L5 (CG (f.vecs i.a.toNat)) (f.vecs i.a.toNat).length else if i.op=20 then EP (CG (f.vecs i.a.toNat)) (f.vecs i.a.toNat).length else i.bits
def BG(b:Bool):Int:=if b then 1 else 0
def ER(f:Fr)(i:Ad):Int:=
 if i.op=18 then BG (Mx (f.nums i.a.toNat) 1065353216 0==1065353216)
 else if i.op=21 then min (f.whs i.a.toNat) 2147483646+1
 else if i.op=22 then BG (decide (f.whs i.a.toNat<f.whs i.b.toNat))
 else if i.op=23 then BG (f.whs i.a.toNat==f.whs i.b.toNat)
 else if i.op=24 then BG (f.whs i.a.toNat != 0&&f.whs i.b.toNat != 0)
 else if i.op=25 then BG (f.whs i.a.toNat==0)
 else if i.op=26 then(if f.whs i.a.toNat=0 then f.whs i.c.toNat else f.whs i.b.toNat)
 else if i.op=27 then max (f.whs i.a.toNat-f.whs i.b.toNat) 0
 else if i.op=28 then(if f.whs i.b.toNat=0 then 0 else f.whs i.a.toNat/f.whs i.b.toNat)
 else i.n
def DC(op:Int):Bool:=op==1||op==16||op==17||op==19||op==20
def Bj(op:Int):Bool:=op==2||op==18||(decide (21<=op)&&decide (op<=28))
def D0(c:Cd)(G P:List (List Int))(f:Fr)(i:Ad):Fr:=
 if DC i.op then{f with nums:=Fl f.nums i.d.toNat (O4 f i)}
 else if Bj i.op then{f with whs:=Fl f.whs i.d.toNat (ER f i)}
 else if i.op=29 then{f with vecs:=Fl f.vecs i.d.toNat (BH c G i)}
 else if i.op=30 then{f with vecs:=Fl f.vecs i.d.toNat (BH c P i)}
 else if i.op=31 then{f with outs:=W7 f.outs (Aa c.regs i.a).par.toNat (AI c (Aa c.regs i.a).par) i.n.toNat (f.vecs i.a.toNat)}
 else if i.op=32 then Kt c f i.d ((f.slots[i.n.toNat]?).getD ⟨[],0⟩)
 else if i.op=33 then{f with slots:=f.slots.set i.n.toNat (C5 c f i.a)}
 else if 34<=i.op/\i.op<=37 then f
 else EU c f i
def AK(c:Cd)(G P:List (List Int))(s:Fr×Nat)(i:Ad):Fr×Nat:=
 if 0<s.2/\i.op=35 then(s.1,s.2-1)
 else if i.op=34/\(0<s.2\/s.1.whs i.a.toNat=0)then(s.1,s.2+1)
 else if s.2=0 then(D0 c G P s.1 i,0)else s
def UG(c:Cd)(G P:List (List Int))(s:Fr×Nat)(l:List Ad):Fr×Nat:=l.foldl (AK c G P) s
def BC(c:Cd):List Hd:=c.slots.map (Bf c)
def O5(p:BJ):Nat:=(Dh p).toNat
def Gg(c:Cd)(f:Fr):List (List Int):=(List.range c.sign.length).map fun p=>(List.range ((c.sign[p]?).elim 0 O5)).map (f.outs p)
def Ev(c:Cd)(G P:List (List Int)):Bool:=C8 c.sign (G.map (·.length))&&C8 c.sign (P.map (·.length))
structure Un(U:Nat->Prop)(w w':World):Prop where
 os:w'.os=w.os
 tape:w'.tape=w.tape
 output:w'.output=w.output
 size:w.heap.size<=w'.heap.size
 block:∀b,b<w.heap.size->¬U b->w'.heap[b]? =w.heap[b]?
section
variable {U T : Nat -> Prop} {w w' w'' : World}
theorem Un.refl(U:Nat->Prop)(w:World):Un U w w:=⟨rfl,rfl,rfl,gF _,fun _ _ _=>rfl⟩
theorem Un.trans(h:Un U w w')(k:Un U w' w''):Un U w w'':=
 ⟨k.os.trans h.os,k.tape.trans h.tape,k.output.trans h.output,gH h.size k.size,fun b hb hu=>(k.block b (Nat.lt_of_lt_of_le hb h.size) hu).trans (h.block b hb hu)⟩
theorem Un.of(h:Below w.heap.size w w'):Un U w w':=⟨h.os,h.tape,h.output,h.size,fun b hb _=>h.block b hb⟩
theorem Un.mono(h:Un U w w')(k:∀b,U b->T b):Un T w w':=⟨h.os,h.tape,h.output,h.size,fun b hb hu=>h.block b hb fun q=>hu (k b q)⟩
theorem Un.on(h:Un U w w')(k:Below w'.heap.size w' w''):Un U w w'':=h.trans (Un.of k)
theorem Un.below{B:Nat}(h:Un U w w')(hB:B<=w.heap.size)(k:∀b,U b->B<=b):Below B w w':=
 ⟨h.os,h.tape,h.output,h.size,fun b hb=>h.block b oM fun q=>by have:=k b q;omega⟩
theorem Un.setCell(h:Un U w w'){p:Addr}(hp:U p.block)(x:Value):Un U w (w'.setCell p x):=
 ⟨h.os,h.tape,h.output,by simpa[World.setCell]using h.size,fun b hb hu=>by
  have hne:b≠p.block:=fun e=>hu (by rw[e];exact hp)
  rw[gE (by exact hne)];exact h.block b hb hu⟩
end
def F6{α:Type}(T:Nat->Prop)(k:Nat)(f:α->List Value)(w:World)(v:Value)(l:List α):Prop:=
 ∃p c,v=.slice p l.length c/\(l=[]\/∃b o,p=some ⟨b,o,none⟩/\¬T b/\b<w.heap.size/\∀i (h:i<l.length),Ar w b (o+i*k) (f l[i]))
section
variable {α : Type} {T U : Nat -> Prop} {k : Nat} {f : α -> List Value} {w w' : World} {v : Value} {l : List α}
theorem F6.row(h:F6 T k f w v l):AV k f w v l:=by
 obtain⟨p,c,hv,h⟩:=h;exact⟨p,c,hv,h.imp id fun⟨b,o,hp,_,_,h⟩=>⟨b,o,hp,h⟩⟩
theorem F6.un(h:F6 T k f w v l)(q:Un U w w')(hu:∀b,b<w.heap.size->U b->T b):F6 T k f w' v l:=by
 obtain⟨p,c,hv,h⟩:=h;exact⟨p,c,hv,h.imp id fun⟨b,o,hp,ht,hb,h⟩=>⟨b,o,hp,ht,Nat.lt_of_lt_of_le hb q.size,fun i hi=>(h i hi).of_block (q.block b hb fun e=>ht (hu b hb e))⟩⟩
theorem F6.below(h:F6 T k f w v l)(q:Below w.heap.size w w'):F6 T k f w' v l:=h.un (U:=fun _=>False) (Un.of q) (fun _ _ e=>e.elim)
theorem F6.mono(h:F6 T k f w v l)(hu:∀b,b<w.heap.size->U b->T b):F6 U k f w v l:=by
 obtain⟨p,c,hv,h⟩:=h;exact⟨p,c,hv,h.imp id fun⟨b,o,hp,ht,hb,h⟩=>⟨b,o,hp,fun e=>ht (hu b hb e),hb,h⟩⟩
end
def ptC(x:Int):List Value:=[.int .u32 x]
abbrev Pt(T:Nat->Prop)(w:World)(v:Value)(l:List Int):Prop:=F6 T 1 ptC w v l
theorem Pt.reads{T:Nat->Prop}{w:World}{p:Option Addr}{n c:Nat}{l:List Int}(h:Pt T w (.slice p n c) l):n=l.length/\Bb w p n (fun j=>.int .u32 (CG l j)):=by
 obtain⟨p',c',hv,h⟩:=h;simp only[Value.slice.injEq]at hv;obtain⟨rfl,rfl,rfl⟩:=hv;refine⟨rfl,?_⟩;rcases h with h|⟨b,o,hp,_,_,h⟩
 .exact .inl (by rw[h];rfl)
 .refine .inr ⟨b,o,hp,fun i hi=>?_⟩;have:=(h i hi).at 0 (v:=.int .u32 l[i]) rfl;rw[Nat.mul_one,Nat.add_zero]at this;rw[this];simp[CG,gB hi]
theorem Pt.len{T:Nat->Prop}{w:World}{v:Value}{l:List Int}(h:Pt T w v l):∃p c,v=.slice p l.length c:=by
 obtain⟨p,c,hv,_⟩:=h;exact⟨p,c,hv⟩
def F7(T:Nat->Prop)(w:World)(v:Value)(L:List (List Int)):Prop:=
 ∃p c,v=.slice p L.length c/\(L=[]\/∃b o,p=some ⟨b,o,none⟩/\¬T b/\b<w.heap.size/\∀i (h:i<L.length),∃u,w.cell? ⟨b,o+i,none⟩=some u/\Pt T w u L[i])
theorem F7.un{T U:Nat->Prop}{w w':World}{v:Value}{L:List (List Int)}(h:F7 T w v L)(q:Un U w w')(hu:∀b,b<w.heap.size->U b->T b):F7 T w' v L:=by
 obtain⟨p,c,hv,h⟩:=h;refine⟨p,c,hv,h.imp id fun⟨b,o,hp,ht,hb,h⟩=>⟨b,o,hp,ht,Nat.lt_of_lt_of_le hb q.size,fun i hi=>?_⟩⟩;obtain⟨u,h1,h2⟩:=h i hi;exact⟨u,(gC (q.block b hb fun e=>ht (hu b hb e))).trans h1,h2.un q hu⟩
theorem F7.below{T:Nat->Prop}{w w':World}{v:Value}{L:List (List Int)}(h:F7 T w v L)(q:Below w.heap.size w w'):F7 T w' v L:=h.un (U:=fun _=>False) (Un.of q) (fun _ _ e=>e.elim)
theorem F7.mono{T U:Nat->Prop}{w:World}{v:Value}{L:List (List Int)}(h:F7 T w v L)(hu:∀b,b<w.heap.size->U b->T b):F7 U w v L:=by
 obtain⟨p,c,hv,h⟩:=h;refine⟨p,c,hv,h.imp id fun⟨b,o,hp,ht,hb,h⟩=>⟨b,o,hp,fun e=>ht (hu b hb e),hb,fun i hi=>?_⟩⟩;obtain⟨u,h1,h2⟩:=h i hi;exact⟨u,h1,h2.mono hu⟩
structure Lay where
 C:Nat
 S:Nat
 FR:Nat
 NB:Nat
 WB:Nat
 MB:Nat
 UB:Nat
 K:Nat
 ub:Nat->Nat
 sp:Option Addr
 sc:Nat
 v0:Value
 v1:Value
 v2:Value
 v3:Value
 gv:Value
 pv:Value

def Ru(c:Cd)(p:Nat):Nat:=(c.sign[p]?).elim 0 O5
section
variable {T : Nat -> Prop} {E E' : Nat} {a : Lay} {c : Cd} {G P : List (List Int)} {w w' : World} {X : Nat -> Value} {M : Nat} {m : Nat -> Option Value} {f : Fr}
end
structure Good(c:Cd):Prop where
 len:∀p∈c.sign,1<=p.len/\p.len<=4096
 kind:∀p∈c.sign,BP p=true
 regs:∀t∈c.regs,AF t c.sign.length=true
 slots:∀s∈c.slots,Be s c.sign.length=true
 regsL:c.regs.length<=16384
 slotsL:c.slots.length<=4096
 listL:c.list.length<=32768
 signL:c.sign.length<=64
theorem Good.type{c:Cd}(h:Good c){t:Ty}(ht:t∈c.regs)(h3:t.kind=3):Av t.par c.sign.length=true:=by
 have:=h.regs t ht;unfold AF at this;rw[if_neg oM,if_pos h3]at this;exact this
theorem Good.lenOf{c:Cd}(h:Good c)(p:Int):lenOf c p<=4096:=by
 unfold Proofs.YtnbccaicijcklaaGreat.lenOf;cases hp:c.sign[p.toNat]? with
 |none=>simp
 |some q=>
  have:=h.len q (List.mem_of_getElem? hp);simp only[Option.map_some,Option.getD_some];omega
theorem Good.width{c:Cd}(h:Good c)(t:Ty):B4 c t<=4096:=by
 unfold B4;split
 .exact h.lenOf _
 .split<;>omega
theorem Ea{l:List Ty}{r:Nat}(h:r<l.length):Aa l (r:Int)=l[r]:=by
 unfold Aa Av;simp[h]
section
variable {T : Nat -> Prop} {E E' : Nat} {a : Lay} {c : Cd} {G P : List (List Int)} {w : World}
end

theorem Bg(w:World):Below w.heap.size w w.drew:=(Below.refl _ _).drew
section
variable {T : Nat -> Prop} {E E' : Nat} {a : Lay} {c : Cd} {G P : List (List Int)} {X : Nat -> Value} {M : Nat} {m : Nat -> Option Value} {f : Fr} {w w1 w2 : World}
end

def P6(c:Cd)(t:Ty)(h:Hd):Prop:=h.pats.length=B4 c t/\(∀y∈h.pats,AH y)/\0<=h.whole/\h.whole<=2147483647
structure KK(c:Cd)(f:Fr):Prop where
 nums:∀r,AH (f.nums r)
 whs:∀r,0<=f.whs r/\f.whs r<=2147483647
 vecs:∀r,∀y∈f.vecs r,AH y
 vecsL:∀r,(f.vecs r).length<=4096
 slotsL:f.slots.length=c.slots.length
 slots:∀j (h:j<c.slots.length) (h':j<f.slots.length),P6 c c.slots[j].ty f.slots[j]
theorem CR{l:List Int}(h:∀y∈l,AH y)(j:Nat):AH (CG l j):=by
 unfold CG;cases e:l[j]? with
 |none=>exact JM
 |some y=>exact h y (List.mem_of_getElem? e)

structure F5(c:Cd)(L:List (List Int)):Prop where
 len:L.length=c.sign.length
 each:∀p (h:p<L.length),(L[p]).length=Ru c p
 isP:∀l∈L,∀y∈l,AH y
theorem JX{c:Cd}(hg:Good c){p:Nat}(h:p<c.sign.length):Ru c p=AI c p*lenOf c p/\lenOf c p=c.sign[p].len.toNat/\1<=c.sign[p].len/\c.sign[p].len<=4096/\(AI c p=1\/AI c p=2):=by
 have h1:=hg.len c.sign[p] (gD h);have h2:=hg.kind c.sign[p] (gD h);have e1:lenOf c (p:Int)=c.sign[p].len.toNat:=by unfold lenOf;simp[h]
 have e2:AI c (p:Int)=if c.sign[p].kind=2 then 2 else 1:=by unfold AI CU;simp[h]
 refine⟨?_,e1,h1.1,h1.2,?_⟩
 .unfold Ru;rw[e1,e2];simp only[gB h,Option.elim_some];unfold O5 Dh;rw[h2];simp only[if_true,beq_iff_eq];split<;>omega
 .rw[e2];split<;>simp
theorem Yy{α:Type}(f:Nat->Int)(n j:Nat)(h:j<n):CG ((List.range n).map f) j=f j:=by
 unfold CG;simp[h]
structure P8(c:Cd)(r:Int)(n:Int):Prop where
 r0:0<=r
 r1:r<(c.regs.length:Int)
 kind:(Aa c.regs r).kind=3
 n0:n=0\/(n=1/\CU c.sign (Aa c.regs r).par=2)

theorem Ia{L:List (List Int)}{k:Nat}(h:k<L.length):EK L k=L[k]:=by unfold EK;rw[gB h];rfl
theorem LD{l:Nat->Nat}{W:Nat}(hW:1<=W):∀M,(∀i,i<=M->l i=1\/l i=W)->∃n,Eo l M=some n/\(n=1\/n=W):=by
 intro M;induction M with
 |zero=>intro h;exact⟨l 0,rfl,h 0 (gF _)⟩
 |succ M ih=>
  intro h;obtain⟨n,h1,h2⟩:=ih fun i hi=>h i oM;rw[I5 h1];have h3:=h (M+1) (gF _);by_cases e1:l (M+1)=n
  .exact⟨n,if_pos e1,h2⟩
  .rw[if_neg e1,if_neg oM];by_cases e2:n=1
   .rw[if_pos e2];exact⟨_,rfl,h3⟩
   .rw[if_neg e2];by_cases e3:l (M+1)=1
    .rw[if_pos e3];exact⟨_,rfl,h2⟩
    .omega
theorem Gf(i:Ad)(h:Bq i.op=true):CC i.op=(Ae i (A4 i.op)).length/\CC i.op≠0:=by
 unfold Bq at h;simp only[Bool.and_eq_true,decide_eq_true_eq]at h;have:i.op=3\/i.op=4\/i.op=5\/i.op=6\/i.op=7\/i.op=8\/i.op=9\/i.op=10\/i.op=11\/i.op=12\/i.op=13\/i.op=14\/i.op=15:=oM;obtain⟨op,D,A,B,E,n,b⟩:=i;simp only at this |-;rcases this with rfl|rfl|rfl|rfl|rfl|rfl|rfl|rfl|rfl|rfl|rfl|rfl|rfl<;>exact⟨rfl,dE⟩
theorem QR{op:Int}{args:List (List Int)}{n:Nat}(h:Eo (lF args) (args.length-1)=some n):(D3 op args).length=n/\∀j,j<n->CG (D3 op args) j=Kb op (Gz (lF args) (xF args) args.length j 0) (Gz (lF args) (xF args) args.length j 1) (Gz (lF args) (xF args) args.length j 2):=by
 unfold D3;rw[h];simp only;exact⟨sM,fun j hj=>Yy (α:=Int) _ _ _ hj⟩
theorem A7{p:Prop}(h:p):Hid p:=h


def DT(c:Cd)(f:Fr)(r:Nat):Prop:=(Aa c.regs (r:Int)).kind=3->(f.vecs r).length=lenOf c (Aa c.regs (r:Int)).par
theorem Ex{rs:List Ty}{l n:Int}{m:Ty}(h:Ah rs l n m=true)(h0:0<rs.length):0<=n/\n<(rs.length:Int):=by
 by_cases hl:l=0
 .unfold Ah at h;rw[if_pos hl]at h;simp only[beq_iff_eq]at h;omega
 .exact Ag h hl
theorem AP{rs:List Ty}{l n:Int}{m:Ty}(h:Ah rs l n m=true)(hl:l≠0):B7 l (Aa rs n) m=true:=by
 unfold Ah at h;rw[if_neg hl]at h;simp only[Bool.and_eq_true]at h;exact h.2
theorem YT{c:Cd}{i:Ad}{r:Rw}(h:AS c i r=true):Bh c i r.n (AC c.regs i r)=true:=by
 unfold AS at h;simp only[Bool.and_eq_true]at h;exact h.2.2.2.2
theorem Ok{s:Wk}{i:Ad}{r:Rw}(h:EQ s i r=true){n:Int}(hn:n∈Ae i r):n.toNat∈s.set:=by
 unfold EQ at h;have:=List.all_eq_true.1 h n hn;simpa using this
structure Dx(c:Cd)(f:Fr)(i:Ad):Prop where
 num:DC i.op=true->0<=i.d/\i.d<(c.regs.length:Int)/\(i.op≠1->0<=i.a/\i.a<(c.regs.length:Int))/\(i.op=16->0<=i.b/\i.b<(c.regs.length:Int))/\(Aa c.regs i.d).kind=1
 whole:Bj i.op=true->0<=i.d/\i.d<(c.regs.length:Int)/\(0<=i.a/\i.a<(c.regs.length:Int))/\(0<=i.b/\i.b<(c.regs.length:Int))/\(0<=i.c/\i.c<(c.regs.length:Int))/\(Aa c.regs i.d).kind=2/\(i.op=2->0<=i.n/\i.n<=2147483647)
 part:i.op=29\/i.op=30->P8 c i.d i.n
 out:i.op=31->P8 c i.a i.n/\(f.vecs i.a.toNat).length=lenOf c (Aa c.regs i.a).par
 load:i.op=32->0<=i.d/\i.d<(c.regs.length:Int)/\0<=i.n/\i.n<(c.slots.length:Int)/\Cv c.slots i.n=Aa c.regs i.d
 store:i.op=33->0<=i.a/\i.a<(c.regs.length:Int)/\0<=i.n/\i.n<(c.slots.length:Int)/\Cv c.slots i.n=Aa c.regs i.a/\DT c f i.a.toNat
 elem:Bq i.op=true->0<=i.d/\i.d<(c.regs.length:Int)/\(0<=i.a/\i.a<(c.regs.length:Int))/\∀r∈Ae i (A4 i.op),0<=r/\r<(c.regs.length:Int)/\DT c f r.toNat/\(Aa c.regs r=Aa c.regs i.d\/((Aa c.regs r).kind=1/\(Aa c.regs i.d).kind=3))
theorem LH{i:Ad}{r:Rw}(h:r.a≠0):i.a∈Ae i r:=by unfold Ae;simp[h]
theorem Rq{c:Cd}{f:Fr}{s:Wk}{i:Ad}(t:AG c s i=true)(hs:∀r∈s.set,DT c f r):Dx c f i:=by
 obtain⟨_,h2,_,h4⟩:=Ao t;have hd:=Cw h2;have ha:=BD h2;have hb:=CP h2;have hc:=CQ h2;have hn:=YT h2;have hr:=fun{n:Int} (hn:n∈Ae i (A4 i.op))=>hs _ (Ok h4 hn);obtain⟨op,D,A,B,Ec,nn,bt⟩:=i;simp only at *;refine⟨fun h=>?_,fun h=>?_,fun h=>?_,fun h=>?_,fun h=>?_,fun h=>?_,fun h=>?_⟩
 .unfold DC at h;simp only[Bool.or_eq_true,beq_iff_eq]at h;have hop:op=1\/op=16\/op=17\/op=19\/op=20:=oM;clear h;rcases hop with rfl|rfl|rfl|rfl|rfl
  all_goals
   have d:=Ag hd dE;have dm:=AP hd dE;have a1:=Ex ha oM;have b1:=Ex hb oM;exact⟨d.1,d.2,fun _=>a1,fun _=>b1,by simpa[B7,A4]using dm⟩
 .unfold Bj at h;simp only[Bool.or_eq_true,Bool.and_eq_true,beq_iff_eq,decide_eq_true_eq]at h;have hop:op=2\/op=18\/op=21\/op=22\/op=23\/op=24\/op=25\/op=26\/op=27\/op=28:=oM;clear h;rcases hop with rfl|rfl|rfl|rfl|rfl|rfl|rfl|rfl|rfl|rfl
  all_goals
   have d:=Ag hd dE;have dm:=AP hd dE;have a1:=Ex ha oM;have b1:=Ex hb oM;have c1:=Ex hc oM;refine⟨d.1,d.2,a1,b1,c1,by simpa[B7,A4]using dm,fun e=>?_⟩;simp[Bh,A4,EW,Dt]at hn;show 0<=nn/\nn<=2147483647;omega
 .rcases h with rfl|rfl
  all_goals
   have d:=Ag hd dE;have dm:=AP hd dE;refine⟨d.1,d.2,by simpa[B7,A4]using dm,?_⟩;simp[Bh,A4,EW,AC,ED]at hn;first|exact hn.2|(simpa using hn.2)
 .subst h;have d:=Ag ha dE;have dm:=AP ha dE;have k3:(Aa c.regs A).kind=3:=by simpa[B7,A4]using dm
  refine⟨⟨d.1,d.2,k3,?_⟩,?_⟩
  .simp[Bh,A4,EW,AC,ED]at hn;first|exact hn.2|(simpa using hn.2)
  .have:=hr (n:=A) (LH (r:=A4 31) dE);have e:((A.toNat:Nat):Int)=A:=oM;unfold DT at this;rw[e]at this;exact this k3
 .subst h;have d:=Ag hd dE;simp[Bh,A4,EW,AC,ED]at hn;have:=BU.1 hn.2.1;exact⟨d.1,d.2,this.1,this.2,hn.2.2⟩
 .subst h;have d:=Ag ha dE;simp[Bh,A4,EW,AC,ED]at hn;have:=BU.1 hn.2.1;exact⟨d.1,d.2,this.1,this.2,hn.2.2,hr (n:=A) (LH (r:=A4 33) dE)⟩
 .unfold Bq at h;simp only[Bool.and_eq_true,decide_eq_true_eq]at h;have hop:op=3\/op=4\/op=5\/op=6\/op=7\/op=8\/op=9\/op=10\/op=11\/op=12\/op=13\/op=14\/op=15:=oM;clear h;rcases hop with rfl|rfl|rfl|rfl|rfl|rfl|rfl|rfl|rfl|rfl|rfl|rfl|rfl
  all_goals
   have d:=Ag hd dE;have a1:=Ag ha dE;refine⟨d.1,d.2,a1,fun r hrr=>⟨?_,?_,hr hrr,?_⟩⟩
   all_goals
    have am:=AP ha dE;simp[Ae,A4]at hrr;first
     |(
      have bm:=AP hb dE;have b1:=Ag hb dE;have cm:=AP hc dE;have c1:=Ag hc dE;simp[B7,A4,AC,ED]at am bm cm
      rcases hrr with rfl|rfl|rfl<;>first|omega|(simpa using am)|(simpa using bm)|(simpa using cm))
     |(
      have bm:=AP hb dE;have b1:=Ag hb dE;simp[B7,A4,AC,ED]at am bm
      rcases hrr with rfl|rfl<;>first|omega|(simpa using am)|(simpa using bm))
     |(
      simp[B7,A4,AC,ED]at am;subst hrr
      first|omega|(simpa using am))
theorem PK(X:Nat->Int)(n:Nat)(hX:∀i,AH (X i)):AH (EP X n):=FT Mz (by unfold AH;decide) hX n
theorem DA{c:Cd}(hg:Good c){r:Int}(h0:0<=r)(h1:r<(c.regs.length:Int))(h3:(Aa c.regs r).kind=3):1<=lenOf c (Aa c.regs r).par/\B4 c (Aa c.regs r)=lenOf c (Aa c.regs r).par:=by
 obtain⟨r,rfl⟩:∃j:Nat,r=(j:Int):=⟨r.toNat,oM⟩
 have hr:r<c.regs.length:=oM;rw[Ea hr]at h3 |-;have hp:=BU.1 (hg.type (gD hr) h3);obtain⟨pp,hpp⟩:=gA (c.regs[r].par)
 refine⟨?_,by unfold B4;rw[if_pos h3]⟩;rw[hpp]at hp |-;obtain⟨p,rfl⟩:∃j:Nat,pp=(j:Int):=⟨pp.toNat,oM⟩
 obtain⟨_,e2,e3,_⟩:=JX hg (p:=p) oM;omega
theorem Ws{c:Cd}{f:Fr}(hg:Good c)(ok:KK c f){r:Int}(h0:0<=r)(h1:r<(c.regs.length:Int))(hs:DT c f r.toNat):P6 c (Aa c.regs r) (C5 c f r):=by
 have e:((r.toNat:Nat):Int)=r:=oM;unfold DT at hs;rw[e]at hs;have hty:(Aa c.regs r).kind=1\/(Aa c.regs r).kind=2\/(Aa c.regs r).kind=3:=by
  obtain⟨r,rfl⟩:∃j:Nat,r=(j:Int):=⟨r.toNat,oM⟩
  have hr:r<c.regs.length:=oM;rw[Ea hr];exact Zfo
 unfold C5 P6;rcases hty with h|h|h
 .rw[if_pos h];refine⟨by unfold B4;rw[if_neg oM,if_pos h];rfl,fun y hy=>?_,Int.le_refl _,by show(0:Int)<=2147483647;decide⟩;simp at hy;rw[hy];exact ok.nums _
 .rw[if_neg oM,if_pos h];exact⟨by unfold B4;rw[if_neg oM,if_neg oM];rfl,fun y hy=>by simp at hy,ok.whs _⟩
 .rw[if_neg oM,if_neg oM];refine⟨?_,ok.vecs _,Int.le_refl _,by show(0:Int)<=2147483647;decide⟩;rw[(DA hg h0 h1 h).2];exact hs h
theorem Yv{op:Int}{args:List (List Int)}(h:∀l∈args,∀y∈l,AH y):∀y∈D3 op args,AH y:=by
 have hX:∀i j,AH (xF args i j):=fun i j=>by
  exact Zem
 intro y hy;unfold D3 at hy;split at hy
 .simp only[List.mem_map]at hy;obtain⟨k,_,rfl⟩:=hy;exact Rc _ _ _ _ (Cp hX _ _ _) (Cp hX _ _ _) (Cp hX _ _ _)
 .cases hy
theorem Gi{c:Cd}{f:Fr}{i:Ad}(hg:Good c)(ok:KK c f)(he:Bq i.op=true)(nd:Dx c f i)(hk:(Aa c.regs i.d).kind≠2):
 1<=B4 c (Aa c.regs i.d)/\(∀r∈Ae i (A4 i.op),0<=r/\r<(c.regs.length:Int)/\((C5 c f r).pats.length=1\/(C5 c f r).pats.length=B4 c (Aa c.regs i.d))/\∀y∈(C5 c f r).pats,AH y)/\((Aa c.regs i.d).kind=1\/(Aa c.regs i.d).kind=3):=by
 obtain⟨d0,d1,_,hr⟩:=nd.elem he;have hty:(Aa c.regs i.d).kind=1\/(Aa c.regs i.d).kind=3:=by
  obtain⟨r,hrr⟩:∃j:Nat,i.d=(j:Int):=⟨i.d.toNat,oM⟩
  rw[hrr]at hk d1 |-;have hr:r<c.regs.length:=oM;rw[Ea hr]at hk |-;exact Zfo
 refine⟨?_,fun r hm=>?_,hty⟩
 .rcases hty with h|h
  .unfold B4;rw[if_neg oM,if_pos h];exact gF _
  .rw[(DA hg d0 d1 h).2];exact(DA hg d0 d1 h).1
 .obtain⟨r0,r1,hs,hm2⟩:=hr r hm;have hh:=Ws hg ok r0 r1 hs;refine⟨r0,r1,?_,hh.2.1⟩;rcases hm2 with e|⟨e,_⟩
  .right;rw[<-e];exact hh.1
  .left;rw[hh.1];unfold B4;rw[if_neg oM,if_pos e]
theorem Fa{c:Cd}{f:Fr}{i:Ad}(hg:Good c)(ok:KK c f)(he:Bq i.op=true)(nd:Dx c f i)(hk:(Aa c.regs i.d).kind≠2):
 ((D3 i.op (Br c f i)).length=1\/(D3 i.op (Br c f i)).length=B4 c (Aa c.regs i.d))/\∀y∈D3 i.op (Br c f i),AH y:=by
 obtain⟨h1,h2,_⟩:=Gi hg ok he nd hk;have hall:∀l∈Br c f i,(l.length=1\/l.length=B4 c (Aa c.regs i.d))/\∀y∈l,AH y:=by
  intro l hl;unfold Br at hl;simp only[List.mem_map]at hl;obtain⟨r,hr,rfl⟩:=hl;exact(h2 r hr).2.2
 have hne:(Br c f i).length≠0:=by
  unfold Br;rw[List.length_map,<-(Gf i he).1];exact(Gf i he).2
 obtain⟨n,hn,hn2⟩:=LD (l:=lF (Br c f i)) h1 ((Br c f i).length-1) (fun k hk=>by
  unfold lF;rw[Ia oM]
  exact(hall _ (gD _)).1)
 exact⟨by rw[(QR (op:=i.op) hn).1];exact hn2,Yv fun l hl=>(hall l hl).2⟩
theorem JN{l:List Int}(h:∀y∈l,AH y):AH (l.headD 0):=by
 cases l with
 |nil=>exact JM
 |cons y l=>exact h y sM
theorem st_ok{c:Cd}{f:Fr}(ok:KK c f){r:Int}{h:Hd}(hp:∀y∈h.pats,AH y)(hl:h.pats.length<=4096)(hw:0<=h.whole/\h.whole<=2147483647):KK c (Kt c f r h):=by
 unfold Kt;split
 .exact⟨Cr ok.nums (JN hp),ok.whs,ok.vecs,ok.vecsL,ok.slotsL,ok.slots⟩
 .split
  .exact⟨ok.nums,Cr (Q:=fun y:Int=>0<=y/\y<=2147483647) ok.whs hw,ok.vecs,ok.vecsL,ok.slotsL,ok.slots⟩
  .exact⟨ok.nums,ok.whs,Cr (Q:=fun l:List Int=>∀y∈l,AH y) ok.vecs hp,Cr (Q:=fun l:List Int=>l.length<=4096) ok.vecsL hl,ok.slotsL,ok.slots⟩
theorem XQ{c:Cd}{f:Fr}{r:Int}(hr:0<=r){h:Hd}(hl:(Aa c.regs r).kind=3->h.pats.length=lenOf c (Aa c.regs r).par){k:Nat}(hk:k≠r.toNat->DT c f k):DT c (Kt c f r h) k:=by
 intro h3;by_cases e:k=r.toNat
 .have e2:(k:Int)=r:=oM;rw[e2]at h3 |-;unfold Kt;rw[if_neg oM,if_neg oM];simp only;rw[e,Bx];exact hl h3
 .have:=hk e h3;unfold Kt;split
  .exact this
  .split
   .exact this
   .simp only;rw[By _ _ e];exact this
theorem Da{op:Int}(h:Al op=true):DC op=true\/Bj op=true\/op=29\/op=30\/op=31\/op=32\/op=33\/(34<=op/\op<=37)\/Bq op=true:=by
 unfold Al at h;unfold DC Bj Bq;simp only[Bool.and_eq_true,Bool.or_eq_true,decide_eq_true_eq,beq_iff_eq]at h |-;omega
theorem Va{op:Int}(h:Bq op=true):DC op=false/\Bj op=false/\op≠29/\op≠30/\op≠31/\op≠32/\op≠33/\¬ (34<=op/\op<=37):=by
 unfold Bq at h;simp only[Bool.and_eq_true,decide_eq_true_eq]at h;exact Zct
theorem Uy{op:Int}(h:Bj op=true):DC op=false/\op≠29/\op≠30/\op≠31/\op≠32/\op≠33/\¬ (34<=op/\op<=37):=by
 unfold Bj at h;simp only[Bool.or_eq_true,Bool.and_eq_true,beq_iff_eq,decide_eq_true_eq]at h;have:op=2\/op=18\/op=21\/op=22\/op=23\/op=24\/op=25\/op=26\/op=27\/op=28:=oM;rcases this with rfl|rfl|rfl|rfl|rfl|rfl|rfl|rfl|rfl|rfl<;>decide
section
variable {c : Cd} {G P : List (List Int)} {f : Fr} {i : Ad}
theorem Cc(h:DC i.op=true):D0 c G P f i={f with nums:=Fl f.nums i.d.toNat (O4 f i)}:=by unfold D0;rw[if_pos h]
theorem Bp(h:Bj i.op=true):D0 c G P f i={f with whs:=Fl f.whs i.d.toNat (ER f i)}:=by
 unfold D0;rw[(Uy h).1,if_neg dE,if_pos h]
theorem CH(h:i.op=29):D0 c G P f i={f with vecs:=Fl f.vecs i.d.toNat (BH c G i)}:=by
 unfold D0;rw[h,if_neg dE,if_neg dE,if_pos rfl]
theorem CI(h:i.op=30):D0 c G P f i={f with vecs:=Fl f.vecs i.d.toNat (BH c P i)}:=by
 unfold D0;rw[h,if_neg dE,if_neg dE,if_neg dE,if_pos rfl]
theorem D6(h:i.op=31):D0 c G P f i={f with outs:=W7 f.outs (Aa c.regs i.a).par.toNat (AI c (Aa c.regs i.a).par) i.n.toNat (f.vecs i.a.toNat)}:=by
 unfold D0;rw[h,if_neg dE,if_neg dE,if_neg dE,if_neg dE,if_pos rfl]
theorem CJ(h:i.op=32):D0 c G P f i=Kt c f i.d ((f.slots[i.n.toNat]?).getD ⟨[],0⟩):=by
 unfold D0;rw[h,if_neg dE,if_neg dE,if_neg dE,if_neg dE,if_neg dE,if_pos rfl]
theorem CK(h:i.op=33):D0 c G P f i={f with slots:=f.slots.set i.n.toNat (C5 c f i.a)}:=by
 unfold D0;rw[h,if_neg dE,if_neg dE,if_neg dE,if_neg dE,if_neg dE,if_neg dE,if_pos rfl]
theorem AM(h:34<=i.op/\i.op<=37):D0 c G P f i=f:=by
 have h0:DC i.op=false/\Bj i.op=false:=by
  have:i.op=34\/i.op=35\/i.op=36\/i.op=37:=oM;rcases this with e|e|e|e<;>rw[e]<;>decide
 unfold D0;rw[h0.1,h0.2,if_neg dE,if_neg dE,if_neg oM,if_neg oM,if_neg oM,if_neg oM,if_neg oM,if_pos h]
theorem Bt(h:Bq i.op=true):D0 c G P f i=EU c f i:=by
 obtain⟨h1,h2,h3,h4,h5,h6,h7,h8⟩:=Va h;unfold D0;rw[h1,h2,if_neg dE,if_neg dE,if_neg h3,if_neg h4,if_neg h5,if_neg h6,if_neg h7,if_neg h8]
end
theorem Zv{f:Fr}{c:Cd}(ok:KK c f){i:Ad}(hb:AH i.bits):AH (O4 f i):=by
 unfold O4;refine BE (YU _ _ (ok.nums _).1 (ok.nums _).2) (BE (Ve _) (BE (Za _ _ (CR (ok.vecs _))) (BE (PK _ _ (CR (ok.vecs _))) hb)))
theorem G3(b:Bool):0<=BG b/\BG b<=2147483647:=by cases b<;>decide
theorem Eb{p:Prop}[Decidable p]{x y:Int}(h:p->0<=x/\x<=2147483647)(k:¬p->0<=y/\y<=2147483647):0<=(if p then x else y)/\(if p then x else y)<=2147483647:=by
 split
 .rename_i e;exact h e
 .rename_i e;exact k e
theorem Y5{f:Fr}{c:Cd}(ok:KK c f){i:Ad}(hw:Bj i.op=true)(hn:i.op=2->0<=i.n/\i.n<=2147483647):0<=ER f i/\ER f i<=2147483647:=by
 have a:=ok.whs i.a.toNat;have b:=ok.whs i.b.toNat;have d:=ok.whs i.c.toNat;unfold Bj at hw;simp only[Bool.or_eq_true,Bool.and_eq_true,beq_iff_eq,decide_eq_true_eq]at hw;unfold ER;refine Eb (fun _=>G3 _) fun h1=>Eb (fun _=>by omega) fun h2=>Eb (fun _=>G3 _) fun h3=>Eb (fun _=>G3 _) fun h4=>Eb (fun _=>G3 _) fun h5=>Eb (fun _=>G3 _) fun h6=>Eb (fun _=>Eb (fun _=>d) fun _=>b) fun h7=>Eb (fun _=>by omega) fun h8=>Eb (fun _=>Eb (fun _=>by decide) fun _=>⟨Int.ediv_nonneg a.1 b.1,?_⟩) fun h9=>hn oM;have:=Int.ediv_le_self (f.whs i.b.toNat) a.1;omega
theorem do_ok{c:Cd}{G P:List (List Int)}{f:Fr}{i:Ad}(hg:Good c)(ok:KK c f)(hk:Al i.op=true)(hb:AH i.bits)(nd:Dx c f i)(fg:F5 c G)(fp:F5 c P):KK c (D0 c G P f i):=by
 have pl:∀L:List (List Int),F5 c L->(∀y∈BH c L i,AH y)/\(BH c L i).length<=4096:=fun L hL=>by
  refine⟨fun y hy=>?_,by unfold BH;simp only[List.length_map,List.length_range];exact hg.lenOf _⟩;unfold BH at hy;simp only[List.mem_map]at hy;obtain⟨k,_,rfl⟩:=hy;refine Dn _ (CR ?_ _);unfold EK;cases e:L[(Aa c.regs i.d).par.toNat]? with
  |none=>intro y hy;cases hy
  |some l=>exact hL.isP l (List.mem_of_getElem? e)
 rcases Da hk with h|h|h|h|h|h|h|h|h
 .rw[Cc h];exact⟨Cr ok.nums (Zv ok hb),ok.whs,ok.vecs,ok.vecsL,ok.slotsL,ok.slots⟩
 .rw[Bp h];exact⟨ok.nums,Cr (Q:=fun y:Int=>0<=y/\y<=2147483647) ok.whs (Y5 ok h (nd.whole h).2.2.2.2.2.2),ok.vecs,ok.vecsL,ok.slotsL,ok.slots⟩
 .rw[CH h];exact⟨ok.nums,ok.whs,Cr (Q:=fun l:List Int=>∀y∈l,AH y) ok.vecs (pl G fg).1,Cr (Q:=fun l:List Int=>l.length<=4096) ok.vecsL (pl G fg).2,ok.slotsL,ok.slots⟩
 .rw[CI h];exact⟨ok.nums,ok.whs,Cr (Q:=fun l:List Int=>∀y∈l,AH y) ok.vecs (pl P fp).1,Cr (Q:=fun l:List Int=>l.length<=4096) ok.vecsL (pl P fp).2,ok.slotsL,ok.slots⟩
 .rw[D6 h];exact⟨ok.nums,ok.whs,ok.vecs,ok.vecsL,ok.slotsL,ok.slots⟩
 .rw[CJ h];obtain⟨d0,d1,n0,n1,ht⟩:=nd.load h;have hn:i.n.toNat<c.slots.length:=oM;have hn2:i.n.toNat<f.slots.length:=by rw[ok.slotsL];exact hn
  have hh:=ok.slots i.n.toNat hn hn2;rw[gB hn2,Option.getD_some];exact st_ok ok hh.2.1 (by rw[hh.1];exact hg.width _) hh.2.2
 .rw[CK h];obtain⟨a0,a1,n0,n1,ht,hs⟩:=nd.store h;have hh:=Ws hg ok a0 a1 hs;refine⟨ok.nums,ok.whs,ok.vecs,ok.vecsL,by simp[ok.slotsL],fun j h1 h2=>?_⟩;simp only[List.getElem_set];split
  .rename_i e;subst e;have:Cv c.slots i.n=c.slots[i.n.toNat].ty:=by unfold Cv;rw[gB h1];rfl
   rw[<-this,ht];exact hh
  .exact ok.slots j h1 (by simpa using h2)
 .rw[AM h];exact ok
 .rw[Bt h];obtain⟨d0,d1,a1,_⟩:=nd.elem h;unfold EU;by_cases h2:(Aa c.regs i.d).kind=2
  .rw[if_pos h2];exact⟨ok.nums,Cr (Q:=fun y:Int=>0<=y/\y<=2147483647) ok.whs (ok.whs _),ok.vecs,ok.vecsL,ok.slotsL,ok.slots⟩
  .rw[if_neg h2];obtain⟨s1,s2⟩:=Fa hg ok h nd h2;have hw:=hg.width (Aa c.regs i.d);refine st_ok ok ?_ ?_ ⟨Int.le_refl _,by show(0:Int)<=2147483647;decide⟩
   .intro y hy;dsimp only at hy;split at hy
    .unfold DU at hy;rw[List.eq_of_mem_replicate hy];exact Dn _ (JN s2)
    .exact s2 y hy
   .dsimp only;split
    .unfold DU;rw[List.length_replicate];exact hw
    .omega
theorem V4{c:Cd}{G P:List (List Int)}{f:Fr}{i:Ad}(hg:Good c)(ok:KK c f)(hk:Al i.op=true)(nd:Dx c f i){r:Nat}(hr:((A4 i.op).d=0\/r≠i.d.toNat)->DT c f r):DT c (D0 c G P f i) r:=by
 have pl:∀L:List (List Int),(BH c L i).length=lenOf c (Aa c.regs i.d).par:=fun L=>by unfold BH;simp
 have other:∀ (f':Fr),f'.vecs=f.vecs->((A4 i.op).d≠0->(Aa c.regs i.d).kind≠3/\0<=i.d)->DT c f' r:=fun f' hv hk3 h3=>by
  rw[hv];refine hr ?_ h3;by_cases e:(A4 i.op).d=0
  .exact .inl e
  .refine .inr fun e2=>(hk3 e).1 ?_;have:=(hk3 e).2;have e3:(r:Int)=i.d:=oM;rw[e3]at h3;exact h3
 have vec:∀L:List (List Int),0<=i.d->(A4 i.op).d≠0->DT c {f with vecs:=Fl f.vecs i.d.toNat (BH c L i)} r:=fun L h0 hd h3=>by
  by_cases e:r=i.d.toNat
  .have e3:(r:Int)=i.d:=oM;rw[e3];show(Fl f.vecs i.d.toNat (BH c L i) r).length=_;rw[e,Bx,pl]
  .show(Fl f.vecs i.d.toNat (BH c L i) r).length=_;rw[By _ _ e];exact hr (.inr e) h3
 rcases Da hk with h|h|h|h|h|h|h|h|h
 .rw[Cc h];exact other _ rfl fun _=>⟨by rw[(nd.num h).2.2.2.2];decide,(nd.num h).1⟩
 .rw[Bp h];exact other _ rfl fun _=>⟨by rw[(nd.whole h).2.2.2.2.2.1];decide,(nd.whole h).1⟩
 .rw[CH h];exact vec G (nd.part (.inl h)).r0 (by rw[h];decide)
 .rw[CI h];exact vec P (nd.part (.inr h)).r0 (by rw[h];decide)
 .rw[D6 h];exact other _ rfl fun e=>absurd (by rw[h];decide) e
 .rw[CJ h];obtain⟨d0,d1,n0,n1,ht⟩:=nd.load h;have hn:i.n.toNat<c.slots.length:=oM;have hn2:i.n.toNat<f.slots.length:=by rw[ok.slotsL];exact hn
  have hh:=ok.slots i.n.toNat hn hn2;rw[gB hn2,Option.getD_some];refine XQ d0 (fun h3=>?_) fun e=>hr (.inr e);have:Cv c.slots i.n=c.slots[i.n.toNat].ty:=by unfold Cv;rw[gB hn];rfl
  rw[hh.1,<-this,ht];exact(DA hg d0 d1 h3).2
 .rw[CK h];exact other _ rfl fun e=>absurd (by rw[h];decide) e
 .rw[AM h];refine hr (.inl ?_);have:i.op=34\/i.op=35\/i.op=36\/i.op=37:=oM;rcases this with e|e|e|e<;>rw[e]<;>decide
 .rw[Bt h];obtain⟨d0,d1,a1,_⟩:=nd.elem h;unfold EU;by_cases h2:(Aa c.regs i.d).kind=2
  .rw[if_pos h2];exact other _ rfl fun _=>⟨by rw[h2];decide,d0⟩
  .rw[if_neg h2];obtain⟨s1,s2⟩:=Fa hg ok h nd h2;refine XQ d0 (fun h3=>?_) fun e=>hr (.inr e);have hw:=(DA hg d0 d1 h3)
   dsimp only;rw[hw.2]at s1 |-;split
   .unfold DU;rw[List.length_replicate];exact hw.2
   .omega
def Pa(c:Cd)(s:Wk)(f:Fr)(k:Nat):Prop:=
 (k=0/\∀r∈s.set,DT c f r)\/(∃pre b rest,s.opens=pre++b::rest/\b.loop=false/\k=(pre.filter fun x=> !x.loop).length+1/\∀r∈s.set.take b.ahead,DT c f r)
theorem Q7:∀ {pre:List Bk} {b:Bk} {rest:List Bk} {n:Nat},okO n (pre++b::rest)->b.ahead<=n/\∀p∈pre,b.ahead<=p.ahead
 |[],b,rest,n,h=>⟨h.1,fun p hp=>by cases hp⟩
 |q::pre,b,rest,n,h=>by
  obtain⟨h1,h2⟩:=Q7 h.2;refine⟨gH h1 h.1,fun p hp=>?_⟩;rcases List.mem_cons.1 hp with e|e
  .rw[e];exact h1
  .exact h2 p e
theorem GN{s:Wk}{i:Ad}{r:Rw}(h:r.d=0):Cf s i r=s:=by unfold Cf;rw[if_neg (fun e=>e.1 h)]
theorem QH{s:Wk}{i:Ad}(h1:i.op≠34)(h2:i.op≠35)(h3:i.op≠36)(h4:i.op≠37):Bv s i=s:=by
 unfold Bv;rw[if_neg oM,if_neg oM]
theorem Rm{s:Wk}{i:Ad}{r:Rw}{x:Nat}(h:x∈(Cf s i r).set):x∈s.set\/(r.d≠0/\x=i.d.toNat):=by
 unfold Cf at h;split at h
 .rename_i e;rcases List.mem_append.1 h with h|h
  .exact .inl h
  .simp at h;exact .inr ⟨e.1,h⟩
 .exact .inl h
theorem Nm{s:Wk}{i:Ad}{r:Rw}{n:Nat}(h:n<=s.set.length):(Cf s i r).set.take n=s.set.take n/\(Cf s i r).opens=s.opens:=by
 unfold Cf;split
 .exact⟨List.take_append_of_le_length h,rfl⟩
 .exact⟨rfl,rfl⟩
theorem Nc{s:Wk}{i:Ad}(h:i.op=34):Aj s i=⟨s.set,⟨false,i.n,s.set.length⟩::s.opens⟩:=by
 unfold Aj Dd;rw[GN (by rw[h];rfl)];unfold Bv;rw[if_pos (.inl h),h];rfl
theorem Nh{s:Wk}{i:Ad}(h:i.op=36):Aj s i=⟨s.set,⟨true,i.n,s.set.length⟩::s.opens⟩:=by
 unfold Aj Dd;rw[GN (by rw[h];rfl)];unfold Bv;rw[if_pos (.inr h),h];rfl
theorem ID{s:Wk}{i:Ad}(h:i.op=35\/i.op=37):Aj s i=AQ s:=by
 unfold Aj Dd;rw[GN Zhk];unfold Bv;rw[if_neg oM,if_pos h]
theorem Fy{s:Wk}{i:Ad}(h1:i.op≠34)(h2:i.op≠35)(h3:i.op≠36)(h4:i.op≠37):Aj s i=Cf s i (A4 i.op):=by
 unfold Aj Dd;rw[QH h1 h2 h3 h4]
theorem LG{s:Wk}{r:Nat}(h:r∈(AQ s).set):r∈s.set:=by
 unfold AQ at h;split at h
 .dsimp only at h;split at h
  .exact h
  .exact List.mem_of_mem_take h
 .exact h
theorem Rr{c:Cd}{G P:List (List Int)}{s:Wk}{f:Fr}{k:Nat}{i:Ad}(hg:Good c)(oks:E5 c.regs.length s)(t:AG c s i=true)(ok:KK c f)(hb:AH i.bits)(fg:F5 c G)(fp:F5 c P)(sk:Pa c s f k):
 KK c (AK c G P (f,k) i).1/\Pa c (Aj s i) (AK c G P (f,k) i).1 (AK c G P (f,k) i).2:=by
 obtain⟨hkn,_,hst,_⟩:=Ao t;rcases sk with⟨rfl,hs⟩|⟨pre,b,rest,ho,hbl,rfl,hs⟩
 .have nd:=Rq t hs;have hdo:KK c (D0 c G P f i):=do_ok hg ok hkn hb nd fg fp;by_cases h34:i.op=34
  .rw[Nc h34];by_cases hz:f.whs i.a.toNat=0
   .have e:AK c G P (f,0) i=(f,1):=by
     unfold AK;rw[if_neg oM,if_pos ⟨h34,.inr hz⟩]
    rw[e];refine⟨ok,.inr ⟨[],⟨false,i.n,s.set.length⟩,s.opens,rfl,rfl,rfl,fun r hr=>hs r ?_⟩⟩;exact List.mem_of_mem_take hr
   .have e:AK c G P (f,0) i=(f,0):=by
     unfold AK;rw[if_neg oM,if_neg (by simp[hz]),if_pos rfl,AM oM]
    rw[e];exact⟨ok,.inl ⟨rfl,hs⟩⟩
  .have e:AK c G P (f,0) i=(D0 c G P f i,0):=by
    unfold AK;rw[if_neg oM,if_neg oM,if_pos rfl]
   rw[e];refine⟨hdo,.inl ⟨rfl,fun r hr=>?_⟩⟩;by_cases h35:i.op=35\/i.op=37
   .rw[ID h35]at hr;rw[AM oM];exact hs r (LG hr)
   .by_cases h36:i.op=36
    .rw[Nh h36]at hr;rw[AM oM];exact hs r hr
    .rw[Fy h34 oM h36 oM]at hr;refine V4 hg ok hkn nd fun hr2=>?_;rcases Rm hr with h|⟨h,h'⟩
     .exact hs r h
     .rcases hr2 with q|q
      .exact absurd q h
      .exact absurd h' q
 .obtain⟨hah,hpre⟩:=Q7 (by have:=oks.opens;rw[ho]at this;exact this);obtain⟨K,hK⟩:=gA ((pre.filter fun x=> !x.loop).length)
  rw[hK];by_cases h34:i.op=34
  .have e:AK c G P (f,K+1) i=(f,K+2):=by
    unfold AK;rw[if_neg oM,if_pos ⟨h34,.inl (by show 0<K+1;omega)⟩]
   rw[e,Nc h34];refine⟨ok,.inr ⟨⟨false,i.n,s.set.length⟩::pre,b,rest,by rw[ho];rfl,hbl,?_,hs⟩⟩;rw[List.filter_cons_of_pos rfl,List.length_cons,hK]
  .by_cases h35:i.op=35
   .have e:AK c G P (f,K+1) i=(f,K):=by
     unfold AK;rw[if_pos ⟨by show 0<K+1;omega,h35⟩];rfl
    rw[e,ID (.inl h35)];refine⟨ok,?_⟩;have hnl:AD s=false:=by
     exact Zfq
    unfold AD at hnl;unfold AQ;rw[ho]at hnl |-;cases pre with
    |nil=>
     simp only[List.nil_append]at hnl |-;simp at hK;refine .inl ⟨hK.symm,fun r hr=>hs r ?_⟩;rw[hbl]at hr;simpa using hr
    |cons p pre=>
     simp only[List.cons_append]at hnl |-;have hp:=hpre p sM;refine .inr ⟨pre,b,rest,rfl,hbl,?_,fun r hr=>hs r ?_⟩
     .rw[List.filter_cons_of_pos (by rw[hnl];rfl),List.length_cons]at hK;omega
     .rw[hnl]at hr;simp only[Bool.false_eq_true,if_false,List.take_take]at hr;rw[Nat.min_eq_left hp]at hr;exact hr
   .have e:AK c G P (f,K+1) i=(f,K+1):=by
     unfold AK;rw[if_neg oM,if_neg oM,if_neg (by show¬ (K+1=0);omega)]
    rw[e];refine⟨ok,?_⟩;by_cases h36:i.op=36
    .rw[Nh h36];refine .inr ⟨⟨true,i.n,s.set.length⟩::pre,b,rest,by rw[ho];rfl,hbl,?_,hs⟩;rw[List.filter_cons_of_neg sM,hK]
    .by_cases h37:i.op=37
     .rw[ID (.inr h37)];have hnl:AD s=true:=by
       unfold Az at hst;rw[if_neg oM,if_neg oM,if_pos h37]at hst;exact hst
      unfold AD at hnl;unfold AQ;rw[ho]at hnl |-;cases pre with
      |nil=>
       simp only[List.nil_append]at hnl;rw[hbl]at hnl;cases hnl
      |cons p pre=>
       simp only[List.cons_append]at hnl |-;refine .inr ⟨pre,b,rest,rfl,hbl,?_,fun r hr=>hs r ?_⟩
       .rw[List.filter_cons_of_neg (by rw[hnl];decide)]at hK;omega
       .rw[hnl]at hr;simpa using hr
     .rw[Fy h34 h35 h36 h37];obtain⟨h1,h2⟩:=Nm (i:=i) (r:=A4 i.op) hah;exact .inr ⟨pre,b,rest,by rw[h2];exact ho,hbl,by rw[hK],fun r hr=>hs r (by rw[h1]at hr;exact hr)⟩
theorem NP(c:Cd)(G P:List (List Int))(s:Fr×Nat)(l:List Ad){j:Nat}(hj:j<l.length):UG c G P s (l.take (j+1))=AK c G P (UG c G P s (l.take j)) l[j]:=by
 unfold UG;exact Zfn
theorem VK(c:Cd)(G P:List (List Int))(f:Fr)(K:Nat){i:Ad}(h:i.op=35):AK c G P (f,K+1) i=(f,K):=by
 unfold AK;rw[if_pos ⟨by show 0<K+1;omega,h⟩];rfl
theorem MO(c:Cd)(G P:List (List Int))(f:Fr)(K:Nat){i:Ad}(h:i.op=34)(hz:0<K\/f.whs i.a.toNat=0):AK c G P (f,K) i=(f,K+1):=by
 unfold AK;rw[if_neg oM,if_pos ⟨h,hz⟩]
theorem MP(c:Cd)(G P:List (List Int))(f:Fr){i:Ad}(h:¬ (i.op=34/\f.whs i.a.toNat=0)):AK c G P (f,0) i=(D0 c G P f i,0):=by
 unfold AK;rw[if_neg (fun e=>absurd e.1 (by show¬0<0;omega)),if_neg (fun e=>h ⟨e.1,e.2.resolve_left (by show¬0<0;omega)⟩),if_pos rfl]
theorem VM(c:Cd)(G P:List (List Int))(f:Fr)(K:Nat){i:Ad}(h1:i.op≠34)(h2:i.op≠35):AK c G P (f,K+1) i=(f,K+1):=by
 unfold AK;rw[if_neg (fun e=>h2 e.2),if_neg (fun e=>h1 e.1),if_neg (by show¬ (K+1=0);omega)]
theorem G4{B:Nat}{V:World}{e t:TypeId}{z:Value}{sz by':Nat}(ht:prog.underlying t=some (.slice e))(hi:(prog.info? e).map (fun i=>(i.zero,i.size,i.bytes))=some (some z,sz,by'))(hzs:z.cells.size=sz)(hsz:0<sz){p:Option Addr}{n q:Nat}{xs:List Value}(h:V.ownsRow B e sz (.slice p n q) n xs)(hB:B<=V.heap.size)
 (cs:Array Value) (hcs:cs.size=sz) (h1:∀u∈cs.toList,u.oneCell'=true) (hn:n+1<=maxLen) (hb:(n+1)*by'<=140737488355328) (ty:TypeId):
 ∃g c' w',(Builtin.append_ #[t,t] ty #[.slice p n q,.slice (some ⟨V.heap.size,0,none⟩) 1 1]).run prog (V.alloc (.cells cs e))=.ok (.slice (some ⟨g,0,none⟩) (n+1) c') w'/\Below B V w'/\w'.ownsRow B e sz (.slice (some ⟨g,0,none⟩) (n+1) c') (n+1) (xs++cs.toList)/\(∀b,b<V.heap.size->(Value.slice p n q).ownBlock≠some b->w'.heap[b]? =V.heap[b]?)/\((Value.slice p n q).ownBlock=some g\/V.heap.size<g):=by
 obtain⟨i0,hi0,hz0,hz1,hz2⟩:=info_parts hi;have hb0:Below V.heap.size V (V.alloc (.cells cs e)):=A0 _ _;have hs:(V.alloc (.cells cs e)).heap.size=V.heap.size+1:=sM;have h0:=Ak h hb0;obtain⟨g,cap,w3,hr,hown,hgrow,hat,hlt⟩:=run_append_lies (P:=prog) (V.alloc (.cells cs e)) t ty B e i0 _ sz by' ht hi0 hz0 hz1 hz2 hzs hsz (.slice p n q) n xs h0 ⟨V.heap.size,0,none⟩ 1 1 cs.toList (by simp[hcs])
  (World.news_of_block (cs:=cs) (t:=e) (fr:=(0,0)) (heap_alloc_new V _)) h1 dE hn hb oM _ rfl
 exact Zdx
section
variable {c : Cd} {G P : List (List Int)} {f f' : Fr} {i i' : Ad}
theorem Fe(h:AS c i (A4 i.op)=true)(l:Int)(e:(A4 i.op).a=l)(h1:1<=l)(h2:l<=3):(Aa c.regs i.a).kind=l:=by
 have:=AP (BD h) oM;exact Zcy
theorem VA(h:AS c i (A4 i.op)=true)(l:Int)(e:(A4 i.op).b=l)(h1:1<=l)(h2:l<=3):(Aa c.regs i.b).kind=l:=by
 have:=AP (CP h) oM;exact Zcy
theorem kind_c(h:AS c i (A4 i.op)=true)(l:Int)(e:(A4 i.op).c=l)(h1:1<=l)(h2:l<=3):(Aa c.regs i.c).kind=l:=by
 have:=AP (CQ h) oM;exact Zcy
theorem MD(h:AS c i (A4 i.op)=true)(l:Int)(e:(A4 i.op).d=l)(h1:1<=l)(h2:l<=3):(Aa c.regs i.d).kind=l:=by
 have:=AP (Cw h) oM;exact Zcy
theorem F4(c:Cd)(f:Fr)(r:Int)(h:Hd):(Kt c f r h).slots=f.slots/\(Kt c f r h).outs=f.outs:=by
 unfold Kt;split
 .exact⟨rfl,rfl⟩
 .split<;>exact⟨rfl,rfl⟩
theorem LX(c:Cd)(f:Fr){r d:Int}(h:Hd)(e:r.toNat≠d.toNat):C5 c (Kt c f d h) r=C5 c f r:=by
 unfold Kt;split
 .unfold C5;simp only[By _ _ e]
 .split
  .unfold C5;simp only[By _ _ e]
  .unfold C5;simp only[By _ _ e]
theorem F9(c:Cd)(f:Fr)(i:Ad):(EU c f i).slots=f.slots/\(EU c f i).outs=f.outs:=by
 unfold EU;split
 .exact⟨rfl,rfl⟩
 .exact F4 _ _ _ _
theorem FP(hk:Al i.op=true){r:Int}(hr:Af i=true->r.toNat≠i.d.toNat):C5 c (D0 c G P f i) r=C5 c f r:=by
 have sb:∀q:Int,i.op=q->(A4 q).d≠0->Af i=true:=fun q e h=>by unfold Af;rw[e];simpa using h
 rcases Da hk with o|o|o|o|o|o|o|o|o
 .have s:Af i=true:=by
   unfold DC at o;simp only[Bool.or_eq_true,beq_iff_eq]at o;rcases(show i.op=1\/i.op=16\/i.op=17\/i.op=19\/i.op=20 by omega)with q|q|q|q|q<;>exact sb _ q dE
  rw[Cc o];unfold C5;simp only[By _ _ (hr s)]
 .have s:Af i=true:=by
   unfold Bj at o;simp only[Bool.or_eq_true,beq_iff_eq,Bool.and_eq_true,decide_eq_true_eq]at o;rcases(show i.op=2\/i.op=18\/i.op=21\/i.op=22\/i.op=23\/i.op=24\/i.op=25\/i.op=26\/i.op=27\/i.op=28 by omega)with q|q|q|q|q|q|q|q|q|q<;>exact sb _ q dE
  rw[Bp o];unfold C5;simp only[By _ _ (hr s)]
 .rw[CH o];unfold C5;simp only[By _ _ (hr (sb _ o dE))]
 .rw[CI o];unfold C5;simp only[By _ _ (hr (sb _ o dE))]
 .rw[D6 o];rfl
 .rw[CJ o];exact LX c f _ (hr (sb _ o dE))
 .rw[CK o];rfl
 .rw[AM o]
 .have s:Af i=true:=by
   unfold Bq at o;simp only[Bool.and_eq_true,decide_eq_true_eq]at o;rcases(show i.op=3\/i.op=4\/i.op=5\/i.op=6\/i.op=7\/i.op=8\/i.op=9\/i.op=10\/i.op=11\/i.op=12\/i.op=13\/i.op=14\/i.op=15 by omega)with q|q|q|q|q|q|q|q|q|q|q|q|q<;>exact sb _ q dE
  rw[Bt o];unfold EU;split
  .unfold C5;simp only[By _ _ (hr s)]
  .exact LX c f _ (hr s)
end
def Ju(c c':Cd)(f f':Fr)(r r':Int):Prop:=C5 c' f' r'=C5 c f r/\Aa c'.regs r'=Aa c.regs r
section
variable {c c' : Cd} {G P : List (List Int)} {f f' : Fr} {i i' : Ad}
theorem Ju.num{r r':Int}(h:Ju c c' f f' r r')(k:(Aa c.regs r).kind=1):f'.nums r'.toNat=f.nums r.toNat:=by
 obtain⟨h1,h2⟩:=h;unfold C5 at h1;rw[h2,if_pos k,if_pos k]at h1;simpa using h1
theorem Ju.whs{r r':Int}(h:Ju c c' f f' r r')(k:(Aa c.regs r).kind=2):f'.whs r'.toNat=f.whs r.toNat:=by
 obtain⟨h1,h2⟩:=h;unfold C5 at h1;rw[h2,if_neg oM,if_pos k,if_neg oM,if_pos k]at h1;simpa using h1
theorem Ju.vec{r r':Int}(h:Ju c c' f f' r r')(k:(Aa c.regs r).kind=3):f'.vecs r'.toNat=f.vecs r.toNat:=by
 obtain⟨h1,h2⟩:=h;unfold C5 at h1;rw[h2,if_neg oM,if_neg oM,if_neg oM,if_neg oM]at h1;simpa using h1
structure UK(c c':Cd)(f f':Fr)(i i':Ad):Prop where
 op:i'.op=i.op
 d:(A4 i.op).d≠0->Aa c'.regs i'.d=Aa c.regs i.d
 n:i.op≠32->i.op≠33->i'.n=i.n
 bits:i'.bits=i.bits
 a:(A4 i.op).a≠0->Ju c c' f f' i.a i'.a
 b:(A4 i.op).b≠0->Ju c c' f f' i.b i'.b
 c:(A4 i.op).c≠0->Ju c c' f f' i.c i'.c
theorem RG(c c':Cd)(f f':Fr){r r':Int}(h:Hd)(e:Aa c'.regs r'=Aa c.regs r):C5 c' (Kt c' f' r' h) r'=C5 c (Kt c f r h) r:=by
 unfold C5 Kt;rw[e];by_cases k1:(Aa c.regs r).kind=1
 .simp only[k1,if_true,Bx]
 .by_cases k2:(Aa c.regs r).kind=2
  .simp only[if_neg k1,k2,if_true,Bx];simp[Bx]
  .simp only[if_neg k1,if_neg k2,Bx]
theorem VQ(h:AS c i (A4 i.op)=true)(e:UK c c' f f' i i')(hn:DC i.op=true):O4 f' i'=O4 f i:=by
 unfold DC at hn;simp only[Bool.or_eq_true,beq_iff_eq]at hn;unfold O4;rw[e.op,e.bits];rcases(show i.op=1\/i.op=16\/i.op=17\/i.op=19\/i.op=20 by omega)with o|o|o|o|o
 .simp[o]
 .have r:A4 i.op=⟨1,1,2,0,0⟩:=by rw[o];decide
  simp only[o,if_true];rw[(e.a Zhy).num (Fe h 1 (by rw[r]) dE dE),(e.b Zhy).whs (VA h 2 (by rw[r]) dE dE)]
 .have r:A4 i.op=⟨1,2,0,0,0⟩:=by rw[o];decide
  rw[if_neg oM,if_pos o,if_neg oM,if_pos o,(e.a Zhy).whs (Fe h 2 (by rw[r]) dE dE)]
 .have r:A4 i.op=⟨1,3,0,0,0⟩:=by rw[o];decide
  rw[if_neg oM,if_neg oM,if_pos o,if_neg oM,if_neg oM,if_pos o,(e.a Zhy).vec (Fe h 3 (by rw[r]) dE dE)]
 .have r:A4 i.op=⟨1,3,0,0,0⟩:=by rw[o];decide
  rw[if_neg oM,if_neg oM,if_neg oM,if_pos o,if_neg oM,if_neg oM,if_neg oM,if_pos o,(e.a Zhy).vec (Fe h 3 (by rw[r]) dE dE)]
theorem QI(h:AS c i (A4 i.op)=true)(e:UK c c' f f' i i')(hn:Bj i.op=true):ER f' i'=ER f i:=by
 unfold Bj at hn;simp only[Bool.or_eq_true,beq_iff_eq,Bool.and_eq_true,decide_eq_true_eq]at hn;have ka:∀l,(A4 i.op).a=l->1<=l->l<=3->(Aa c.regs i.a).kind=l:=fun l=>Fe h l;have wa:(A4 i.op).a=2->f'.whs i'.a.toNat=f.whs i.a.toNat:=fun q=>(e.a (by rw[q];decide)).whs (Fe h 2 q dE dE);have wb:(A4 i.op).b=2->f'.whs i'.b.toNat=f.whs i.b.toNat:=fun q=>(e.b (by rw[q];decide)).whs (VA h 2 q dE dE);have wc:(A4 i.op).c=2->f'.whs i'.c.toNat=f.whs i.c.toNat:=fun q=>(e.c (by rw[q];decide)).whs (kind_c h 2 q dE dE);unfold ER;rw[e.op,e.n oM oM];rcases(show i.op=2\/i.op=18\/i.op=21\/i.op=22\/i.op=23\/i.op=24\/i.op=25\/i.op=26\/i.op=27\/i.op=28 by omega)with o|o|o|o|o|o|o|o|o|o
 .simp[o]
 .have q:(A4 i.op).a=1:=by rw[o];decide
  have q2:=(e.a (by rw[q];decide)).num (Fe h 1 q dE dE);simp only[o,if_true];rw[q2]
 .simp[o,wa Yd]
 .exact Zea
 .exact Zea
 .exact Zea
 .simp[o,wa Yd]
 .simp[o,wa Yd,wb Yd,wc Yd]
 .exact Zea
 .exact Zea
theorem Sz(e:UK c c' f f' i i'):Br c' f' i'=Br c f i:=by
 unfold Br Ae;rw[e.op];by_cases ha:(A4 i.op).a=0<;>by_cases hb:(A4 i.op).b=0<;>by_cases hc:(A4 i.op).c=0<;>simp only[ha,hb,hc,if_true,if_false,List.nil_append,List.map_append,List.map_cons,List.map_nil]
 all_goals(
  try rw[(e.a ha).1]
  try rw[(e.b hb).1]
  try rw[(e.c hc).1])
theorem YM(hsg:c'.sign=c.sign)(h:AS c i (A4 i.op)=true)(hk:Al i.op=true)(e:UK c c' f f' i i')(hsl:i.op=32->f'.slots[i'.n.toNat]? =f.slots[i.n.toNat]?)(hou:f'.outs=f.outs):
 (i.op≠33->(D0 c' G P f' i').slots=f'.slots/\(D0 c G P f i).slots=f.slots)/\(i.op=33->(D0 c' G P f' i').slots=f'.slots.set i'.n.toNat (C5 c f i.a)/\(D0 c G P f i).slots=f.slots.set i.n.toNat (C5 c f i.a))/\(D0 c' G P f' i').outs=(D0 c G P f i).outs/\(Af i=true->C5 c' (D0 c' G P f' i') i'.d=C5 c (D0 c G P f i) i.d):=by
 have hw:∀t,B4 c' t=B4 c t:=fun t=>by unfold B4 lenOf;rw[hsg]
 have hfl:∀t x,DU c' t x=DU c t x:=fun t x=>by unfold DU;rw[hw]
 have hle:∀p,lenOf c' p=lenOf c p:=fun p=>by unfold lenOf;rw[hsg]
 have hap:∀p,AI c' p=AI c p:=fun p=>by unfold AI;rw[hsg]
 have eo:=e.op;rcases Da hk with o|o|o|o|o|o|o|o|o
 .have hd:(A4 i.op).d=1:=by
   unfold DC at o;simp only[Bool.or_eq_true,beq_iff_eq]at o;rcases(show i.op=1\/i.op=16\/i.op=17\/i.op=19\/i.op=20 by omega)with q|q|q|q|q<;>(rw[q];decide)
  have k:=MD h 1 hd dE dE;have ed:=e.d (by rw[hd];decide);rw[Cc o,Cc (by rw[eo];exact o)];refine⟨fun _=>⟨rfl,rfl⟩,fun q33=>?_,hou,fun _=>?_⟩
  .exfalso;unfold DC at o;simp only[Bool.or_eq_true,beq_iff_eq]at o;omega
  unfold C5;rw[ed,if_pos k,if_pos k];simp only[Bx,VQ h e o]
 .have hd:(A4 i.op).d=2:=by
   unfold Bj at o;simp only[Bool.or_eq_true,beq_iff_eq,Bool.and_eq_true,decide_eq_true_eq]at o;rcases(show i.op=2\/i.op=18\/i.op=21\/i.op=22\/i.op=23\/i.op=24\/i.op=25\/i.op=26\/i.op=27\/i.op=28 by omega)with q|q|q|q|q|q|q|q|q|q<;>(rw[q];decide)
  have k:=MD h 2 hd dE dE;have ed:=e.d (by rw[hd];decide);rw[Bp o,Bp (by rw[eo];exact o)];refine⟨fun _=>⟨rfl,rfl⟩,fun q33=>?_,hou,fun _=>?_⟩
  .exfalso;unfold Bj at o;simp only[Bool.or_eq_true,beq_iff_eq,Bool.and_eq_true,decide_eq_true_eq]at o;omega
  unfold C5;rw[ed,if_neg oM,if_pos k,if_neg oM,if_pos k];simp only[Bx,QI h e o]
 .have k:=MD h 3 Yd dE dE;have ed:=e.d Yd;have hp:BH c' G i'=BH c G i:=by unfold BH;rw[ed,e.n oM oM,hle,hap]
  rw[CH o,CH (eo.trans o)];exact Zfd
 .have k:=MD h 3 Yd dE dE;have ed:=e.d Yd;have hp:BH c' P i'=BH c P i:=by unfold BH;rw[ed,e.n oM oM,hle,hap]
  rw[CI o,CI (eo.trans o)];exact Zfd
 .have ra:(A4 i.op).a=3:=by rw[o];decide
  have q:=e.a (by rw[ra];decide);rw[D6 o,D6 (eo.trans o)];refine⟨fun _=>⟨rfl,rfl⟩,fun q33=>oM,?_,fun s=>?_⟩
  .simp only;rw[q.2,q.vec (Fe h 3 ra dE dE),hou,e.n oM oM,hap]
  .exfalso;unfold Af at s;rw[o]at s;exact absurd s dE
 .have ed:=e.d Yd;rw[CJ o,CJ (eo.trans o)];obtain⟨s1,s2⟩:=F4 c f i.d ((f.slots[i.n.toNat]?).getD ⟨[],0⟩);obtain⟨s3,s4⟩:=F4 c' f' i'.d ((f'.slots[i'.n.toNat]?).getD ⟨[],0⟩);refine⟨fun _=>⟨s3,s1⟩,fun q33=>oM,by rw[s2,s4,hou],fun _=>?_⟩;rw[hsl o];exact RG c c' f f' _ ed
 .have ra:(A4 i.op).a=6:=by rw[o];decide
  have q:=e.a (by rw[ra];decide);rw[CK o,CK (eo.trans o)];refine⟨fun q33=>absurd o q33,fun _=>⟨?_,rfl⟩,hou,fun s=>?_⟩
  .simp only;rw[q.1]
  .exfalso;unfold Af at s;rw[o]at s;exact absurd s dE
 .rw[AM o,AM (by rw[eo];exact o)];refine⟨fun _=>⟨rfl,rfl⟩,fun q33=>oM,hou,fun s=>?_⟩;obtain⟨a1,a2,a3,a4⟩:=Na s;omega
 .have hd0:(A4 i.op).d≠0:=by
   exact Zdk
  have ed:=e.d hd0;rw[Bt o,Bt (by rw[eo];exact o)];obtain⟨s1,s2⟩:=F9 c f i;obtain⟨s3,s4⟩:=F9 c' f' i';refine⟨fun _=>⟨s3,s1⟩,fun q33=>(by unfold Bq at o;simp only[Bool.and_eq_true,decide_eq_true_eq]at o;omega),by rw[s2,s4,hou],fun _=>?_⟩;unfold EU;rw[ed];by_cases k2:(Aa c.regs i.d).kind=2
  .rw[if_pos k2,if_pos k2];have ha5:(A4 i.op).a=5:=by
    exact Zdk
   have hm:=AP (BD h) (by rw[ha5];decide);rw[ha5]at hm;unfold B7 AC ED at hm;rw[if_neg hd0]at hm;simp only[show((5:Int)=1)=False by decide,show((5:Int)=2)=False by decide,show((5:Int)=3)=False by decide,show((5:Int)=4)=False by decide,if_false,if_true,Bool.or_eq_true,decide_eq_true_eq,Bool.and_eq_true,beq_iff_eq]at hm;have ka:(Aa c.regs i.a).kind=2:=by
    rcases hm with q|q
    .rw[q];exact k2
    .omega
   have q:=(e.a (by rw[ha5];decide)).whs ka;unfold C5;rw[ed,if_neg oM,if_pos k2,if_neg oM,if_pos k2];simp only[Bx,q]
  .rw[if_neg k2,if_neg k2,Sz e,eo,hw,hfl];exact RG c c' f f' _ ed
end

structure Sv(c c':Cd)(K U W:Nat->Bool)(F:Ad->Ad)(rho sig:Nat->Nat):Prop where
 sign:c'.sign=c.sign
 ty:∀r,U r=true->Aa c'.regs ((rho r:Nat):Int)=Aa c.regs (r:Int)
 fd:∀i,(A4 i.op).d≠0->(F i).d=((rho i.d.toNat:Nat):Int)
 fa:∀i,(A4 i.op).a≠0->(F i).a=((rho i.a.toNat:Nat):Int)
 fb:∀i,(A4 i.op).b≠0->(F i).b=((rho i.b.toNat:Nat):Int)
 fc:∀i,(A4 i.op).c≠0->(F i).c=((rho i.c.toNat:Nat):Int)
 fn:∀i,i.op≠32->i.op≠33->(F i).n=i.n
 fs:∀i,(i.op=32\/i.op=33)->(F i).n=((sig i.n.toNat:Nat):Int)
 bits:∀i,(F i).bits=i.bits
 out:∀k (hk:k<c.list.length),c.list[k].op=31->K k=true
 used:∀k (hk:k<c.list.length),K k=true->(c.list[k].op=32\/c.list[k].op=33)->W c.list[k].n.toNat=true
 gone:∀k (hk:k<c.list.length),K k=false->c.list[k].op=33->W c.list[k].n.toNat=false
 injS:∀m n,W m=true->W n=true->sig m=sig n->m=n
 lt:∀n,W n=true->n<c.slots.length->sig n<c'.slots.length
structure Y8(c c':Cd)(W:Nat->Bool)(sig:Nat->Nat)(s s':List Hd):Prop where
 len:s.length=c.slots.length
 len':s'.length=c'.slots.length
 eq:∀n,W n=true->n<c.slots.length->s'[sig n]? =s[n]?
def J8(c c':Cd)(U:Nat->Bool)(rho:Nat->Nat)(f f':Fr)(X:List Nat):Prop:=∀r∈X,U r=true->Ju c c' f f' (r:Int) ((rho r:Nat):Int)
def C7(c c':Cd)(U K:Nat->Bool)(rho:Nat->Nat)(f f':Fr):List Bk->List Nat->Nat->Nat->List Nat->Prop
 |[],_,k,k',X=>k=0/\k'=0/\J8 c c' U rho f f' X
 |q::o,S,k,k',X=>(k=0/\k'=0/\J8 c c' U rho f f' X)\/(0<k/\(if q.loop=true then C7 c c' U K rho f f' o S.tail k k' X else if K (S.headD 0)=true then 0<k'/\C7 c c' U K rho f f' o S.tail (k-1) (k'-1) (X.take q.ahead)else C7 c c' U K rho f f' o S.tail (k-1) k' (X.take q.ahead)))
section
variable {c c' : Cd} {K U W : Nat -> Bool} {F : Ad -> Ad} {rho sig : Nat -> Nat} {G P : List (List Int)} {f f' : Fr}
theorem C7.zero{o:List Bk}{S X:List Nat}{k':Nat}(h:C7 c c' U K rho f f' o S 0 k' X):k'=0/\J8 c c' U rho f f' X:=by
 cases o with
 |nil=>exact h.2
 |cons q o=>
  rcases h with h|h
  .exact h.2
  .omega
theorem C7.mk0{o:List Bk}{S X:List Nat}(h:J8 c c' U rho f f' X):C7 c c' U K rho f f' o S 0 0 X:=by
 cases o with
 |nil=>exact⟨rfl,rfl,h⟩
 |cons q o=>exact .inl ⟨rfl,rfl,h⟩
theorem C7.cons{q:Bk}{o:List Bk}{b:Nat}{S X:List Nat}{k k':Nat}(h:C7 c c' U K rho f f' (q::o) (b::S) k k' X)(hk:0<k):if q.loop=true then C7 c c' U K rho f f' o S k k' X else if K b=true then 0<k'/\C7 c c' U K rho f f' o S (k-1) (k'-1) (X.take q.ahead)else C7 c c' U K rho f f' o S (k-1) k' (X.take q.ahead):=by
 rcases h with h|h
 .omega
 .exact h.2
theorem C7.grow{X S:List Nat}{o o':List Bk}(h:J7 U K X S o o'):∀ {k k':Nat} (Y:List Nat),0<k->C7 c c' U K rho f f' o S k k' X->C7 c c' U K rho f f' o S k k' (X++Y):=by
 induction h with
 |nil=>exact fun Y hk h=>by have:=h.1;omega
 |skipL hK ha hu h ih=>exact fun Y hk h=>.inr ⟨hk,by have:=h.cons hk;simp only[if_true]at this |-;exact ih Y hk this⟩
 |skipW hK ha hu h ih=>exact fun Y hk h=>.inr ⟨hk,by have:=h.cons hk;rw[List.take_append_of_le_length ha];exact this⟩
 |keepL hK h ih=>exact fun Y hk h=>.inr ⟨hk,by have:=h.cons hk;simp only[if_true]at this |-;exact ih Y hk this⟩
 |keepW hK ha e h ih=>exact fun Y hk h=>.inr ⟨hk,by have:=h.cons hk;rw[List.take_append_of_le_length ha];exact this⟩
theorem C7.all{X S:List Nat}{o o':List Bk}(h:J7 U K X S o o'):(∀b∈S,K b=true)->∀ {k k':Nat},C7 c c' U K rho f f' o S k k' X->k'=k:=by
 induction h with
 |nil=>exact fun _ k k' h=>by rw[h.1,h.2.1]
 |skipL hK _ _ _ _=>exact fun hS=>absurd ((hS _ List.mem_cons_self).symm.trans hK) sM
 |skipW hK _ _ _ _=>exact fun hS=>absurd ((hS _ List.mem_cons_self).symm.trans hK) sM
 |keepL hK h ih=>
  intro hS k k' hs;rcases Nat.eq_zero_or_pos k with e|e
  .subst e;exact hs.zero.1
  .have:=hs.cons e;simp only[if_true]at this;exact ih (fun b hb=>hS b Zho) this
 |keepW hK ha e9 h ih=>
  intro hS k k' hs;rcases Nat.eq_zero_or_pos k with e|e
  .subst e;exact hs.zero.1
  .have:=hs.cons e;simp only[Bool.false_eq_true,if_false,hK,if_true]at this;have:=ih (fun b hb=>hS b Zho) this.2;omega
theorem J8.take{X:List Nat}(h:J8 c c' U rho f f' X)(a:Nat):J8 c c' U rho f f' (X.take a):=fun r hr hu=>h r (List.mem_of_mem_take hr) hu
theorem Do{c:Cd}{i:Ad}{f:Fr}{k:Nat}(hk:0<k)(h5:i.op≠35)(h4:i.op≠34):AK c G P (f,k) i=(f,k):=by
 unfold AK;simp only;rw[if_neg oM,if_neg oM,if_neg oM]
theorem EZ{c:Cd}{i:Ad}{f:Fr}(h4:i.op≠34):AK c G P (f,0) i=(D0 c G P f i,0):=by
 unfold AK;simp[h4]
theorem LL{c:Cd}{i:Ad}{f:Fr}{k:Nat}(hk:0<k)(o:i.op=35):AK c G P (f,k) i=(f,k-1):=by
 unfold AK;simp only;rw[if_pos ⟨hk,o⟩]
theorem JW{c:Cd}{i:Ad}{f:Fr}{k:Nat}(o:i.op=34):AK c G P (f,k) i=if 0<k\/f.whs i.a.toNat=0 then(f,k+1)else(f,0):=by
 unfold AK;simp only;rw[if_neg oM];by_cases h:0<k\/f.whs i.a.toNat=0
 .rw[if_pos ⟨o,h⟩,if_pos h]
 .rw[if_neg (fun q=>h q.2),if_neg h,if_pos oM,AM oM]
theorem Vx(hp:Yk c c' K U F rho)(hx:Sv c c' K U W F rho sig){j:Nat}(hj:j<c.list.length)(hk:K j=true){x x':Wk}(h:PrI c K U rho j x x')(t:AG c x c.list[j]=true)(hr:J8 c c' U rho f f' x.set):UK c c' f f' c.list[j] (F c.list[j]):=by
 obtain⟨t1,t2,t3,t4⟩:=Ao t;unfold EQ at t4;rw[List.all_eq_true]at t4;have Bl:∀r∈Ae c.list[j] (A4 c.list[j].op),0<=r->Ju c c' f f' r ((rho r.toNat:Nat):Int):=fun r hr' h0=>by
  have h4:r.toNat∈x.set:=by simpa using t4 r hr'
  have hu:=hp.reads j hj hk r hr' (h.was _ h4);have:=hr _ h4 hu;rw[Int.toNat_of_nonneg h0]at this;exact this
 refine⟨hp.op _,fun hd=>?_,hx.fn _,hx.bits _,fun q=>?_,fun q=>?_,fun q=>?_⟩
 .have hs:Af c.list[j]=true:=by unfold Af;simpa using hd
  have hu:U c.list[j].d.toNat=true:=by rw[hp.hU j hj hs,hk]
  have h0:=(GV t hs).1;rw[hx.fd _ hd,hx.ty _ hu,Int.toNat_of_nonneg h0]
 .rw[hx.fa _ q];exact Bl _ Zgk (Ag (BD t2) q).1
 .rw[hx.fb _ q];exact Bl _ Zgk (Ag (CP t2) q).1
 .rw[hx.fc _ q];exact Bl _ Zgk (Ag (CQ t2) q).1
theorem Gv{x:Wk}{i:Ad}(t:AG c x i=true)(o:i.op=32\/i.op=33):0<=i.n/\i.n<(c.slots.length:Int):=by
 obtain⟨t1,t2,t3,t4⟩:=Ao t;unfold AS at t2;simp only[Bool.and_eq_true]at t2;have h:=t2.2.2.2.2;have hn:(A4 i.op).n=10:=by rcases o with e|e<;>(rw[e];decide)
 unfold Bh at h;rw[if_neg (by rw[hn];decide)]at h;simp only[Bool.and_eq_true]at h;have h2:=h.2;unfold EW at h2;rw[if_neg (by rw[hn];decide),if_neg (by rw[hn];decide),if_pos hn]at h2;simp only[Bool.and_eq_true]at h2;exact BU.1 h2.1
theorem JD{c:Cd}{i:Ad}{f:Fr}(hk:Al i.op=true)(h:i.op≠33):(D0 c G P f i).slots=f.slots:=by
 rcases Da hk with o|o|o|o|o|o|o|o|o
 .rw[Cc o]
 .rw[Bp o]
 .rw[CH o]
 .rw[CI o]
 .rw[D6 o]
 .rw[CJ o];exact(F4 _ _ _ _).1
 .exact absurd o h
 .rw[AM o]
 .rw[Bt o];exact(F9 _ _ _).1
theorem KZ{c:Cd}{i:Ad}{f:Fr}(hk:Al i.op=true)(h:i.op≠31):(D0 c G P f i).outs=f.outs:=by
 rcases Da hk with o|o|o|o|o|o|o|o|o
 .rw[Cc o]
 .rw[Bp o]
 .rw[CH o]
 .rw[CI o]
 .exact absurd o h
 .rw[CJ o];exact(F4 _ _ _ _).2
 .rw[CK o]
 .rw[AM o]
 .rw[Bt o];exact(F9 _ _ _).2
theorem YK(hp:Yk c c' K U F rho)(hx:Sv c c' K U W F rho sig){j:Nat}(hj:j<c.list.length)(hk:K j=true){x x':Wk}(h:PrI c K U rho j x x')(t:AG c x c.list[j]=true)(hr:J8 c c' U rho f f' x.set)(sl:Y8 c c' W sig f.slots f'.slots)(ou:f'.outs=f.outs):
 J8 c c' U rho (D0 c G P f c.list[j]) (D0 c' G P f' (F c.list[j])) (Cf x c.list[j] (A4 c.list[j].op)).set/\Y8 c c' W sig (D0 c G P f c.list[j]).slots (D0 c' G P f' (F c.list[j])).slots/\(D0 c' G P f' (F c.list[j])).outs=(D0 c G P f c.list[j]).outs:=by
 have he:=Vx hp hx hj hk h t hr;obtain⟨t1,t2,t3,t4⟩:=Ao t;obtain⟨d1,d2,d3,d4⟩:=YM (G:=G) (P:=P) hx.sign t2 t1 he (fun o=>by
  obtain⟨n0,n1⟩:=Gv t (.inl o);rw[hx.fs _ (.inl o),Int.toNat_natCast]
  exact sl.eq _ (hx.used j hj hk (.inl o)) oM) ou
 refine⟨fun r hr' hu=>?_,?_,d3⟩
 .by_cases hs:Af c.list[j]=true
  .have hud:U c.list[j].d.toNat=true:=by rw[hp.hU j hj hs,hk]
   have h0:=(GV t hs).1;have hdr:(A4 c.list[j].op).d≠0:=by unfold Af at hs;simpa using hs
   by_cases hrd:r=c.list[j].d.toNat
   .subst hrd;have h9:=d4 hs;rw[hx.fd _ hdr]at h9;refine⟨?_,hx.ty _ hu⟩;rw[h9,Int.toNat_of_nonneg h0]
   .have hrx:r∈x.set:=by
     unfold Cf at hr';split at hr'
     .rcases List.mem_append.1 hr' with e|e
      .exact e
      .simp only[List.mem_singleton]at e;exact absurd e hrd
     .exact hr'
    obtain⟨q1,q2⟩:=hr r hrx hu;refine⟨?_,q2⟩;rw[FP t1 (fun _=>by rw[Int.toNat_natCast];exact hrd),FP (by rw[hp.op];exact t1) (fun _=>by rw[hx.fd _ hdr,Int.toNat_natCast,Int.toNat_natCast];exact fun e=>hrd (hp.inj r _ hu hud e))];exact q1
  .have hns:Af c.list[j]=false:=by simpa using hs
   rw[Il hns]at hr';obtain⟨q1,q2⟩:=hr r hr' hu;refine⟨?_,q2⟩;have e9:Af (F c.list[j])=false:=by rw[<-hns];unfold Af;rw[hp.op]
   rw[FP t1 (fun q=>by rw[hns]at q;cases q),FP (by rw[hp.op];exact t1) (fun q=>by rw[e9]at q;cases q)];exact q1
 .by_cases o:c.list[j].op=33
  .obtain⟨s1,s2⟩:=d2 o;rw[s1,s2];obtain⟨n0,n1⟩:=Gv t (.inr o);have hw:=hx.used j hj hk (.inr o);refine⟨by rw[List.length_set];exact sl.len,by rw[List.length_set];exact sl.len',fun n hn hl=>?_⟩;rw[hx.fs _ (.inr o),Int.toNat_natCast,List.getElem?_set,List.getElem?_set];by_cases e:c.list[j].n.toNat=n
   .rw[if_pos e,if_pos (by rw[e]),if_pos (by rw[sl.len',e];exact hx.lt n hn hl),if_pos (by rw[sl.len];omega)]
   .rw[if_neg e,if_neg (fun q=>e (hx.injS _ _ hw hn q))];exact sl.eq n hn hl
  .obtain⟨s1,s2⟩:=d1 o;rw[s1,s2];exact sl
theorem YL(hp:Yk c c' K U F rho)(hx:Sv c c' K U W F rho sig){j:Nat}(hj:j<c.list.length)(hk:K j=false){x x':Wk}(h:PrI c K U rho j x x')(t:AG c x c.list[j]=true)(hr:J8 c c' U rho f f' x.set)(sl:Y8 c c' W sig f.slots f'.slots)(ou:f'.outs=f.outs):
 J8 c c' U rho (D0 c G P f c.list[j]) f' (Cf x c.list[j] (A4 c.list[j].op)).set/\Y8 c c' W sig (D0 c G P f c.list[j]).slots f'.slots/\f'.outs=(D0 c G P f c.list[j]).outs:=by
 obtain⟨t1,t2,t3,t4⟩:=Ao t;refine⟨fun r hr' hu=>?_,?_,?_⟩
 .have hrd:Af c.list[j]=true->r≠c.list[j].d.toNat:=fun hs e=>by
   have:=hp.hU j hj hs;rw[hk,<-e,hu]at this;cases this
  have hrx:r∈x.set:=by
   unfold Cf at hr';split at hr'
   .rename_i q;rcases List.mem_append.1 hr' with e|e
    .exact e
    .simp only[List.mem_singleton]at e;exact absurd e (hrd (by unfold Af;simpa using q.1))
   .exact hr'
  obtain⟨q1,q2⟩:=hr r hrx hu;refine⟨?_,q2⟩;rw[FP t1 (fun hs=>by rw[Int.toNat_natCast];exact hrd hs)];exact q1
 .by_cases o:c.list[j].op=33
  .rw[CK o];have hw:=hx.gone j hj hk o;refine⟨by simp only[List.length_set];exact sl.len,sl.len',fun n hn hl=>?_⟩;simp only;rw[List.getElem?_set,if_neg (fun e=>by rw[e,hn]at hw;cases hw)];exact sl.eq n hn hl
  .rw[JD t1 o];exact sl
 .rw[KZ t1 (fun o=>by have:=hx.out j hj o;rw[hk]at this;cases this)];exact ou
end
def En(c:Array Value)(i:Nat):Value:=(c[i]?).getD (.int .i64 0)
theorem BS(w:World)(c:Array Value)(t:TypeId):(w.alloc (.cells c t)).rowIs w.heap.size t c.size (En c):=World.rowIs_alloc w c t _ (fun i hi=>by unfold En;simp[hi])
section
variable {c c' : Cd} {K U W : Nat -> Bool} {F : Ad -> Ad} {rho sig : Nat -> Nat} {G P : List (List Int)} {f f' : Fr}
theorem XU{j:Nat}(hj:j<c.list.length):AE (c.list.take (j+1))=if c.list[j].op=34\/c.list[j].op=36 then j::AE (c.list.take j)else if c.list[j].op=35\/c.list[j].op=37 then(AE (c.list.take j)).tail else AE (c.list.take j):=by
 exact Zfw
theorem H7(hp:Yk c c' K U F rho){j:Nat}(hj:j<c.list.length)(hk:K j=true):∀b∈AE (c.list.take j),K b=true:=by
 have hS:=hp.around j hj hk;by_cases hfin:c.list[j].op=35\/c.list[j].op=37
 .rw[if_pos hfin]at hS;intro b hb;cases hs:AE (c.list.take j)with
  |nil=>rw[hs]at hb;cases hb
  |cons b0 S0=>
   rw[hs]at hb hS;rcases List.mem_cons.1 hb with e|e
   .rw[e,hp.pair j hj hfin b0 (by rw[hs];rfl)];exact hk
   .exact hS b e
 .rw[if_neg hfin]at hS;exact hS
theorem Wj(hp:Yk c c' K U F rho)(hx:Sv c c' K U W F rho sig){j:Nat}(hj:j<c.list.length){x x':Wk}(h:PrI c K U rho j x x')(t:AG c x c.list[j]=true){k k':Nat}(hs:C7 c c' U K rho f f' x.opens (AE (c.list.take j)) k k' x.set)(sl:Y8 c c' W sig f.slots f'.slots)(ou:f'.outs=f.outs):
 (K j=true->C7 c c' U K rho (AK c G P (f,k) c.list[j]).1 (AK c' G P (f',k') (F c.list[j])).1 (Aj x c.list[j]).opens (AE (c.list.take (j+1))) (AK c G P (f,k) c.list[j]).2 (AK c' G P (f',k') (F c.list[j])).2 (Aj x c.list[j]).set/\Y8 c c' W sig (AK c G P (f,k) c.list[j]).1.slots (AK c' G P (f',k') (F c.list[j])).1.slots/\(AK c' G P (f',k') (F c.list[j])).1.outs=(AK c G P (f,k) c.list[j]).1.outs)/\
 (K j=false->C7 c c' U K rho (AK c G P (f,k) c.list[j]).1 f' (Aj x c.list[j]).opens (AE (c.list.take (j+1))) (AK c G P (f,k) c.list[j]).2 k' (Aj x c.list[j]).set/\Y8 c c' W sig (AK c G P (f,k) c.list[j]).1.slots f'.slots/\f'.outs=(AK c G P (f,k) c.list[j]).1.outs):=by
 have hst:=XU (c:=c) hj;have hop:=hp.op c.list[j];obtain⟨t1,t2,t3,t4⟩:=Ao t;have hO:=h.opens;by_cases h34:c.list[j].op=34
 ·--a block EN
  have hns:Af c.list[j]=false:=by unfold Af;rw[h34];decide
  have e1:Aj x c.list[j]=Bv x c.list[j]:=by unfold Aj Dd;exact Il hns
  rw[e1,Us h34];rw[if_pos (.inl h34)]at hst;rw[hst,JW h34,JW (hop.trans h34)];simp only;refine⟨fun hk=>?_,fun hk=>?_⟩
  .have hkk:=C7.all hO (H7 hp hj hk) hs;have hw:k=0->f'.whs (F c.list[j]).a.toNat=f.whs c.list[j].a.toNat:=fun e=>by
    subst e;have he:=Vx hp hx hj hk h t hs.zero.2;have ra:(A4 c.list[j].op).a=2:=by rw[h34];decide
    exact(he.a (by rw[ra];decide)).whs (Fe t2 2 ra dE dE)
   by_cases q:0<k\/f.whs c.list[j].a.toNat=0
   .have q':0<k'\/f'.whs (F c.list[j]).a.toNat=0:=by
     rcases q with q|q
     .exact .inl oM
     .rcases Nat.eq_zero_or_pos k with e|e
      .exact .inr (by rw[hw e];exact q)
      .exact .inl oM
    rw[if_pos q,if_pos q'];refine⟨.inr ⟨Nat.succ_pos _,?_⟩,sl,ou⟩;simp only[Bool.false_eq_true,if_false,List.headD_cons,hk,if_true,List.tail_cons,Nat.add_sub_cancel,List.take_length];exact⟨Nat.succ_pos _,hs⟩
   .have q':¬ (0<k'\/f'.whs (F c.list[j]).a.toNat=0):=fun w=>by
     have e:k=0:=oM;rcases w with w|w
     .omega
     .exact q (.inr (by rw[<-hw e];exact w))
    rw[if_neg q,if_neg q'];have e:k=0:=oM;subst e;exact⟨C7.mk0 hs.zero.2,sl,ou⟩
  .by_cases q:0<k\/f.whs c.list[j].a.toNat=0
   .rw[if_pos q];refine⟨.inr ⟨Nat.succ_pos _,?_⟩,sl,ou⟩;simp only[Bool.false_eq_true,if_false,List.headD_cons,hk,List.tail_cons,Nat.add_sub_cancel,List.take_length];exact hs
   .rw[if_neg q];have e:k=0:=oM;subst e;have hz:=hs.zero;rw[hz.1];exact⟨C7.mk0 hz.2,sl,ou⟩
 by_cases h35:c.list[j].op=35\/c.list[j].op=37
 ·--a block ends
  have hns:Af c.list[j]=false:=by unfold Af;rcases h35 with e|e<;>(rw[e];decide)
  have e1:Aj x c.list[j]=Bv x c.list[j]:=by unfold Aj Dd;exact Il hns
  rw[e1,QG h35];rw[if_neg oM,if_pos h35]at hst;obtain⟨X,O⟩:=x;have hne:O.isEmpty=false:=by
   unfold Az at t3;rw[if_neg oM]at t3;rcases h35 with e|e
   .exact Zeu
   .exact Zed
  obtain⟨b,S1,q,o1,eS,eO,-⟩:=R3 hO (t:=true) hne;simp only at eO;subst eO;have hkb:=hp.pair j hj h35 b (by rw[eS];rfl);rw[eS]at hst hs;simp only[List.tail_cons]at hst;rw[hst];have hlp:c.list[j].op=35->q.loop=false:=fun e=>by
   unfold Az at t3;rw[if_neg oM,if_pos e]at t3;simp only[Bool.and_eq_true,Bool.not_eq_true']at t3;exact t3.2
  have hlp2:c.list[j].op=37->q.loop=true:=fun e=>by
   unfold Az at t3;rw[if_neg oM,if_neg oM,if_pos e]at t3;exact t3
  unfold AQ;simp only;have rel0:k=0->∀S',C7 c c' U K rho f f' o1 S' 0 0 (if q.loop=true then X else X.take q.ahead):=fun e S'=>by
   subst e;have hz:=hs.zero.2;split
   .exact C7.mk0 hz
   .exact C7.mk0 (hz.take _)
  rcases h35 with e|e
  .have hl:=hlp e;rw[hl];rw[hl]at rel0;simp only[Bool.false_eq_true,if_false]at rel0 |-;rcases Nat.eq_zero_or_pos k with e0|e0
   .exact Zeb
   .have hc:=hs.cons e0;rw[hl]at hc;simp only[Bool.false_eq_true,if_false]at hc;rw[LL e0 e];refine⟨fun hk=>?_,fun hk=>?_⟩
    .rw[hkb,if_pos hk]at hc;rw[LL hc.1 (hop.trans e)];exact⟨hc.2,sl,ou⟩
    .rw[hkb,if_neg (by rw[hk];simp)]at hc;exact⟨hc,sl,ou⟩
  .have hl:=hlp2 e;rw[hl];rw[hl]at rel0;simp only[if_true]at rel0 |-;rcases Nat.eq_zero_or_pos k with e0|e0
   .exact Zeb
   .have hc:=hs.cons e0;rw[hl]at hc;simp only[if_true]at hc;rw[Do e0 oM oM];refine⟨fun hk=>?_,fun hk=>⟨hc,sl,ou⟩⟩;have hkk:=C7.all hO (H7 hp hj hk) (by rw[eS];exact hs);rw[Do oM Yq Yq];exact⟨hc,sl,ou⟩
 by_cases h36:c.list[j].op=36
 .have hns:Af c.list[j]=false:=by unfold Af;rw[h36];decide
  have e1:Aj x c.list[j]=Bv x c.list[j]:=by unfold Aj Dd;exact Il hns
  rw[e1,Ur h36];rw[if_pos (.inr h36)]at hst;rw[hst];simp only;have push:0<k->C7 c c' U K rho f f' (⟨true,c.list[j].n,x.set.length⟩::x.opens) (j::AE (c.list.take j)) k k' x.set:=fun e0=>.inr ⟨e0,by simp only[if_true,List.tail_cons];exact hs⟩;rcases Nat.eq_zero_or_pos k with e0|e0
  .subst e0;have hz:=hs.zero;rw[hz.1,EZ oM,EZ Yq,AM oM,AM Yq];exact⟨fun _=>⟨C7.mk0 hz.2,sl,ou⟩,fun _=>⟨C7.mk0 hz.2,sl,ou⟩⟩
  .rw[Do e0 oM oM];refine⟨fun hk=>?_,fun hk=>⟨push e0,sl,ou⟩⟩;have hkk:=C7.all hO (H7 hp hj hk) hs;rw[Do oM Yq Yq];exact⟨push e0,sl,ou⟩
 have hst':AE (c.list.take (j+1))=AE (c.list.take j):=by rw[hst,if_neg oM,if_neg h35]
 have e1:Aj x c.list[j]=Cf x c.list[j] (A4 c.list[j].op):=by
  unfold Aj Dd Bv;rw[if_neg oM,if_neg h35]
 have eo:(Cf x c.list[j] (A4 c.list[j].op)).opens=x.opens:=by unfold Cf;split<;>rfl
 rw[e1,hst',eo];rcases Nat.eq_zero_or_pos k with e0|e0
 .subst e0;have hz:=hs.zero;rw[hz.1,EZ oM,EZ Yq];refine⟨fun hk=>?_,fun hk=>?_⟩
  .obtain⟨d1,d2,d3⟩:=YK (G:=G) (P:=P) hp hx hj hk h t hz.2 sl ou;exact⟨C7.mk0 d1,d2,d3⟩
  .obtain⟨d1,d2,d3⟩:=YL (G:=G) (P:=P) hp hx hj hk h t hz.2 sl ou;exact⟨C7.mk0 d1,d2,d3⟩
 .have hg:C7 c c' U K rho f f' x.opens (AE (c.list.take j)) k k' (Cf x c.list[j] (A4 c.list[j].op)).set:=by
   unfold Cf;split
   .exact C7.grow hO _ e0 hs
   .exact hs
  rw[Do e0 oM oM];refine⟨fun hk=>?_,fun hk=>⟨hg,sl,ou⟩⟩;have hkk:=C7.all hO (H7 hp hj hk) hs;rw[Do oM Yq Yq];exact⟨hg,sl,ou⟩
theorem ZM(hp:Yk c c' K U F rho)(hx:Sv c c' K U W F rho sig)(h:AR c ⟨[],[]⟩ c.list=true){f0 f0':Fr}(sl:Y8 c c' W sig f0.slots f0'.slots)(ou:f0'.outs=f0.outs):∀j,j<=c.list.length->∃g g' k k',UG c G P (f0,0) (c.list.take j)=(g,k)/\UG c' G P (f0',0) (Bc K F c.list j)=(g',k')/\C7 c c' U K rho g g' (CY ⟨[],[]⟩ (c.list.take j)).opens (AE (c.list.take j)) k k' (CY ⟨[],[]⟩ (c.list.take j)).set/\Y8 c c' W sig g.slots g'.slots/\g'.outs=g.outs:=by
 intro j;induction j with
 |zero=>intro _;exact⟨f0,f0',0,0,rfl,rfl,C7.mk0 (fun r hr=>(by cases hr)),sl,ou⟩
 |succ j ih=>
  intro hj;have hjl:j<c.list.length:=oM;obtain⟨g,g',k,k',i1,i2,i3,i4,i5⟩:=ih oM;obtain⟨-,p2⟩:=Kg hp h j oM;have t:=Ck h hjl;obtain⟨n1,n2⟩:=Wj (G:=G) (P:=P) hp hx hjl p2 t i3 i4 i5;have er:CY ⟨[],[]⟩ (c.list.take (j+1))=Aj (CY ⟨[],[]⟩ (c.list.take j)) c.list[j]:=by rw[List.take_succ_eq_append_getElem hjl,EH];rfl
  have eg:UG c G P (f0,0) (c.list.take (j+1))=AK c G P (g,k) c.list[j]:=by
   rw[List.take_succ_eq_append_getElem hjl];unfold UG at i1 |-;rw[List.foldl_append,i1];rfl
  rw[er];cases hk:K j with
  |true=>
   obtain⟨m1,m2,m3⟩:=n1 hk;have eg':UG c' G P (f0',0) (Bc K F c.list (j+1))=AK c' G P (g',k') (F c.list[j]):=by
    rw[DI hjl hk];unfold UG at i2 |-;rw[List.foldl_append,i2];rfl
   exact⟨_,_,_,_,eg,eg',m1,m2,m3⟩
  |false=>
   obtain⟨m1,m2,m3⟩:=n2 hk;refine⟨_,g',_,k',eg,?_,m1,m2,m3⟩;rw[Gs hk];exact i2
end

def UX(op d a b c n z:Int)(k:Nat):Value:=En #[.int .i64 op,.int .i64 d,.int .i64 a,.int .i64 b,.int .i64 c,.int .i64 n,.int .u32 z] k
def rkCs(l:List Rk):List Value:=l.flatMap rkC
section
variable {E : Nat} {c : Cd} {s : RW} {w w' : World} {B C SB IB MB nm rb ro q1 : Nat} {vk vo vl : Value} {tag : Nat -> Nat}
theorem Am{tag:Nat->Nat}{a b m n:Nat}(ha:tag a=m)(hb:tag b=n)(h:m≠n):a≠b:=fun e=>h (by rw[<-ha,<-hb,e])
end

section
open Go.ChangeShapes Go.WideShapes Go.ChangeAt Go.RowKit
theorem Jy:Tryz.prog.cellsOf 40=7:=kR
theorem IS:Tryz.prog.cellsOf 67=3:=kR
theorem JA:Tryz.prog.cellsOf 59=2:=kR
theorem Jz:Tryz.prog.cellsOf 64=5:=kR
theorem Pj:Tryz.prog.cellsOf 27=4:=kR
theorem Pf:Tryz.prog.bytesOf 40=56:=kR
theorem Nw:Tryz.prog.bytesOf 67=32:=kR
theorem Ph:Tryz.prog.bytesOf 59=16:=kR
theorem Pg:Tryz.prog.bytesOf 64=32:=kR
theorem FH{H:Type}{P:Program}{e:TypeId}:∀ {l:List (DataW H)} {d:DataW H},d∈l->∀n∈d.weights P e,n∈DataW.weightsAll P e l
 |[],d,h,n,hn=>by cases h
 |x::r,d,h,n,hn=>by
  simp only[DataW.weightsAll,List.mem_append];rcases List.mem_cons.1 h with rfl|h
  .exact .inl hn
  .exact .inr (FH h n hn)
section
variable {H : Type} {enc : TypeId × Value -> H} {w : World} {base : Nat} {held : Bool}
def InsOk(i:Ad):Prop:=0<=i.bits/\i.bits<4294967296
theorem VW{fuel:Nat}{cs:List Value}{x:DataW H×List MemPlace}(h:DataW.trod enc Tryz.prog w base (fun _=>true) held fuel 40 cs=some x):∃i:Ad,cs=C9 i/\InsOk i:=by
 obtain⟨xs,n,hfn,hx,hl,hxl,hf⟩:=DataW.trod_struct Tryz.underlying40 h;rw[Jy]at hl
 match cs,hl with
 |[v0,v1,v2,v3,v4,v5,v6],_=>
 match xs,hxl with
 |[y0,y1,y2,y3,y4,y5,y6],_=>
  have e0:DataW.trod enc Tryz.prog w base (fun _=>true) held n 3 [v0]=some y0:=hf 0 _ rfl;have e1:DataW.trod enc Tryz.prog w base (fun _=>true) held n 3 [v1]=some y1:=hf 1 _ rfl;have e2:DataW.trod enc Tryz.prog w base (fun _=>true) held n 3 [v2]=some y2:=hf 2 _ rfl;have e3:DataW.trod enc Tryz.prog w base (fun _=>true) held n 3 [v3]=some y3:=hf 3 _ rfl;have e4:DataW.trod enc Tryz.prog w base (fun _=>true) held n 3 [v4]=some y4:=hf 4 _ rfl;have e5:DataW.trod enc Tryz.prog w base (fun _=>true) held n 3 [v5]=some y5:=hf 5 _ rfl;have e6:DataW.trod enc Tryz.prog w base (fun _=>true) held n 38 [v6]=some y6:=hf 6 _ rfl;obtain⟨a0,c0,-,w0⟩:=DataW.trod_int Tryz.underlying3 e0;obtain⟨a1,c1,-,w1⟩:=DataW.trod_int Tryz.underlying3 e1;obtain⟨a2,c2,-,w2⟩:=DataW.trod_int Tryz.underlying3 e2;obtain⟨a3,c3,-,w3⟩:=DataW.trod_int Tryz.underlying3 e3;obtain⟨a4,c4,-,w4⟩:=DataW.trod_int Tryz.underlying3 e4;obtain⟨a5,c5,-,w5⟩:=DataW.trod_int Tryz.underlying3 e5;obtain⟨a6,c6,-,w6⟩:=DataW.trod_int Tryz.underlying38 e6;simp only[List.cons.injEq,and_true]at c0 c1 c2 c3 c4 c5 c6;subst c0 c1 c2 c3 c4 c5 c6;exact⟨⟨a0,a1,a2,a3,a4,a5,a6⟩,rfl,(bounds_u32 w6).1,Int.lt_add_one_of_le (bounds_u32 w6).2⟩
theorem VX{fuel:Nat}{cs:List Value}{x:DataW H×List MemPlace}(h:DataW.trod enc Tryz.prog w base (fun _=>true) held fuel 67 cs=some x)(hw:∀n∈x.1.weights Tryz.prog 67,n<=reachBytes):
 ∃p:BJ,cs=AY p/\p.name.size<=140737488351232:=by
 obtain⟨xs,n,hfn,hx,hl,hxl,hf⟩:=DataW.trod_struct Tryz.underlying67 h;rw[IS]at hl
 match cs,hl with
 |[v0,v1,v2],_=>
 match xs,hxl with
 |[y0,y1,y2],_=>
  have e0:DataW.trod enc Tryz.prog w base (fun _=>true) held n 9 [v0]=some y0:=hf 0 _ rfl;have e1:DataW.trod enc Tryz.prog w base (fun _=>true) held n 3 [v1]=some y1:=hf 1 _ rfl;have e2:DataW.trod enc Tryz.prog w base (fun _=>true) held n 3 [v2]=some y2:=hf 2 _ rfl;obtain⟨a0,c0,hd0,w0⟩:=DataW.trod_string Tryz.underlying9 e0;obtain⟨a1,c1,hd1,w1⟩:=DataW.trod_int Tryz.underlying3 e1;obtain⟨a2,c2,hd2,w2⟩:=DataW.trod_int Tryz.underlying3 e2;simp only[List.cons.injEq,and_true]at c0 c1 c2;subst c0 c1 c2;subst hx;have hws:∀ (j:Nat) (t:TypeId) (d:DataW H),[9,3,3][j]? =some t->[y0.1,y1.1,y2.1][j]? =some d->∀n∈d.weights Tryz.prog t,n<=reachBytes:=fun j t d ht hd n hn=>by
   refine hw n ?_;show n∈DataW.weights Tryz.prog 67 (.agg [y0.1,y1.1,y2.1]);rw[DataW.weights,Tryz.underlying67];exact DataW.weights_mem_each (ts:=[9,3,3]) ht hd n hn
  have s1:a0.size<=140737488351232:=by
   have:=hws 0 _ _ rfl rfl a0.data.toList.length (by rw[hd0];simp[DataW.weights]);simpa[reachBytes]using this
  exact⟨⟨a0,a1,a2⟩,rfl,s1⟩
theorem Rz{fuel:Nat}{cs:List Value}{x:DataW H×List MemPlace}(h:DataW.trod enc Tryz.prog w base (fun _=>true) held fuel 59 cs=some x):∃t:Ty,cs=J6 t/\True:=by
 obtain⟨xs,n,hfn,hx,hl,hxl,hf⟩:=DataW.trod_struct Tryz.underlying59 h;rw[JA]at hl
 match cs,hl with
 |[v0,v1],_=>
 match xs,hxl with
 |[y0,y1],_=>
  have e0:DataW.trod enc Tryz.prog w base (fun _=>true) held n 3 [v0]=some y0:=hf 0 _ rfl;have e1:DataW.trod enc Tryz.prog w base (fun _=>true) held n 3 [v1]=some y1:=hf 1 _ rfl;obtain⟨a0,c0,-,w0⟩:=DataW.trod_int Tryz.underlying3 e0;obtain⟨a1,c1,-,w1⟩:=DataW.trod_int Tryz.underlying3 e1;simp only[List.cons.injEq,and_true]at c0 c1;subst c0 c1;exact⟨⟨a0,a1⟩,rfl,trivial⟩
def SlOk(s:Sl):Prop:=0<=s.bits/\s.bits<4294967296
theorem ZB{fuel:Nat}{cs:List Value}{x:DataW H×List MemPlace}(h:DataW.trod enc Tryz.prog w base (fun _=>true) held fuel 64 cs=some x):∃s:Sl,cs=Jf s/\SlOk s:=by
 obtain⟨xs,n,hfn,hx,hl,hxl,hf⟩:=DataW.trod_struct Tryz.underlying64 h;rw[Jz]at hl
 match cs,hl with
 |[v0,v1,v2,v3,v4],_=>
 match xs,hxl with
 |[y0,y1,y2,y3],_=>
  have e0:DataW.trod enc Tryz.prog w base (fun _=>true) held n 59 [v0,v1]=some y0:=hf 0 _ rfl;have e1:DataW.trod enc Tryz.prog w base (fun _=>true) held n 4 [v2]=some y1:=hf 1 _ rfl;have e2:DataW.trod enc Tryz.prog w base (fun _=>true) held n 38 [v3]=some y2:=hf 2 _ rfl;have e3:DataW.trod enc Tryz.prog w base (fun _=>true) held n 3 [v4]=some y3:=hf 3 _ rfl;obtain⟨t,ht,-⟩:=Rz e0;obtain⟨a1,c1,-⟩:=DataW.trod_bool Tryz.underlying4 e1;obtain⟨a2,c2,-,w2⟩:=DataW.trod_int Tryz.underlying38 e2;obtain⟨a3,c3,-,w3⟩:=DataW.trod_int Tryz.underlying3 e3;obtain⟨K,P⟩:=t;simp only[J6,List.cons.injEq,and_true]at ht c1 c2 c3;obtain⟨rfl,rfl⟩:=ht;subst c1 c2 c3;exact⟨⟨⟨K,P⟩,a1,a2,a3⟩,rfl,(bounds_u32 w2).1,Int.lt_add_one_of_le (bounds_u32 w2).2⟩
theorem Dp{α:Type}[Inhabited α]{f:α->List Value}{k bytes:Nat}{t e:TypeId}{Good:α->Prop}(hk:0<k)(hf:∀x,(f x).length=k)(ht:Tryz.prog.underlying t=some (.slice e))(hce:Tryz.prog.cellsOf e=k)(hby:Tryz.prog.bytesOf e=bytes)(hb0:0<bytes)
 (hop:∀ {fuel:Nat} {cs:List Value} {x:DataW H×List MemPlace},DataW.trod enc Tryz.prog w base (fun _=>true) held fuel e cs=some x->(∀n∈x.1.weights Tryz.prog e,n<=reachBytes)->∃a:α,cs=f a/\Good a)
 {fuel:Nat} {v:Value} {x:DataW H×List MemPlace} (h:DataW.trod enc Tryz.prog w base (fun _=>true) held fuel t [v]=some x) (hw:∀n∈x.1.weights Tryz.prog t,n<=reachBytes):
 ∃l:List α,AV k f w v l/\l.length*bytes<=140737488351232/\∀a∈l,Good a:=by
 rcases DataW.trod_slice ht h with⟨hcs,hx⟩|⟨a,len,cap,elems,rest,m,hm,hcs,hx,_,hl,_,hel,hread,_,_⟩
 .simp only[List.cons.injEq,and_true]at hcs;subst hcs;exact⟨[],⟨none,0,rfl,.inl rfl⟩,sM,fun a h=>by cases h⟩
 .simp only[List.cons.injEq,and_true]at hcs;subst hcs;subst hx;have Bl:∀i,i<len->∃q:α,(∀j,j<k->w.cell? (a.add (i*k+j))=(f q)[j]?)/\Good q:=by
   intro i hi;have h1:=hread i hi;rw[hce]at h1;have hie:i<elems.length:=oM;rw[gB hie]at h1;obtain⟨cs',h2,h3⟩:=Option.bind_eq_some_iff.1 h1;obtain⟨_,hlen3,hcell⟩:=World.cells?_some h2;obtain⟨q,hcs,hok⟩:=hop h3 (fun n hn=>hw n (by
    rw[DataW.weights,ht]
    exact List.mem_cons_of_mem _ (List.mem_append_left _ (FH (List.mem_map.2 ⟨elems[i],gD hie,rfl⟩) n hn))))
   refine⟨q,fun j hj=>?_,hok⟩;have:=hcell j hj;rw[Go.Deep.add_add,hcs]at this;exact this
  obtain⟨g,hg⟩:=Go.Deep.choose_lt Bl;have hTl:((List.range len).map g).length=len:=sM;have hbig:len*bytes<=140737488351232:=by
   have:=hw _ (by rw[DataW.weights,ht];exact List.mem_cons_self);rw[hby]at this;simp only[List.length_map,reachBytes]at this;have hln:elems.length=len:=oM;simp only[hln]at this;exact gH (Nat.mul_le_mul_right _ (Nat.le_add_right _ _)) this
  refine⟨(List.range len).map g,?_,by rw[hTl];exact hbig,?_⟩
  .refine⟨some a,cap,by rw[hTl],?_⟩;by_cases hl0:len=0
   .left;simp[hl0]
   .obtain⟨b,off,spot⟩:=a;have hne:0<(f (g 0)).length:=by rw[hf];exact hk
    have hspot:spot=none:=by
     have:=(hg 0 oM).1 0 hk;rw[gB hne]at this;simpa[Addr.add]using World.cell?_spot this
    subst hspot;refine .inr ⟨b,off,rfl,fun i hi j hj=>?_⟩;have hi':i<len:=by rw[hTl]at hi;exact hi
    obtain⟨q,-⟩:=hg i hi';have e:((List.range len).map g)[i]=g i:=sM;have hj2:j<(f (g i)).length:=by simpa[e]using hj
    have hj3:j<k:=by rw[<-hf (g i)];exact hj2
    have q':=q j hj3;rw[Nl,<-Nat.add_assoc]at q';rw[q',gB hj2];congr 1;simp[e]
  .intro q hq;obtain⟨i,hi,rfl⟩:=List.mem_map.1 hq;exact(hg i (List.mem_range.1 hi)).2
instance:Inhabited Ad:=⟨⟨0,0,0,0,0,0,0⟩⟩
instance:Inhabited Ty:=⟨⟨0,0⟩⟩
instance:Inhabited Sl:=⟨⟨⟨0,0⟩,false,0,0⟩⟩
instance:Inhabited BJ:=⟨⟨⟨#[]⟩,0,0⟩⟩
theorem Tu{r:Reach}{b0:Nat}{v:Value}{d:DataW H}{pl:List MemPlace}(hv:Value.okWide Tryz.prog w r b0 27 v)(h:DataW.Trod enc Tryz.prog w base (fun _=>true) held 27 v d pl)(hw:∀n∈d.weights Tryz.prog 27,n<=reachBytes):
 ∃ (v0 v1 v2 v3:Value) (c:Cd),v=.agg #[v0,v1,v2,v3]/\CD w v0 v1 v2 v3 c/\Ba c/\c.sign.length*32<=140737488351232/\c.regs.length*16<=140737488351232/\c.slots.length*32<=140737488351232/\c.list.length*56<=140737488351232:=by
 obtain⟨cs,rfl,hsz⟩:=okWide_struct Tryz.underlying27 hv;obtain⟨fuel,hf0⟩:=h;obtain⟨xs,n,hfn,hx,hl,hxl,hf⟩:=DataW.trod_struct Tryz.underlying27 hf0;rw[Pj]at hl;obtain⟨cl,hcl⟩:=gA ((Value.agg cs).cells.toList)
 rw[hcl]at hl hf;have hcs:cs.toList=cl:=by rw[<-hcl];simp[Value.cells]
 match cl,hl with
 |[v0,v1,v2,v3],_=>
 match xs,hxl with
 |[y0,y1,y2,y3],_=>
  have e0:DataW.trod enc Tryz.prog w base (fun _=>true) held n 22 [v0]=some y0:=hf 0 _ rfl;have e1:DataW.trod enc Tryz.prog w base (fun _=>true) held n 23 [v1]=some y1:=hf 1 _ rfl;have e2:DataW.trod enc Tryz.prog w base (fun _=>true) held n 24 [v2]=some y2:=hf 2 _ rfl;have e3:DataW.trod enc Tryz.prog w base (fun _=>true) held n 25 [v3]=some y3:=hf 3 _ rfl;have hd:d=.agg [y0.1,y1.1,y2.1,y3.1]:=congrArg Prod.fst hx;have hws:∀ (j:Nat) (t:TypeId) (d:DataW H),[22,23,24,25][j]? =some t->[y0.1,y1.1,y2.1,y3.1][j]? =some d->∀n∈d.weights Tryz.prog t,n<=reachBytes:=fun j t d' ht hd' n hn=>by
   refine hw n ?_;rw[hd];show n∈DataW.weights Tryz.prog 27 (.agg [y0.1,y1.1,y2.1,y3.1]);rw[DataW.weights,Tryz.underlying27];exact DataW.weights_mem_each (ts:=[22,23,24,25]) ht hd' n hn
  obtain⟨l0,r0,s0,g0⟩:=Dp (Good:=fun p:BJ=>p.name.size<=140737488351232) dE Hm Tryz.underlying22 IS Nw dE (fun h hw=>VX h hw) e0 (hws 0 _ _ rfl rfl);obtain⟨l1,r1,s1,g1⟩:=Dp (Good:=fun _:Ty=>True) dE Nj Tryz.underlying23 JA Ph dE (fun h _=>Rz h) e1 (hws 1 _ _ rfl rfl);obtain⟨l2,r2,s2,g2⟩:=Dp (Good:=SlOk) dE Nb Tryz.underlying24 Jz Pg dE (fun h _=>ZB h) e2 (hws 2 _ _ rfl rfl);obtain⟨l3,r3,s3,g3⟩:=Dp (Good:=InsOk) dE D7 Tryz.underlying25 Jy Pf dE (fun h _=>VW h) e3 (hws 3 _ _ rfl rfl);refine⟨v0,v1,v2,v3,⟨l0,l1,l2,l3⟩,?_,⟨r0,r1,r2,r3⟩,⟨by show l0.length<=_;omega,g0,by show l1.length<=_;omega,by show l2.length<=_;omega,by show l3.length<=_;omega,g2,g3⟩,s0,s1,s2,s3⟩;rw[Value.agg.injEq];apply Array.toList_inj.1;exact hcs
end
end
end Go.Proofs.YtnbccaicijcklaaGreat
