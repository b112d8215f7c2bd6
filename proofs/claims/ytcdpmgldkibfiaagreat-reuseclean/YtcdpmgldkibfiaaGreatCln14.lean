import Derived.Test.YtcdpmgldkibfiaaGreatCln11
import Derived.Shelf.Small.Bits
import Derived.Test.YtcdpmgldkibfiaaGreatCln9
import Derived.Test.YtcdpmgldkibfiaaGreatCln2
import Derived.Test.YtcdpmgldkibfiaaGreatCln8
import Derived.Deep.OwnRows
import Derived.Test.YtcdpmgldkibfiaaGreatCln10
import Derived.Test.YtcdpmgldkibfiaaGreatCln7
import Derived.Test.YtcdpmgldkibfiaaGreatCln1
import Derived.Deep.DeepCutAuto
import Derived.Test.YtcdpmgldkibfiaaGreatCln5
namespace Go.Proofs.YtcdpmgldkibfiaaGreat
open Go.RowKit Go.Proofs.Tryz
set_option linter.all false
set_option maxRecDepth 100000
set_option maxHeartbeats 16000000
section
open Go.RowKit Go.Shelf Go.Proofs.Tryz
end
def QL(x n:Int):Nat->Int->Int
 |0,r=>r
 |k+1,r=>QL x n k (if n/2^k%2=1 then ET (ET r r) x else ET r r)
def GZ(x n:Int):Int:=if n<1 then 1065353216 else QL x n (Db n.toNat-1) (canon x)
theorem Pq(x n:Int):∀ (k:Nat) (r:Int),0<=r->r<4294967296->0<=QL x n k r/\QL x n k r<4294967296
 |0,r,h0,h1=>⟨h0,h1⟩
 |k+1,r,h0,h1=>by
  unfold QL;split
  ·exact Pq x n k _ (Dv _ _).1 (Dv _ _).2
  ·exact Pq x n k _ (Dv _ _).1 (Dv _ _).2
theorem XN(x n:Int)(h0:0<=x)(h1:x<4294967296):0<=GZ x n/\GZ x n<4294967296:=by
 unfold GZ;split
 ·decide
 ·exact Pq x n _ _ (EO x h0 h1).1 (EO x h0 h1).2
theorem Xi(n:Int)(h0:0<=n)(h1:n<=9223372036854775807)(i:Nat):bits .and .i64 (n/2^i) 1=n/2^i%2:=by
 have e:n/2^i=((n.toNat/2^i:Nat):Int):=by
  rw[Int.natCast_ediv,Int.natCast_pow,Int.toNat_of_nonneg h0];rfl
 have hle:n.toNat/2^i<=n.toNat:=Nat.div_le_self ..;rw[e];generalize n.toNat/2^i=q at *;have hx:q&&& 1=q%2:=Nat.and_one_is_mod q;show IntKind.i64.wrap ((BitVec.ofInt 64 (q:Int)&&& BitVec.ofInt 64 ((1:Nat):Int)).toNat:Int)=_;rw[BitVec.toNat_and,ofInt_u64 q oM,ofInt_u64 1 dE,hx,IntKind.wrap_i64];omega
theorem VS(x:Int)(h0:0<=x)(h1:x<4294967296)(n:Int)(n0: -9223372036854775808<=n)(n1:n<=9223372036854775807)(w:World):
 Calls prog 93 #[.int .i64 x,.int .i64 n] w fun e w'=>e=.returned (.int .i64 (GZ x n))/\Below w.heap.size w w':=by
 unfold GZ;by_cases c:n<1
 ·rw[if_pos c];go_enter func93,ntmps93;go_wp2;go_ret;exact⟨rfl,L6 _⟩
 ·rw[if_neg c];have hc:=EO x h0 h1;have hc':0<=canon x/\canon x<4294967296:=hc;clear hc;have hB:1<=Db n.toNat/\Db n.toNat<=63:=by
   unfold Db;rw[if_neg oM];have:n.toNat.log2<63:=(Nat.log2_lt oM).2 (by have:(2:Nat)^63=9223372036854775808:=rfl;omega);omega
  generalize hBB:Db n.toNat=B at *;generalize hP:QL x n (B-1) (canon x)=P at *;have HP:Hid (QL x n (B-1) (canon x)=P):=hP;clear hP;go_enter func93,ntmps93;go_wp2_with(first
   |(go_at_call 115;refine(G2 _ oM oM _).mono ?_;rintro e w1 ⟨rfl,hb1⟩)
   |(go_at_call 122;refine(Fp _ oM oM _).mono ?_;rintro e w' ⟨rfl,hw'⟩;obtain rfl:=hw'.symm))
  go_loopw [5,6] (fun rv pv wr=>Below w.heap.size w wr/\∃ (j:Nat) (r:Int),j<=62/\rv=.int .i64 r/\pv=.int .i64 ((j:Int)-1)/\0<=r/\r<4294967296/\QL x n j r=P) (fun _ pv _=>(intOf pv+1).toNat)
  case atStart=>exact⟨hb1,B-1,canon x,oM,rfl,by rw[show((B-1:Nat):Int)-1=(B:Int)-2 by omega],hc'.1,hc'.2,HP.out⟩
  case round=>
   obtain⟨hbel,j,r,hj,rfl,rfl,r0,r1,hr⟩:=hrel;have HR:Hid (QL x n j r=P):=hr;clear hr;rcases Nat.eq_zero_or_pos j with hz|hz
   ·subst hz;have hPr:r=P:=HR.out;subst hPr;clear HR HP;go_wp2;go_ret;exact⟨rfl,hbel⟩
   ·obtain⟨i,rfl⟩:∃i,j=i+1:=⟨j-1,oM⟩
    rw[show((i+1:Nat):Int)-1=(i:Int) by omega];have hbit:=Xi n oM n1 i;have l1:=Dv r r;have l2:=Dv (ET r r) x;by_cases cb:n/2^i%2=1
    ·go_wp2_with(go_at_call 123;refine(JY _ oM oM _ oM oM _).mono ?_;rintro e w2 ⟨rfl,hb2⟩);go_roundw
     case rel=>exact⟨by repeat(first|assumption|refine Jp ?_ (by assumption)),i,_,oM,rfl,rfl,l2.1,l2.2,by have:=HR.out;rw[QL,if_pos cb]at this;exact this⟩
     case measure=>first|(simp[intOf];done)|(simp[intOf];omega)
    ·go_wp2_with(go_at_call 123;refine(JY _ oM oM _ oM oM _).mono ?_;rintro e w2 ⟨rfl,hb2⟩);go_roundw
     case rel=>exact⟨by repeat(first|assumption|refine Jp ?_ (by assumption)),i,_,oM,rfl,rfl,l1.1,l1.2,by have:=HR.out;rw[QL,if_neg cb]at this;exact this⟩
     case measure=>first|(simp[intOf];done)|(simp[intOf];omega)
structure Hd where
 pats:List Int
 whole:Int
structure Fr where
 nums:Nat->Int
 whs:Nat->Int
 vecs:Nat->List Int
 slots:List Hd
 outs:Nat->Nat->Int
def F1{α:Type}(f:Nat->α)(k:Nat)(x:α):Nat->α:=fun j=>if j=k then x else f j
theorem B3{α:Type}(f:Nat->α)(k:Nat)(x:α):F1 f k x k=x:=if_pos rfl
theorem By{α:Type}(f:Nat->α){k j:Nat}(x:α)(h:j≠k):F1 f k x j=f j:=if_neg h
theorem Cc{α:Type}{Q:α->Prop}{f:Nat->α}{k:Nat}{x:α}(h:∀j,Q (f j))(hx:Q x)(j:Nat):Q (F1 f k x j):=by
 unfold F1;split
 ·exact hx
 ·exact h j
def lenOf(c:Cd)(p:Int):Nat:=((c.sign[p.toNat]?).map fun q=>q.len.toNat).getD 0
def AM(c:Cd)(p:Int):Nat:=if CI c.sign p=2 then 2 else 1
def AW(c:Cd)(t:Ty):Nat:=if t.kind=3 then lenOf c t.par else if t.kind=1 then 1 else 0
def Es(c:Cd)(t:Ty)(a:Int):List Int:=List.replicate (AW c t) (canon a)
def Bi(c:Cd)(s:Sl):Hd:=⟨Es c s.ty s.bits,s.int_⟩
def Bl(c:Cd)(f:Fr)(r:Int):Hd:=
 if(A7 c.regs r).kind=1 then⟨[f.nums r.toNat],0⟩else if(A7 c.regs r).kind=2 then⟨[],f.whs r.toNat⟩else⟨f.vecs r.toNat,0⟩
def In(c:Cd)(f:Fr)(r:Int)(h:Hd):Fr:=
 if(A7 c.regs r).kind=1 then{f with nums:=F1 f.nums r.toNat (h.pats.headD 0)}
 else if(A7 c.regs r).kind=2 then{f with whs:=F1 f.whs r.toNat h.whole}
 else{f with vecs:=F1 f.vecs r.toNat h.pats}
def BZ(l:List Int)(j:Nat):Int:=(l[j]?).getD 0
def Em(vs:List (List Int))(p:Nat):List Int:=(vs[p]?).getD []
def Bd(c:Cd)(vs:List (List Int))(i:Ac):List Int:=
 (List.range (lenOf c (A7 c.regs i.d).par)).map fun e=>canon (BZ (Em vs (A7 c.regs i.d).par.toNat) (AM c (A7 c.regs i.d).par*e+i.n.toNat))
def V8(o:Nat->Nat->Int)(p k n:Nat)(l:List Int):Nat->Nat->Int:=
 fun q j=>if q=p/\j%k=n/\j/k<l.length then BZ l (j/k)else o q j
def lF(args:List (List Int))(i:Nat):Nat:=(Em args i).length
def xF(args:List (List Int))(i j:Nat):Int:=BZ (Em args i) j
def Cz(op:Int)(args:List (List Int)):List Int:=
 match DP (lF args) (args.length-1)with
 |some n=>(List.range n).map fun i=>Ie op (EH (lF args) (xF args) args.length i 0) (EH (lF args) (xF args) args.length i 1) (EH (lF args) (xF args) args.length i 2)
 |none=>[]
def Bg(c:Cd)(f:Fr)(i:Ac):List (List Int):=(Ab i (A4 i.op)).map fun r=>(Bl c f r).pats
def E8(c:Cd)(f:Fr)(i:Ac):Fr:=
 if(A7 c.regs i.d).kind=2 then{f with whs:=F1 f.whs i.d.toNat (f.whs i.a.toNat)}
 else In c f i.d ⟨if(Cz i.op (Bg c f i)).length<AW c (A7 c.regs i.d)then Es c (A7 c.regs i.d) ((Cz i.op (Bg c f i)).headD 0)else Cz i.op (Bg c f i),0⟩
def JM(f:Fr)(i:Ac):Int:=
 if i.op=16 then GZ (f.nums i.a.toNat) (f.whs i.b.toNat)else if i.op=17 then Dg (f.whs i.a.toNat)
 else if i.op=19 then Kt (BZ (f.vecs i.a.toNat)) (f.vecs i.a.toNat).length else if i.op=20 then EI (BZ (f.vecs i.a.toNat)) (f.vecs i.a.toNat).length else i.bits
def BF(b:Bool):Int:=if b then 1 else 0
def EK(f:Fr)(i:Ac):Int:=
 if i.op=18 then BF (Mt (f.nums i.a.toNat) 1065353216 0==1065353216)
 else if i.op=21 then min (f.whs i.a.toNat) 2147483646+1
 else if i.op=22 then BF (decide (f.whs i.a.toNat<f.whs i.b.toNat))
 else if i.op=23 then BF (f.whs i.a.toNat==f.whs i.b.toNat)
 else if i.op=24 then BF (f.whs i.a.toNat != 0&&f.whs i.b.toNat != 0)
 else if i.op=25 then BF (f.whs i.a.toNat==0)
 else if i.op=26 then(if f.whs i.a.toNat=0 then f.whs i.c.toNat else f.whs i.b.toNat)
 else if i.op=27 then max (f.whs i.a.toNat-f.whs i.b.toNat) 0
 else if i.op=28 then(if f.whs i.b.toNat=0 then 0 else f.whs i.a.toNat/f.whs i.b.toNat)
 else i.n
def Dh(op:Int):Bool:=op==1||op==16||op==17||op==19||op==20
def Bm(op:Int):Bool:=op==2||op==18||(decide (21<=op)&&decide (op<=28))
def CY(c:Cd)(G P:List (List Int))(f:Fr)(i:Ac):Fr:=
 if Dh i.op then{f with nums:=F1 f.nums i.d.toNat (JM f i)}
 else if Bm i.op then{f with whs:=F1 f.whs i.d.toNat (EK f i)}
 else if i.op=29 then{f with vecs:=F1 f.vecs i.d.toNat (Bd c G i)}
 else if i.op=30 then{f with vecs:=F1 f.vecs i.d.toNat (Bd c P i)}
 else if i.op=31 then{f with outs:=V8 f.outs (A7 c.regs i.a).par.toNat (AM c (A7 c.regs i.a).par) i.n.toNat (f.vecs i.a.toNat)}
 else if i.op=32 then In c f i.d ((f.slots[i.n.toNat]?).getD ⟨[],0⟩)
 else if i.op=33 then{f with slots:=f.slots.set i.n.toNat (Bl c f i.a)}
 else if 34<=i.op/\i.op<=37 then f
 else E8 c f i
def Ay(c:Cd)(G P:List (List Int))(s:Fr×Nat)(i:Ac):Fr×Nat:=
 if 0<s.2/\i.op=35 then(s.1,s.2-1)
 else if i.op=34/\(0<s.2\/s.1.whs i.a.toNat=0)then(s.1,s.2+1)
 else if s.2=0 then(CY c G P s.1 i,0)else s
def Sk(c:Cd)(G P:List (List Int))(s:Fr×Nat)(l:List Ac):Fr×Nat:=l.foldl (Ay c G P) s
def BP(c:Cd):List Hd:=c.slots.map (Bi c)
def NT(p:Cf):Nat:=(Dc p).toNat
def G7(c:Cd)(f:Fr):List (List Int):=(List.range c.sign.length).map fun p=>(List.range ((c.sign[p]?).elim 0 NT)).map (f.outs p)
def Dz(c:Cd)(G P:List (List Int)):Bool:=C9 c.sign (G.map (·.length))&&C9 c.sign (P.map (·.length))
structure Un(U:Nat->Prop)(w w':World):Prop where
 os:w'.os=w.os
 tape:w'.tape=w.tape
 output:w'.output=w.output
 size:w.heap.size<=w'.heap.size
 block:∀b,b<w.heap.size->¬U b->w'.heap[b]? =w.heap[b]?
section
variable {U T : Nat -> Prop} {w w' w'' : World}
theorem Un.refl(U:Nat->Prop)(w:World):Un U w w:=⟨rfl,rfl,rfl,Nat.le_refl _,fun _ _ _=>rfl⟩
theorem Un.trans(h:Un U w w')(k:Un U w' w''):Un U w w'':=
 ⟨k.os.trans h.os,k.tape.trans h.tape,k.output.trans h.output,Nat.le_trans h.size k.size,fun b hb hu=>(k.block b (Nat.lt_of_lt_of_le hb h.size) hu).trans (h.block b hb hu)⟩
theorem Un.of(h:Below w.heap.size w w'):Un U w w':=⟨h.os,h.tape,h.output,h.size,fun b hb _=>h.block b hb⟩
theorem Un.mono(h:Un U w w')(k:∀b,U b->T b):Un T w w':=⟨h.os,h.tape,h.output,h.size,fun b hb hu=>h.block b hb fun q=>hu (k b q)⟩
theorem Un.on(h:Un U w w')(k:Below w'.heap.size w' w''):Un U w w'':=h.trans (Un.of k)
theorem Un.below{B:Nat}(h:Un U w w')(hB:B<=w.heap.size)(k:∀b,U b->B<=b):Below B w w':=
 ⟨h.os,h.tape,h.output,h.size,fun b hb=>h.block b oM fun q=>by have:=k b q;omega⟩
theorem Un.setCell(h:Un U w w'){p:Addr}(hp:U p.block)(x:Value):Un U w (w'.setCell p x):=
 ⟨h.os,h.tape,h.output,by simpa[World.setCell]using h.size,fun b hb hu=>by
  have hne:b≠p.block:=fun e=>hu (by rw[e];exact hp)
  rw[Below.heap_setCell _ _ _ _ (by exact hne)];exact h.block b hb hu⟩
theorem Un.grown(h:Un U w w'){b:Nat}(hb:U b)(g:w'.grownBy w'' (some b)):Un U w w'':=by
 have k:Below w'.heap.size w' w':=Below.refl _ _;refine h.trans ⟨g.os,g.tape,g.output,g.size,fun j hj hu=>g.block j hj (fun e=>?_)⟩;cases e;exact hu hb
end
def En{α:Type}(T:Nat->Prop)(k:Nat)(f:α->List Value)(w:World)(v:Value)(l:List α):Prop:=
 ∃p c,v=.slice p l.length c/\(l=[]\/∃b o,p=some ⟨b,o,none⟩/\¬T b/\b<w.heap.size/\∀i (h:i<l.length),Ai w b (o+i*k) (f l[i]))
section
variable {α : Type} {T U : Nat -> Prop} {k : Nat} {f : α -> List Value} {w w' : World} {v : Value} {l : List α}
theorem En.row(h:En T k f w v l):Bz k f w v l:=by
 obtain⟨p,c,hv,h⟩:=h;exact⟨p,c,hv,h.imp id fun⟨b,o,hp,_,_,h⟩=>⟨b,o,hp,h⟩⟩
theorem En.un(h:En T k f w v l)(q:Un U w w')(hu:∀b,b<w.heap.size->U b->T b):En T k f w' v l:=by
 obtain⟨p,c,hv,h⟩:=h;exact⟨p,c,hv,h.imp id fun⟨b,o,hp,ht,hb,h⟩=>⟨b,o,hp,ht,Nat.lt_of_lt_of_le hb q.size,fun i hi=>(h i hi).of_block (q.block b hb fun e=>ht (hu b hb e))⟩⟩
theorem En.below(h:En T k f w v l)(q:Below w.heap.size w w'):En T k f w' v l:=h.un (U:=fun _=>False) (Un.of q) (fun _ _ e=>e.elim)
theorem En.mono(h:En T k f w v l)(hu:∀b,b<w.heap.size->U b->T b):En U k f w v l:=by
 obtain⟨p,c,hv,h⟩:=h;exact⟨p,c,hv,h.imp id fun⟨b,o,hp,ht,hb,h⟩=>⟨b,o,hp,fun e=>ht (hu b hb e),hb,h⟩⟩
end
def ptC(x:Int):List Value:=[.int .u32 x]
abbrev Pt(T:Nat->Prop)(w:World)(v:Value)(l:List Int):Prop:=En T 1 ptC w v l
theorem Pt.reads{T:Nat->Prop}{w:World}{p:Option Addr}{n c:Nat}{l:List Int}(h:Pt T w (.slice p n c) l):n=l.length/\Bb w p n (fun j=>.int .u32 (BZ l j)):=by
 obtain⟨p',c',hv,h⟩:=h;simp only[Value.slice.injEq]at hv;obtain⟨rfl,rfl,rfl⟩:=hv;refine⟨rfl,?_⟩;rcases h with h|⟨b,o,hp,_,_,h⟩
 ·exact .inl (by rw[h];rfl)
 ·refine .inr ⟨b,o,hp,fun i hi=>?_⟩;have:=(h i hi).at 0 (v:=.int .u32 l[i]) rfl;rw[Nat.mul_one,Nat.add_zero]at this;rw[this];simp[BZ,List.getElem?_eq_getElem hi]
theorem Pt.len{T:Nat->Prop}{w:World}{v:Value}{l:List Int}(h:Pt T w v l):∃p c,v=.slice p l.length c:=by
 obtain⟨p,c,hv,_⟩:=h;exact⟨p,c,hv⟩
def FL(T:Nat->Prop)(w:World)(v:Value)(L:List (List Int)):Prop:=
 ∃p c,v=.slice p L.length c/\(L=[]\/∃b o,p=some ⟨b,o,none⟩/\¬T b/\b<w.heap.size/\∀i (h:i<L.length),∃u,w.cell? ⟨b,o+i,none⟩=some u/\Pt T w u L[i])
theorem FL.un{T U:Nat->Prop}{w w':World}{v:Value}{L:List (List Int)}(h:FL T w v L)(q:Un U w w')(hu:∀b,b<w.heap.size->U b->T b):FL T w' v L:=by
 obtain⟨p,c,hv,h⟩:=h;refine⟨p,c,hv,h.imp id fun⟨b,o,hp,ht,hb,h⟩=>⟨b,o,hp,ht,Nat.lt_of_lt_of_le hb q.size,fun i hi=>?_⟩⟩;obtain⟨u,h1,h2⟩:=h i hi;exact⟨u,(World.cell?_of_block (q.block b hb fun e=>ht (hu b hb e))).trans h1,h2.un q hu⟩
theorem FL.below{T:Nat->Prop}{w w':World}{v:Value}{L:List (List Int)}(h:FL T w v L)(q:Below w.heap.size w w'):FL T w' v L:=h.un (U:=fun _=>False) (Un.of q) (fun _ _ e=>e.elim)
theorem FL.mono{T U:Nat->Prop}{w:World}{v:Value}{L:List (List Int)}(h:FL T w v L)(hu:∀b,b<w.heap.size->U b->T b):FL U w v L:=by
 obtain⟨p,c,hv,h⟩:=h;refine⟨p,c,hv,h.imp id fun⟨b,o,hp,ht,hb,h⟩=>⟨b,o,hp,fun e=>ht (hu b hb e),hb,fun i hi=>?_⟩⟩;obtain⟨u,h1,h2⟩:=h i hi;exact⟨u,h1,h2.mono hu⟩
structure Lay where
 C:Nat
 S:Nat
 FR:Nat
 NB:Nat
 WB:Nat
 MB:Nat
 UB:Nat
 K:Nat
 ub:Nat->Nat
 sp:Option Addr
 sc:Nat
 v0:Value
 v1:Value
 v2:Value
 v3:Value
 gv:Value
 pv:Value

def QW(c:Cd)(p:Nat):Nat:=(c.sign[p]?).elim 0 NT
section
variable {T : Nat -> Prop} {E E' : Nat} {a : Lay} {c : Cd} {G P : List (List Int)} {w w' : World} {X : Nat -> Value} {M : Nat} {m : Nat -> Option Value} {f : Fr}
end
structure Good(c:Cd):Prop where
 len:∀p∈c.sign,1<=p.len/\p.len<=4096
 kind:∀p∈c.sign,BR p=true
 regs:∀t∈c.regs,AA t c.sign.length=true
 slots:∀s∈c.slots,Bf s c.sign.length=true
 regsL:c.regs.length<=16384
 slotsL:c.slots.length<=4096
 listL:c.list.length<=32768
 signL:c.sign.length<=64
theorem Good.type{c:Cd}(h:Good c){t:Ty}(ht:t∈c.regs)(h3:t.kind=3):Av t.par c.sign.length=true:=by
 have:=h.regs t ht;unfold AA at this;rw[if_neg oM,if_pos h3]at this;exact this
theorem Good.lenOf{c:Cd}(h:Good c)(p:Int):lenOf c p<=4096:=by
 unfold Proofs.YtcdpmgldkibfiaaGreat.lenOf;cases hp:c.sign[p.toNat]? with
 |none=>simp
 |some q=>
  have:=h.len q (List.mem_of_getElem? hp);simp only[Option.map_some,Option.getD_some];omega
theorem Good.width{c:Cd}(h:Good c)(t:Ty):AW c t<=4096:=by
 unfold AW;split
 ·exact h.lenOf _
 ·split<;>omega
theorem Eb{l:List Ty}{r:Nat}(h:r<l.length):A7 l (r:Int)=l[r]:=by
 unfold A7 Av;simp[h]
section
variable {T : Nat -> Prop} {E E' : Nat} {a : Lay} {c : Cd} {G P : List (List Int)} {w : World}
end

theorem C5(w:World):Below w.heap.size w w.drew:=(Below.refl _ _).drew
section
variable {T : Nat -> Prop} {E E' : Nat} {a : Lay} {c : Cd} {G P : List (List Int)} {X : Nat -> Value} {M : Nat} {m : Nat -> Option Value} {f : Fr} {w w1 w2 : World}
end

def OR(c:Cd)(t:Ty)(h:Hd):Prop:=h.pats.length=AW c t/\(∀y∈h.pats,Az y)/\0<=h.whole/\h.whole<=2147483647
structure Iu(c:Cd)(f:Fr):Prop where
 nums:∀r,Az (f.nums r)
 whs:∀r,0<=f.whs r/\f.whs r<=2147483647
 vecs:∀r,∀y∈f.vecs r,Az y
 vecsL:∀r,(f.vecs r).length<=4096
 slotsL:f.slots.length=c.slots.length
 slots:∀j (h:j<c.slots.length) (h':j<f.slots.length),OR c c.slots[j].ty f.slots[j]
theorem BY{l:List Int}(h:∀y∈l,Az y)(j:Nat):Az (BZ l j):=by
 unfold BZ;cases e:l[j]? with
 |none=>exact IA
 |some y=>exact h y (List.mem_of_getElem? e)

structure CV(c:Cd)(L:List (List Int)):Prop where
 len:L.length=c.sign.length
 each:∀p (h:p<L.length),(L[p]).length=QW c p
 isP:∀l∈L,∀y∈l,Az y
theorem JL{c:Cd}(hg:Good c){p:Nat}(h:p<c.sign.length):QW c p=AM c p*lenOf c p/\lenOf c p=c.sign[p].len.toNat/\1<=c.sign[p].len/\c.sign[p].len<=4096/\(AM c p=1\/AM c p=2):=by
 have h1:=hg.len c.sign[p] (List.getElem_mem h);have h2:=hg.kind c.sign[p] (List.getElem_mem h);have e1:lenOf c (p:Int)=c.sign[p].len.toNat:=by unfold lenOf;simp[h]
 have e2:AM c (p:Int)=if c.sign[p].kind=2 then 2 else 1:=by unfold AM CI;simp[h]
 refine⟨?_,e1,h1.1,h1.2,?_⟩
 ·unfold QW;rw[e1,e2];simp only[List.getElem?_eq_getElem h,Option.elim_some];unfold NT Dc;rw[h2];simp only[if_true,beq_iff_eq];split<;>omega
 ·rw[e2];split<;>simp
theorem Xq{α:Type}(f:Nat->Int)(n j:Nat)(h:j<n):BZ ((List.range n).map f) j=f j:=by
 unfold BZ;simp[h]
structure OT(c:Cd)(r:Int)(n:Int):Prop where
 r0:0<=r
 r1:r<(c.regs.length:Int)
 kind:(A7 c.regs r).kind=3
 n0:n=0\/(n=1/\CI c.sign (A7 c.regs r).par=2)

theorem Hx{L:List (List Int)}{k:Nat}(h:k<L.length):Em L k=L[k]:=by unfold Em;rw[List.getElem?_eq_getElem h];rfl
theorem Lw{l:Nat->Nat}{W:Nat}(hW:1<=W):∀M,(∀i,i<=M->l i=1\/l i=W)->∃n,DP l M=some n/\(n=1\/n=W):=by
 intro M;induction M with
 |zero=>intro h;exact⟨l 0,rfl,h 0 (Nat.le_refl _)⟩
 |succ M ih=>
  intro h;obtain⟨n,h1,h2⟩:=ih fun i hi=>h i oM;rw[Hs h1];have h3:=h (M+1) (Nat.le_refl _);by_cases e1:l (M+1)=n
  ·exact⟨n,if_pos e1,h2⟩
  ·rw[if_neg e1,if_neg oM];by_cases e2:n=1
   ·rw[if_pos e2];exact⟨_,rfl,h3⟩
   ·rw[if_neg e2];by_cases e3:l (M+1)=1
    ·rw[if_pos e3];exact⟨_,rfl,h2⟩
    ·omega
theorem G6(i:Ac)(h:Bj i.op=true):Cx i.op=(Ab i (A4 i.op)).length/\Cx i.op≠0:=by
 unfold Bj at h;simp only[Bool.and_eq_true,decide_eq_true_eq]at h;have:i.op=3\/i.op=4\/i.op=5\/i.op=6\/i.op=7\/i.op=8\/i.op=9\/i.op=10\/i.op=11\/i.op=12\/i.op=13\/i.op=14\/i.op=15:=oM;obtain⟨op,D,A,B,E,n,b⟩:=i;simp only at this ⊢;rcases this with rfl|rfl|rfl|rfl|rfl|rfl|rfl|rfl|rfl|rfl|rfl|rfl|rfl<;>exact⟨rfl,dE⟩
theorem QA{op:Int}{args:List (List Int)}{n:Nat}(h:DP (lF args) (args.length-1)=some n):(Cz op args).length=n/\∀j,j<n->BZ (Cz op args) j=Ie op (EH (lF args) (xF args) args.length j 0) (EH (lF args) (xF args) args.length j 1) (EH (lF args) (xF args) args.length j 2):=by
 unfold Cz;rw[h];simp only;exact⟨sM,fun j hj=>Xq (α:=Int) _ _ _ hj⟩
theorem A8{p:Prop}(h:p):Hid p:=h


def Df(c:Cd)(f:Fr)(r:Nat):Prop:=(A7 c.regs (r:Int)).kind=3->(f.vecs r).length=lenOf c (A7 c.regs (r:Int)).par
theorem Eu{rs:List Ty}{l n:Int}{m:Ty}(h:Ag rs l n m=true)(h0:0<rs.length):0<=n/\n<(rs.length:Int):=by
 by_cases hl:l=0
 ·unfold Ag at h;rw[if_pos hl]at h;simp only[beq_iff_eq]at h;omega
 ·exact Ae h hl
theorem AO{rs:List Ty}{l n:Int}{m:Ty}(h:Ag rs l n m=true)(hl:l≠0):B7 l (A7 rs n) m=true:=by
 unfold Ag at h;rw[if_neg hl]at h;simp only[Bool.and_eq_true]at h;exact h.2
theorem XM{c:Cd}{i:Ac}{r:Rw}(h:AJ c i r=true):Bh c i r.n (AB c.regs i r)=true:=by
 unfold AJ at h;simp only[Bool.and_eq_true]at h;exact h.2.2.2.2
theorem O6{s:Wk}{i:Ac}{r:Rw}(h:Dr s i r=true){n:Int}(hn:n∈Ab i r):n.toNat∈s.set:=by
 unfold Dr at h;have:=List.all_eq_true.1 h n hn;simpa using this
structure Dy(c:Cd)(f:Fr)(i:Ac):Prop where
 num:Dh i.op=true->0<=i.d/\i.d<(c.regs.length:Int)/\(i.op≠1->0<=i.a/\i.a<(c.regs.length:Int))/\(i.op=16->0<=i.b/\i.b<(c.regs.length:Int))/\(A7 c.regs i.d).kind=1
 whole:Bm i.op=true->0<=i.d/\i.d<(c.regs.length:Int)/\(0<=i.a/\i.a<(c.regs.length:Int))/\(0<=i.b/\i.b<(c.regs.length:Int))/\(0<=i.c/\i.c<(c.regs.length:Int))/\(A7 c.regs i.d).kind=2/\(i.op=2->0<=i.n/\i.n<=2147483647)
 part:i.op=29\/i.op=30->OT c i.d i.n
 out:i.op=31->OT c i.a i.n/\(f.vecs i.a.toNat).length=lenOf c (A7 c.regs i.a).par
 load:i.op=32->0<=i.d/\i.d<(c.regs.length:Int)/\0<=i.n/\i.n<(c.slots.length:Int)/\CR c.slots i.n=A7 c.regs i.d
 store:i.op=33->0<=i.a/\i.a<(c.regs.length:Int)/\0<=i.n/\i.n<(c.slots.length:Int)/\CR c.slots i.n=A7 c.regs i.a/\Df c f i.a.toNat
 elem:Bj i.op=true->0<=i.d/\i.d<(c.regs.length:Int)/\(0<=i.a/\i.a<(c.regs.length:Int))/\∀r∈Ab i (A4 i.op),0<=r/\r<(c.regs.length:Int)/\Df c f r.toNat/\(A7 c.regs r=A7 c.regs i.d\/((A7 c.regs r).kind=1/\(A7 c.regs i.d).kind=3))
theorem LD{i:Ac}{r:Rw}(h:r.a≠0):i.a∈Ab i r:=by unfold Ab;simp[h]
theorem QU{c:Cd}{f:Fr}{s:Wk}{i:Ac}(t:Aq c s i=true)(hs:∀r∈s.set,Df c f r):Dy c f i:=by
 obtain⟨_,h2,_,h4⟩:=Ah t;have hd:=Du h2;have ha:=BD h2;have hb:=DR h2;have hc:=DS h2;have hn:=XM h2;have hr:=fun{n:Int} (hn:n∈Ab i (A4 i.op))=>hs _ (O6 h4 hn);obtain⟨op,D,A,B,Ec,nn,bt⟩:=i;simp only at *;refine⟨fun h=>?_,fun h=>?_,fun h=>?_,fun h=>?_,fun h=>?_,fun h=>?_,fun h=>?_⟩
 ·unfold Dh at h;simp only[Bool.or_eq_true,beq_iff_eq]at h;have hop:op=1\/op=16\/op=17\/op=19\/op=20:=oM;clear h;rcases hop with rfl|rfl|rfl|rfl|rfl
  all_goals
   have d:=Ae hd dE;have dm:=AO hd dE;have a1:=Eu ha oM;have b1:=Eu hb oM;exact⟨d.1,d.2,fun _=>a1,fun _=>b1,by simpa[B7,A4]using dm⟩
 ·unfold Bm at h;simp only[Bool.or_eq_true,Bool.and_eq_true,beq_iff_eq,decide_eq_true_eq]at h;have hop:op=2\/op=18\/op=21\/op=22\/op=23\/op=24\/op=25\/op=26\/op=27\/op=28:=oM;clear h;rcases hop with rfl|rfl|rfl|rfl|rfl|rfl|rfl|rfl|rfl|rfl
  all_goals
   have d:=Ae hd dE;have dm:=AO hd dE;have a1:=Eu ha oM;have b1:=Eu hb oM;have c1:=Eu hc oM;refine⟨d.1,d.2,a1,b1,c1,by simpa[B7,A4]using dm,fun e=>?_⟩;simp[Bh,A4,FQ,D8]at hn;show 0<=nn/\nn<=2147483647;omega
 ·rcases h with rfl|rfl
  all_goals
   have d:=Ae hd dE;have dm:=AO hd dE;refine⟨d.1,d.2,by simpa[B7,A4]using dm,?_⟩;simp[Bh,A4,FQ,AB,Ex]at hn;first|exact hn.2|(simpa using hn.2)
 ·subst h;have d:=Ae ha dE;have dm:=AO ha dE;have k3:(A7 c.regs A).kind=3:=by simpa[B7,A4]using dm
  refine⟨⟨d.1,d.2,k3,?_⟩,?_⟩
  ·simp[Bh,A4,FQ,AB,Ex]at hn;first|exact hn.2|(simpa using hn.2)
  ·have:=hr (n:=A) (LD (r:=A4 31) dE);have e:((A.toNat:Nat):Int)=A:=oM;unfold Df at this;rw[e]at this;exact this k3
 ·subst h;have d:=Ae hd dE;simp[Bh,A4,FQ,AB,Ex]at hn;have:=Br.1 hn.2.1;exact⟨d.1,d.2,this.1,this.2,hn.2.2⟩
 ·subst h;have d:=Ae ha dE;simp[Bh,A4,FQ,AB,Ex]at hn;have:=Br.1 hn.2.1;exact⟨d.1,d.2,this.1,this.2,hn.2.2,hr (n:=A) (LD (r:=A4 33) dE)⟩
 ·unfold Bj at h;simp only[Bool.and_eq_true,decide_eq_true_eq]at h;have hop:op=3\/op=4\/op=5\/op=6\/op=7\/op=8\/op=9\/op=10\/op=11\/op=12\/op=13\/op=14\/op=15:=oM;clear h;rcases hop with rfl|rfl|rfl|rfl|rfl|rfl|rfl|rfl|rfl|rfl|rfl|rfl|rfl
  all_goals
   have d:=Ae hd dE;have a1:=Ae ha dE;refine⟨d.1,d.2,a1,fun r hrr=>⟨?_,?_,hr hrr,?_⟩⟩
   all_goals
    have am:=AO ha dE;simp[Ab,A4]at hrr;first
     |(
      have bm:=AO hb dE;have b1:=Ae hb dE;have cm:=AO hc dE;have c1:=Ae hc dE;simp[B7,A4,AB,Ex]at am bm cm
      rcases hrr with rfl|rfl|rfl<;>first|omega|(simpa using am)|(simpa using bm)|(simpa using cm))
     |(
      have bm:=AO hb dE;have b1:=Ae hb dE;simp[B7,A4,AB,Ex]at am bm
      rcases hrr with rfl|rfl<;>first|omega|(simpa using am)|(simpa using bm))
     |(
      simp[B7,A4,AB,Ex]at am;subst hrr
      first|omega|(simpa using am))
theorem Py(X:Nat->Int)(n:Nat)(hX:∀i,Az (X i)):Az (EI X n):=EU J6 Zho hX n
theorem DB{c:Cd}(hg:Good c){r:Int}(h0:0<=r)(h1:r<(c.regs.length:Int))(h3:(A7 c.regs r).kind=3):1<=lenOf c (A7 c.regs r).par/\AW c (A7 c.regs r)=lenOf c (A7 c.regs r).par:=by
 obtain⟨r,rfl⟩:∃j:Nat,r=(j:Int):=⟨r.toNat,oM⟩
 have hr:r<c.regs.length:=oM;rw[Eb hr]at h3 ⊢;have hp:=Br.1 (hg.type (List.getElem_mem hr) h3);obtain⟨pp,hpp⟩:∃pp,c.regs[r].par=pp:=⟨_,rfl⟩
 refine⟨?_,by unfold AW;rw[if_pos h3]⟩;rw[hpp]at hp ⊢;obtain⟨p,rfl⟩:∃j:Nat,pp=(j:Int):=⟨pp.toNat,oM⟩
 obtain⟨_,e2,e3,_⟩:=JL hg (p:=p) oM;omega
theorem Vg{c:Cd}{f:Fr}(hg:Good c)(ok:Iu c f){r:Int}(h0:0<=r)(h1:r<(c.regs.length:Int))(hs:Df c f r.toNat):OR c (A7 c.regs r) (Bl c f r):=by
 have e:((r.toNat:Nat):Int)=r:=oM;unfold Df at hs;rw[e]at hs;have hty:(A7 c.regs r).kind=1\/(A7 c.regs r).kind=2\/(A7 c.regs r).kind=3:=by
  obtain⟨r,rfl⟩:∃j:Nat,r=(j:Int):=⟨r.toNat,oM⟩
  have hr:r<c.regs.length:=oM;rw[Eb hr];exact Zez
 unfold Bl OR;rcases hty with h|h|h
 ·rw[if_pos h];refine⟨by unfold AW;rw[if_neg oM,if_pos h];rfl,fun y hy=>?_,Int.le_refl _,by show(0:Int)<=2147483647;decide⟩;simp at hy;rw[hy];exact ok.nums _
 ·rw[if_neg oM,if_pos h];exact⟨by unfold AW;rw[if_neg oM,if_neg oM];rfl,fun y hy=>by simp at hy,ok.whs _⟩
 ·rw[if_neg oM,if_neg oM];refine⟨?_,ok.vecs _,Int.le_refl _,by show(0:Int)<=2147483647;decide⟩;rw[(DB hg h0 h1 h).2];exact hs h
theorem Xm{op:Int}{args:List (List Int)}(h:∀l∈args,∀y∈l,Az y):∀y∈Cz op args,Az y:=by
 have hX:∀i j,Az (xF args i j):=fun i j=>by
  exact Zee
 intro y hy;unfold Cz at hy;split at hy
 ·simp only[List.mem_map]at hy;obtain⟨k,_,rfl⟩:=hy;exact QO _ _ _ _ (Cq hX _ _ _) (Cq hX _ _ _) (Cq hX _ _ _)
 ·cases hy
theorem Gb{c:Cd}{f:Fr}{i:Ac}(hg:Good c)(ok:Iu c f)(he:Bj i.op=true)(nd:Dy c f i)(hk:(A7 c.regs i.d).kind≠2):
 1<=AW c (A7 c.regs i.d)/\(∀r∈Ab i (A4 i.op),0<=r/\r<(c.regs.length:Int)/\((Bl c f r).pats.length=1\/(Bl c f r).pats.length=AW c (A7 c.regs i.d))/\∀y∈(Bl c f r).pats,Az y)/\((A7 c.regs i.d).kind=1\/(A7 c.regs i.d).kind=3):=by
 obtain⟨d0,d1,_,hr⟩:=nd.elem he;have hty:(A7 c.regs i.d).kind=1\/(A7 c.regs i.d).kind=3:=by
  obtain⟨r,hrr⟩:∃j:Nat,i.d=(j:Int):=⟨i.d.toNat,oM⟩
  rw[hrr]at hk d1 ⊢;have hr:r<c.regs.length:=oM;rw[Eb hr]at hk ⊢;exact Zez
 refine⟨?_,fun r hm=>?_,hty⟩
 ·rcases hty with h|h
  ·unfold AW;rw[if_neg oM,if_pos h];exact Nat.le_refl _
  ·rw[(DB hg d0 d1 h).2];exact(DB hg d0 d1 h).1
 ·obtain⟨r0,r1,hs,hm2⟩:=hr r hm;have hh:=Vg hg ok r0 r1 hs;refine⟨r0,r1,?_,hh.2.1⟩;rcases hm2 with e|⟨e,_⟩
  ·right;rw[←e];exact hh.1
  ·left;rw[hh.1];unfold AW;rw[if_neg oM,if_pos e]
theorem F9{c:Cd}{f:Fr}{i:Ac}(hg:Good c)(ok:Iu c f)(he:Bj i.op=true)(nd:Dy c f i)(hk:(A7 c.regs i.d).kind≠2):
 ((Cz i.op (Bg c f i)).length=1\/(Cz i.op (Bg c f i)).length=AW c (A7 c.regs i.d))/\∀y∈Cz i.op (Bg c f i),Az y:=by
 obtain⟨h1,h2,_⟩:=Gb hg ok he nd hk;have hall:∀l∈Bg c f i,(l.length=1\/l.length=AW c (A7 c.regs i.d))/\∀y∈l,Az y:=by
  intro l hl;unfold Bg at hl;simp only[List.mem_map]at hl;obtain⟨r,hr,rfl⟩:=hl;exact(h2 r hr).2.2
 have hne:(Bg c f i).length≠0:=by
  unfold Bg;rw[List.length_map,←(G6 i he).1];exact(G6 i he).2
 obtain⟨n,hn,hn2⟩:=Lw (l:=lF (Bg c f i)) h1 ((Bg c f i).length-1) (fun k hk=>by
  unfold lF;rw[Hx oM]
  exact(hall _ (List.getElem_mem _)).1)
 exact⟨by rw[(QA (op:=i.op) hn).1];exact hn2,Xm fun l hl=>(hall l hl).2⟩
theorem JD{l:List Int}(h:∀y∈l,Az y):Az (l.headD 0):=by
 cases l with
 |nil=>exact IA
 |cons y l=>exact h y sM
theorem Zr{c:Cd}{f:Fr}(ok:Iu c f){r:Int}{h:Hd}(hp:∀y∈h.pats,Az y)(hl:h.pats.length<=4096)(hw:0<=h.whole/\h.whole<=2147483647):Iu c (In c f r h):=by
 unfold In;split
 ·exact⟨Cc ok.nums (JD hp),ok.whs,ok.vecs,ok.vecsL,ok.slotsL,ok.slots⟩
 ·split
  ·exact⟨ok.nums,Cc (Q:=fun y:Int=>0<=y/\y<=2147483647) ok.whs hw,ok.vecs,ok.vecsL,ok.slotsL,ok.slots⟩
  ·exact⟨ok.nums,ok.whs,Cc (Q:=fun l:List Int=>∀y∈l,Az y) ok.vecs hp,Cc (Q:=fun l:List Int=>l.length<=4096) ok.vecsL hl,ok.slotsL,ok.slots⟩
theorem Wz{c:Cd}{f:Fr}{r:Int}(hr:0<=r){h:Hd}(hl:(A7 c.regs r).kind=3->h.pats.length=lenOf c (A7 c.regs r).par){k:Nat}(hk:k≠r.toNat->Df c f k):Df c (In c f r h) k:=by
 intro h3;by_cases e:k=r.toNat
 ·have e2:(k:Int)=r:=oM;rw[e2]at h3 ⊢;unfold In;rw[if_neg oM,if_neg oM];simp only;rw[e,B3];exact hl h3
 ·have:=hk e h3;unfold In;split
  ·exact this
  ·split
   ·exact this
   ·simp only;rw[By _ _ e];exact this
theorem CB{op:Int}(h:Ak op=true):Dh op=true\/Bm op=true\/op=29\/op=30\/op=31\/op=32\/op=33\/(34<=op/\op<=37)\/Bj op=true:=by
 unfold Ak at h;unfold Dh Bm Bj;simp only[Bool.and_eq_true,Bool.or_eq_true,decide_eq_true_eq,beq_iff_eq]at h ⊢;omega
theorem Ut{op:Int}(h:Bj op=true):Dh op=false/\Bm op=false/\op≠29/\op≠30/\op≠31/\op≠32/\op≠33/\¬ (34<=op/\op<=37):=by
 unfold Bj at h;simp only[Bool.and_eq_true,decide_eq_true_eq]at h;exact Zcr
theorem TI{op:Int}(h:Bm op=true):Dh op=false/\op≠29/\op≠30/\op≠31/\op≠32/\op≠33/\¬ (34<=op/\op<=37):=by
 unfold Bm at h;simp only[Bool.or_eq_true,Bool.and_eq_true,beq_iff_eq,decide_eq_true_eq]at h;have:op=2\/op=18\/op=21\/op=22\/op=23\/op=24\/op=25\/op=26\/op=27\/op=28:=oM;rcases this with rfl|rfl|rfl|rfl|rfl|rfl|rfl|rfl|rfl|rfl<;>decide
section
variable {c : Cd} {G P : List (List Int)} {f : Fr} {i : Ac}
theorem BC(h:Dh i.op=true):CY c G P f i={f with nums:=F1 f.nums i.d.toNat (JM f i)}:=by unfold CY;rw[if_pos h]
theorem B5(h:Bm i.op=true):CY c G P f i={f with whs:=F1 f.whs i.d.toNat (EK f i)}:=by
 unfold CY;rw[(TI h).1,if_neg dE,if_pos h]
theorem C6(h:i.op=29):CY c G P f i={f with vecs:=F1 f.vecs i.d.toNat (Bd c G i)}:=by
 unfold CY;rw[h,if_neg dE,if_neg dE,if_pos rfl]
theorem C7(h:i.op=30):CY c G P f i={f with vecs:=F1 f.vecs i.d.toNat (Bd c P i)}:=by
 unfold CY;rw[h,if_neg dE,if_neg dE,if_neg dE,if_pos rfl]
theorem Cn(h:i.op=31):CY c G P f i={f with outs:=V8 f.outs (A7 c.regs i.a).par.toNat (AM c (A7 c.regs i.a).par) i.n.toNat (f.vecs i.a.toNat)}:=by
 unfold CY;rw[h,if_neg dE,if_neg dE,if_neg dE,if_neg dE,if_pos rfl]
theorem C8(h:i.op=32):CY c G P f i=In c f i.d ((f.slots[i.n.toNat]?).getD ⟨[],0⟩):=by
 unfold CY;rw[h,if_neg dE,if_neg dE,if_neg dE,if_neg dE,if_neg dE,if_pos rfl]
theorem Co(h:i.op=33):CY c G P f i={f with slots:=f.slots.set i.n.toNat (Bl c f i.a)}:=by
 unfold CY;rw[h,if_neg dE,if_neg dE,if_neg dE,if_neg dE,if_neg dE,if_neg dE,if_pos rfl]
theorem AN(h:34<=i.op/\i.op<=37):CY c G P f i=f:=by
 have h0:Dh i.op=false/\Bm i.op=false:=by
  have:i.op=34\/i.op=35\/i.op=36\/i.op=37:=oM;rcases this with e|e|e|e<;>rw[e]<;>decide
 unfold CY;rw[h0.1,h0.2,if_neg dE,if_neg dE,if_neg oM,if_neg oM,if_neg oM,if_neg oM,if_neg oM,if_pos h]
theorem AZ(h:Bj i.op=true):CY c G P f i=E8 c f i:=by
 obtain⟨h1,h2,h3,h4,h5,h6,h7,h8⟩:=Ut h;unfold CY;rw[h1,h2,if_neg dE,if_neg dE,if_neg h3,if_neg h4,if_neg h5,if_neg h6,if_neg h7,if_neg h8]
end
theorem Yh{f:Fr}{c:Cd}(ok:Iu c f){i:Ac}(hb:Az i.bits):Az (JM f i):=by
 unfold JM;refine BE (XN _ _ (ok.nums _).1 (ok.nums _).2) (BE (Ux _) (BE (Y0 _ _ (BY (ok.vecs _))) (BE (Py _ _ (BY (ok.vecs _))) hb)))
theorem G0(b:Bool):0<=BF b/\BF b<=2147483647:=by cases b<;>decide
theorem Ed{p:Prop}[Decidable p]{x y:Int}(h:p->0<=x/\x<=2147483647)(k:¬p->0<=y/\y<=2147483647):0<=(if p then x else y)/\(if p then x else y)<=2147483647:=by
 split
 ·rename_i e;exact h e
 ·rename_i e;exact k e
theorem WP{f:Fr}{c:Cd}(ok:Iu c f){i:Ac}(hw:Bm i.op=true)(hn:i.op=2->0<=i.n/\i.n<=2147483647):0<=EK f i/\EK f i<=2147483647:=by
 have a:=ok.whs i.a.toNat;have b:=ok.whs i.b.toNat;have d:=ok.whs i.c.toNat;unfold Bm at hw;simp only[Bool.or_eq_true,Bool.and_eq_true,beq_iff_eq,decide_eq_true_eq]at hw;unfold EK;refine Ed (fun _=>G0 _) fun h1=>Ed (fun _=>by omega) fun h2=>Ed (fun _=>G0 _) fun h3=>Ed (fun _=>G0 _) fun h4=>Ed (fun _=>G0 _) fun h5=>Ed (fun _=>G0 _) fun h6=>Ed (fun _=>Ed (fun _=>d) fun _=>b) fun h7=>Ed (fun _=>by omega) fun h8=>Ed (fun _=>Ed (fun _=>by decide) fun _=>⟨Int.ediv_nonneg a.1 b.1,?_⟩) fun h9=>hn oM;have:=Int.ediv_le_self (f.whs i.b.toNat) a.1;omega
theorem Zh{c:Cd}{G P:List (List Int)}{f:Fr}{i:Ac}(hg:Good c)(ok:Iu c f)(hk:Ak i.op=true)(hb:Az i.bits)(nd:Dy c f i)(fg:CV c G)(fp:CV c P):Iu c (CY c G P f i):=by
 have pl:∀L:List (List Int),CV c L->(∀y∈Bd c L i,Az y)/\(Bd c L i).length<=4096:=fun L hL=>by
  refine⟨fun y hy=>?_,by unfold Bd;simp only[List.length_map,List.length_range];exact hg.lenOf _⟩;unfold Bd at hy;simp only[List.mem_map]at hy;obtain⟨k,_,rfl⟩:=hy;refine CN _ (BY ?_ _);unfold Em;cases e:L[(A7 c.regs i.d).par.toNat]? with
  |none=>intro y hy;cases hy
  |some l=>exact hL.isP l (List.mem_of_getElem? e)
 rcases CB hk with h|h|h|h|h|h|h|h|h
 ·rw[BC h];exact⟨Cc ok.nums (Yh ok hb),ok.whs,ok.vecs,ok.vecsL,ok.slotsL,ok.slots⟩
 ·rw[B5 h];exact⟨ok.nums,Cc (Q:=fun y:Int=>0<=y/\y<=2147483647) ok.whs (WP ok h (nd.whole h).2.2.2.2.2.2),ok.vecs,ok.vecsL,ok.slotsL,ok.slots⟩
 ·rw[C6 h];exact⟨ok.nums,ok.whs,Cc (Q:=fun l:List Int=>∀y∈l,Az y) ok.vecs (pl G fg).1,Cc (Q:=fun l:List Int=>l.length<=4096) ok.vecsL (pl G fg).2,ok.slotsL,ok.slots⟩
 ·rw[C7 h];exact⟨ok.nums,ok.whs,Cc (Q:=fun l:List Int=>∀y∈l,Az y) ok.vecs (pl P fp).1,Cc (Q:=fun l:List Int=>l.length<=4096) ok.vecsL (pl P fp).2,ok.slotsL,ok.slots⟩
 ·rw[Cn h];exact⟨ok.nums,ok.whs,ok.vecs,ok.vecsL,ok.slotsL,ok.slots⟩
 ·rw[C8 h];obtain⟨d0,d1,n0,n1,ht⟩:=nd.load h;have hn:i.n.toNat<c.slots.length:=oM;have hn2:i.n.toNat<f.slots.length:=by rw[ok.slotsL];exact hn
  have hh:=ok.slots i.n.toNat hn hn2;rw[List.getElem?_eq_getElem hn2,Option.getD_some];exact Zr ok hh.2.1 (by rw[hh.1];exact hg.width _) hh.2.2
 ·rw[Co h];obtain⟨a0,a1,n0,n1,ht,hs⟩:=nd.store h;have hh:=Vg hg ok a0 a1 hs;refine⟨ok.nums,ok.whs,ok.vecs,ok.vecsL,by simp[ok.slotsL],fun j h1 h2=>?_⟩;simp only[List.getElem_set];split
  ·rename_i e;subst e;have:CR c.slots i.n=c.slots[i.n.toNat].ty:=by unfold CR;rw[List.getElem?_eq_getElem h1];rfl
   rw[←this,ht];exact hh
  ·exact ok.slots j h1 (by simpa using h2)
 ·rw[AN h];exact ok
 ·rw[AZ h];obtain⟨d0,d1,a1,_⟩:=nd.elem h;unfold E8;by_cases h2:(A7 c.regs i.d).kind=2
  ·rw[if_pos h2];exact⟨ok.nums,Cc (Q:=fun y:Int=>0<=y/\y<=2147483647) ok.whs (ok.whs _),ok.vecs,ok.vecsL,ok.slotsL,ok.slots⟩
  ·rw[if_neg h2];obtain⟨s1,s2⟩:=F9 hg ok h nd h2;have hw:=hg.width (A7 c.regs i.d);refine Zr ok ?_ ?_ ⟨Int.le_refl _,by show(0:Int)<=2147483647;decide⟩
   ·intro y hy;dsimp only at hy;split at hy
    ·unfold Es at hy;rw[List.eq_of_mem_replicate hy];exact CN _ (JD s2)
    ·exact s2 y hy
   ·dsimp only;split
    ·unfold Es;rw[List.length_replicate];exact hw
    ·omega
theorem Ul{c:Cd}{G P:List (List Int)}{f:Fr}{i:Ac}(hg:Good c)(ok:Iu c f)(hk:Ak i.op=true)(nd:Dy c f i){r:Nat}(hr:((A4 i.op).d=0\/r≠i.d.toNat)->Df c f r):Df c (CY c G P f i) r:=by
 have pl:∀L:List (List Int),(Bd c L i).length=lenOf c (A7 c.regs i.d).par:=fun L=>by unfold Bd;simp
 have other:∀ (f':Fr),f'.vecs=f.vecs->((A4 i.op).d≠0->(A7 c.regs i.d).kind≠3/\0<=i.d)->Df c f' r:=fun f' hv hk3 h3=>by
  rw[hv];refine hr ?_ h3;by_cases e:(A4 i.op).d=0
  ·exact .inl e
  ·refine .inr fun e2=>(hk3 e).1 ?_;have:=(hk3 e).2;have e3:(r:Int)=i.d:=oM;rw[e3]at h3;exact h3
 have vec:∀L:List (List Int),0<=i.d->(A4 i.op).d≠0->Df c {f with vecs:=F1 f.vecs i.d.toNat (Bd c L i)} r:=fun L h0 hd h3=>by
  by_cases e:r=i.d.toNat
  ·have e3:(r:Int)=i.d:=oM;rw[e3];show(F1 f.vecs i.d.toNat (Bd c L i) r).length=_;rw[e,B3,pl]
  ·show(F1 f.vecs i.d.toNat (Bd c L i) r).length=_;rw[By _ _ e];exact hr (.inr e) h3
 rcases CB hk with h|h|h|h|h|h|h|h|h
 ·rw[BC h];exact other _ rfl fun _=>⟨by rw[(nd.num h).2.2.2.2];decide,(nd.num h).1⟩
 ·rw[B5 h];exact other _ rfl fun _=>⟨by rw[(nd.whole h).2.2.2.2.2.1];decide,(nd.whole h).1⟩
 ·rw[C6 h];exact vec G (nd.part (.inl h)).r0 (by rw[h];decide)
 ·rw[C7 h];exact vec P (nd.part (.inr h)).r0 (by rw[h];decide)
 ·rw[Cn h];exact other _ rfl fun e=>absurd (by rw[h];decide) e
 ·rw[C8 h];obtain⟨d0,d1,n0,n1,ht⟩:=nd.load h;have hn:i.n.toNat<c.slots.length:=oM;have hn2:i.n.toNat<f.slots.length:=by rw[ok.slotsL];exact hn
  have hh:=ok.slots i.n.toNat hn hn2;rw[List.getElem?_eq_getElem hn2,Option.getD_some];refine Wz d0 (fun h3=>?_) fun e=>hr (.inr e);have:CR c.slots i.n=c.slots[i.n.toNat].ty:=by unfold CR;rw[List.getElem?_eq_getElem hn];rfl
  rw[hh.1,←this,ht];exact(DB hg d0 d1 h3).2
 ·rw[Co h];exact other _ rfl fun e=>absurd (by rw[h];decide) e
 ·rw[AN h];refine hr (.inl ?_);have:i.op=34\/i.op=35\/i.op=36\/i.op=37:=oM;rcases this with e|e|e|e<;>rw[e]<;>decide
 ·rw[AZ h];obtain⟨d0,d1,a1,_⟩:=nd.elem h;unfold E8;by_cases h2:(A7 c.regs i.d).kind=2
  ·rw[if_pos h2];exact other _ rfl fun _=>⟨by rw[h2];decide,d0⟩
  ·rw[if_neg h2];obtain⟨s1,s2⟩:=F9 hg ok h nd h2;refine Wz d0 (fun h3=>?_) fun e=>hr (.inr e);have hw:=(DB hg d0 d1 h3)
   dsimp only;rw[hw.2]at s1 ⊢;split
   ·unfold Es;rw[List.length_replicate];exact hw.2
   ·omega
def Md(c:Cd)(s:Wk)(f:Fr)(k:Nat):Prop:=
 (k=0/\∀r∈s.set,Df c f r)\/(∃pre b rest,s.opens=pre++b::rest/\b.loop=false/\k=(pre.filter fun x=> !x.loop).length+1/\∀r∈s.set.take b.ahead,Df c f r)
theorem PG:∀ {pre:List Bk} {b:Bk} {rest:List Bk} {n:Nat},okO n (pre++b::rest)->b.ahead<=n/\∀p∈pre,b.ahead<=p.ahead
 |[],b,rest,n,h=>⟨h.1,fun p hp=>by cases hp⟩
 |q::pre,b,rest,n,h=>by
  obtain⟨h1,h2⟩:=PG h.2;refine⟨Nat.le_trans h1 h.1,fun p hp=>?_⟩;rcases List.mem_cons.1 hp with e|e
  ·rw[e];exact h1
  ·exact h2 p e
theorem GG{s:Wk}{i:Ac}{r:Rw}(h:r.d=0):CG s i r=s:=by unfold CG;rw[if_neg (fun e=>e.1 h)]
theorem Qj{s:Wk}{i:Ac}(h1:i.op≠34)(h2:i.op≠35)(h3:i.op≠36)(h4:i.op≠37):BJ s i=s:=by
 unfold BJ;rw[if_neg oM,if_neg oM]
theorem QS{s:Wk}{i:Ac}{r:Rw}{x:Nat}(h:x∈(CG s i r).set):x∈s.set\/(r.d≠0/\x=i.d.toNat):=by
 unfold CG at h;split at h
 ·rename_i e;rcases List.mem_append.1 h with h|h
  ·exact .inl h
  ·simp at h;exact .inr ⟨e.1,h⟩
 ·exact .inl h
theorem N9{s:Wk}{i:Ac}{r:Rw}{n:Nat}(h:n<=s.set.length):(CG s i r).set.take n=s.set.take n/\(CG s i r).opens=s.opens:=by
 unfold CG;split
 ·exact⟨List.take_append_of_le_length h,rfl⟩
 ·exact⟨rfl,rfl⟩
theorem Kh{s:Wk}{i:Ac}(h:i.op=34):Af s i=⟨s.set,⟨false,i.n,s.set.length⟩::s.opens⟩:=by
 unfold Af Di;rw[GG (by rw[h];rfl)];unfold BJ;rw[if_pos (.inl h),h];rfl
theorem Ki{s:Wk}{i:Ac}(h:i.op=36):Af s i=⟨s.set,⟨true,i.n,s.set.length⟩::s.opens⟩:=by
 unfold Af Di;rw[GG (by rw[h];rfl)];unfold BJ;rw[if_pos (.inr h),h];rfl
theorem G5{s:Wk}{i:Ac}(h:i.op=35\/i.op=37):Af s i=AG s:=by
 unfold Af Di;rw[GG Zhf];unfold BJ;rw[if_neg oM,if_pos h]
theorem Fx{s:Wk}{i:Ac}(h1:i.op≠34)(h2:i.op≠35)(h3:i.op≠36)(h4:i.op≠37):Af s i=CG s i (A4 i.op):=by
 unfold Af Di;rw[Qj h1 h2 h3 h4]
theorem Ly{s:Wk}{r:Nat}(h:r∈(AG s).set):r∈s.set:=by
 unfold AG at h;split at h
 ·dsimp only at h;split at h
  ·exact h
  ·exact List.mem_of_mem_take h
 ·exact h
theorem H7{c:Cd}{G P:List (List Int)}{s:Wk}{f:Fr}{k:Nat}{i:Ac}(hg:Good c)(oks:DQ c.regs.length s)(t:Aq c s i=true)(ok:Iu c f)(hb:Az i.bits)(fg:CV c G)(fp:CV c P)(sk:Md c s f k):
 Iu c (Ay c G P (f,k) i).1/\Md c (Af s i) (Ay c G P (f,k) i).1 (Ay c G P (f,k) i).2:=by
 obtain⟨hkn,_,hst,_⟩:=Ah t;rcases sk with⟨rfl,hs⟩|⟨pre,b,rest,ho,hbl,rfl,hs⟩
 ·have nd:=QU t hs;have hdo:Iu c (CY c G P f i):=Zh hg ok hkn hb nd fg fp;by_cases h34:i.op=34
  ·rw[Kh h34];by_cases hz:f.whs i.a.toNat=0
   ·have e:Ay c G P (f,0) i=(f,1):=by
     unfold Ay;rw[if_neg oM,if_pos ⟨h34,.inr hz⟩]
    rw[e];refine⟨ok,.inr ⟨[],⟨false,i.n,s.set.length⟩,s.opens,rfl,rfl,rfl,fun r hr=>hs r ?_⟩⟩;exact List.mem_of_mem_take hr
   ·have e:Ay c G P (f,0) i=(f,0):=by
     unfold Ay;rw[if_neg oM,if_neg (by simp[hz]),if_pos rfl,AN oM]
    rw[e];exact⟨ok,.inl ⟨rfl,hs⟩⟩
  ·have e:Ay c G P (f,0) i=(CY c G P f i,0):=by
    unfold Ay;rw[if_neg oM,if_neg oM,if_pos rfl]
   rw[e];refine⟨hdo,.inl ⟨rfl,fun r hr=>?_⟩⟩;by_cases h35:i.op=35\/i.op=37
   ·rw[G5 h35]at hr;rw[AN oM];exact hs r (Ly hr)
   ·by_cases h36:i.op=36
    ·rw[Ki h36]at hr;rw[AN oM];exact hs r hr
    ·rw[Fx h34 oM h36 oM]at hr;refine Ul hg ok hkn nd fun hr2=>?_;rcases QS hr with h|⟨h,h'⟩
     ·exact hs r h
     ·rcases hr2 with q|q
      ·exact absurd q h
      ·exact absurd h' q
 ·obtain⟨hah,hpre⟩:=PG (by have:=oks.opens;rw[ho]at this;exact this);obtain⟨K,hK⟩:∃K,(pre.filter fun x=> !x.loop).length=K:=⟨_,rfl⟩
  rw[hK];by_cases h34:i.op=34
  ·have e:Ay c G P (f,K+1) i=(f,K+2):=by
    unfold Ay;rw[if_neg oM,if_pos ⟨h34,.inl (by show 0<K+1;omega)⟩]
   rw[e,Kh h34];refine⟨ok,.inr ⟨⟨false,i.n,s.set.length⟩::pre,b,rest,by rw[ho];rfl,hbl,?_,hs⟩⟩;rw[List.filter_cons_of_pos rfl,List.length_cons,hK]
  ·by_cases h35:i.op=35
   ·have e:Ay c G P (f,K+1) i=(f,K):=by
     unfold Ay;rw[if_pos ⟨by show 0<K+1;omega,h35⟩];rfl
    rw[e,G5 (.inl h35)];refine⟨ok,?_⟩;have hnl:Aj s=false:=by
     exact Zfa
    unfold Aj at hnl;unfold AG;rw[ho]at hnl ⊢;cases pre with
    |nil=>
     simp only[List.nil_append]at hnl ⊢;simp at hK;refine .inl ⟨hK.symm,fun r hr=>hs r ?_⟩;rw[hbl]at hr;simpa using hr
    |cons p pre=>
     simp only[List.cons_append]at hnl ⊢;have hp:=hpre p sM;refine .inr ⟨pre,b,rest,rfl,hbl,?_,fun r hr=>hs r ?_⟩
     ·rw[List.filter_cons_of_pos (by rw[hnl];rfl),List.length_cons]at hK;omega
     ·rw[hnl]at hr;simp only[Bool.false_eq_true,if_false,List.take_take]at hr;rw[Nat.min_eq_left hp]at hr;exact hr
   ·have e:Ay c G P (f,K+1) i=(f,K+1):=by
     unfold Ay;rw[if_neg oM,if_neg oM,if_neg (by show¬ (K+1=0);omega)]
    rw[e];refine⟨ok,?_⟩;by_cases h36:i.op=36
    ·rw[Ki h36];refine .inr ⟨⟨true,i.n,s.set.length⟩::pre,b,rest,by rw[ho];rfl,hbl,?_,hs⟩;rw[List.filter_cons_of_neg sM,hK]
    ·by_cases h37:i.op=37
     ·rw[G5 (.inr h37)];have hnl:Aj s=true:=by
       unfold At at hst;rw[if_neg oM,if_neg oM,if_pos h37]at hst;exact hst
      unfold Aj at hnl;unfold AG;rw[ho]at hnl ⊢;cases pre with
      |nil=>
       simp only[List.nil_append]at hnl;rw[hbl]at hnl;cases hnl
      |cons p pre=>
       simp only[List.cons_append]at hnl ⊢;refine .inr ⟨pre,b,rest,rfl,hbl,?_,fun r hr=>hs r ?_⟩
       ·rw[List.filter_cons_of_neg (by rw[hnl];decide)]at hK;omega
       ·rw[hnl]at hr;simpa using hr
     ·rw[Fx h34 h35 h36 h37];obtain⟨h1,h2⟩:=N9 (i:=i) (r:=A4 i.op) hah;exact .inr ⟨pre,b,rest,by rw[h2];exact ho,hbl,by rw[hK],fun r hr=>hs r (by rw[h1]at hr;exact hr)⟩
theorem NF(c:Cd)(G P:List (List Int))(s:Fr×Nat)(l:List Ac){j:Nat}(hj:j<l.length):Sk c G P s (l.take (j+1))=Ay c G P (Sk c G P s (l.take j)) l[j]:=by
 unfold Sk;rw[List.take_succ_eq_append_getElem hj,List.foldl_append];rfl
theorem UU(c:Cd)(G P:List (List Int))(f:Fr)(K:Nat){i:Ac}(h:i.op=35):Ay c G P (f,K+1) i=(f,K):=by
 unfold Ay;rw[if_pos ⟨by show 0<K+1;omega,h⟩];rfl
theorem MD(c:Cd)(G P:List (List Int))(f:Fr)(K:Nat){i:Ac}(h:i.op=34)(hz:0<K\/f.whs i.a.toNat=0):Ay c G P (f,K) i=(f,K+1):=by
 unfold Ay;rw[if_neg oM,if_pos ⟨h,hz⟩]
theorem ME(c:Cd)(G P:List (List Int))(f:Fr){i:Ac}(h:¬ (i.op=34/\f.whs i.a.toNat=0)):Ay c G P (f,0) i=(CY c G P f i,0):=by
 unfold Ay;rw[if_neg (fun e=>absurd e.1 (by show¬0<0;omega)),if_neg (fun e=>h ⟨e.1,e.2.resolve_left (by show¬0<0;omega)⟩),if_pos rfl]
theorem UV(c:Cd)(G P:List (List Int))(f:Fr)(K:Nat){i:Ac}(h1:i.op≠34)(h2:i.op≠35):Ay c G P (f,K+1) i=(f,K+1):=by
 unfold Ay;rw[if_neg (fun e=>h2 e.2),if_neg (fun e=>h1 e.1),if_neg (by show¬ (K+1=0);omega)]
theorem Tn(i:Ac):((A4 i.op).d != 0)=Aa i:=by unfold Aa;by_cases h:(A4 i.op).d=0<;>simp[h]
theorem IP(B SB N:Nat)(l:List Ac)(i:Ac)(w:World)(hN:N<=16384)(h1:w.cell? ⟨B,1,none⟩=some (.slice (some ⟨SB,0,none⟩) N N))(hrow:w.rowIs SB 4 N (fun r=>.bool (Ar l r)))(hd:Aa i=true->0<=i.d/\i.d<(N:Int))(hr:∀r∈Ab i (A4 i.op),0<=r/\r<(N:Int)):
 Calls prog 82 #[.pointer (some ⟨B,0,none⟩),AV i] w fun e w'=>e=.returned (.bool (Bx l i))/\Below w.heap.size w w':=by
 have KS:Hid (∀v,Calls prog 51 #[AV i] v fun e w'=>e=.returned (.bool (Aa i))/\Below v.heap.size v w'):=fun v=>by have h9:=Ot i v;rw[Tn]at h9;exact h9
 have KR:=A8 (fun v=>LR i v);obtain⟨Lr,hLr⟩:∃L,Ab i (A4 i.op)=L:=⟨_,rfl⟩
 have hlen:Lr.length<=3:=by rw[←hLr];unfold Ab;split<;>split<;>split<;>simp
 obtain⟨RES,hRES⟩:∃X,Bx l i=X:=⟨_,rfl⟩
 have HW:Hid (RES=(Aa i&&(Ar l i.d.toNat&&Lr.all fun r=>Ar l r.toNat))):=by show _=_;rw[←hRES,←hLr];rfl
 rw[hRES];simp only[hLr]at KR hr;obtain⟨ss,hss⟩:∃X,Aa i=X:=⟨_,rfl⟩
 rw[hss]at hd KS HW;clear hRES hLr hss;obtain⟨op,d,a,b,e,n,z⟩:=i;unfold AV at KS KR ⊢;simp only at hd KS KR HW ⊢;obtain⟨W1,hW1⟩:∃W,w.alloc (.cells #[.int .i64 op,.int .i64 d,.int .i64 a,.int .i64 b,.int .i64 e,.int .i64 n,.int .u32 z] 44)=W:=⟨_,rfl⟩
 have HB1:Hid (Below w.heap.size w W1):=by rw[←hW1];exact A0 _ _
 have HC:Hid (∀v,Below W1.heap.size W1 v->v.cell? ⟨w.heap.size,0,none⟩=some (.int .i64 op)/\v.cell? ⟨w.heap.size,1,none⟩=some (.int .i64 d)/\v.cell? ⟨w.heap.size,2,none⟩=some (.int .i64 a)/\v.cell? ⟨w.heap.size,3,none⟩=some (.int .i64 b)/\v.cell? ⟨w.heap.size,4,none⟩=some (.int .i64 e)/\v.cell? ⟨w.heap.size,5,none⟩=some (.int .i64 n)/\v.cell? ⟨w.heap.size,6,none⟩=some (.int .u32 z)/\v.cell? ⟨B,1,none⟩=some (.slice (some ⟨SB,0,none⟩) N N)):=by
  intro v hv;have hv2:=bel HB1.out hv;rw[←hW1]at hv;exact⟨kc hv sG,kc hv sG,kc hv sG,kc hv sG,kc hv sG,kc hv sG,kc hv sG,kc hv2 h1⟩
 have HROW:Hid (∀v,Below W1.heap.size W1 v->∀r,r<N->v.cell? ⟨SB,r,none⟩=some (.bool (Ar l r))):=fun v hv r hr=>((hrow.of_block ((bel HB1.out hv).block _ hrow.lt)).cell hr)
 have HHR:=A8 hr;clear h1 hrow hr;obtain⟨c0,c1,c2,c3,c4,c5,c6,c7⟩:=HC.out W1 (Be _);cases ss with
 |false=>
  have HF:Hid (RES=false):=by rw[HW.out];rfl
  clear HW hd KR HHR HROW;go_enter func82,ntmps82;go_wp2;refine rG (fun v=>v.cell? ⟨w.heap.size,0,none⟩=some (.int .i64 op)/\v.cell? ⟨w.heap.size,1,none⟩=some (.int .i64 d)/\v.cell? ⟨w.heap.size,2,none⟩=some (.int .i64 a)/\v.cell? ⟨w.heap.size,3,none⟩=some (.int .i64 b)/\v.cell? ⟨w.heap.size,4,none⟩=some (.int .i64 e)/\v.cell? ⟨w.heap.size,5,none⟩=some (.int .i64 n)/\v.cell? ⟨w.heap.size,6,none⟩=some (.int .u32 z)) fun hHeld=>?_;refine Bq 0 ?_;clear hHeld;refine AC 1 fun K hK=>?_;go_simp;(go_at_call 51;(with_reducible refine(KS.out _).mono ?_);rintro e9 w2 ⟨rfl,hb2⟩;have HB2:Hid (Below W1.heap.size W1 w2):=bel (C5 _) hb2;clear hb2 c0 c1 c2 c3 c4 c5 c6 c7;obtain⟨c0,c1,c2,c3,c4,c5,c6,c7⟩:=HC.out w2 HB2.out);try(go_wp2_with fail)
  refine Ax hK fun hHeld=>?_;clear hK K;refine Tb 2 3 ?_;refine Kd 4 5 6 7 ?_;refine Kd 8 9 10 11 ?_;refine Da 12 ?_;refine Bq 13 ?_;refine wpAnyH_done kR ?_ _;go_wp2;go_ret;exact⟨by have h9:=HF.out;simp[h9],bel HB1.out HB2.out⟩
 |true=>
  obtain⟨d0,d1⟩:=hd rfl;have HW2:Hid (RES=(Ar l d.toNat&&Lr.all fun r=>Ar l r.toNat)):=by show _=_;rw[HW.out];rfl
  clear HW;obtain⟨D,rfl⟩:=Int.eq_ofNat_of_zero_le d0;rw[Int.toNat_natCast]at HW2;have hD:D<N:=oM;have sD:=HROW.out W1 (Be _) D hD;obtain⟨sd,hsd⟩:∃X,Ar l D=X:=⟨_,rfl⟩
  have HSD:=A8 hsd;rw[hsd]at sD HW2;clear hd hsd;have e1:(0:Int)<=(D:Int):=oM;have e2:(D:Int)<(N:Int):=oM;go_enter func82,ntmps82;go_wp2;refine rG (fun v=>v.cell? ⟨w.heap.size,0,none⟩=some (.int .i64 op)/\v.cell? ⟨w.heap.size,1,none⟩=some (.int .i64 (D:Int))/\v.cell? ⟨w.heap.size,2,none⟩=some (.int .i64 a)/\v.cell? ⟨w.heap.size,3,none⟩=some (.int .i64 b)/\v.cell? ⟨w.heap.size,4,none⟩=some (.int .i64 e)/\v.cell? ⟨w.heap.size,5,none⟩=some (.int .i64 n)/\v.cell? ⟨w.heap.size,6,none⟩=some (.int .u32 z)/\v.cell? ⟨B,1,none⟩=some (.slice (some ⟨SB,0,none⟩) N N)/\v.cell? ⟨SB,D,none⟩=some (.bool sd)) fun hHeld=>?_;refine Bq 0 ?_;clear hHeld;refine AC 1 fun K hK=>?_;go_simp;(go_at_call 51;(with_reducible refine(KS.out _).mono ?_);rintro e9 w2 ⟨rfl,hb2⟩;have HB2:Hid (Below W1.heap.size W1 w2):=bel (C5 _) hb2;clear hb2 c0 c1 c2 c3 c4 c5 c6 c7 sD;obtain⟨c0,c1,c2,c3,c4,c5,c6,c7⟩:=HC.out w2 HB2.out;have sD:=HROW.out w2 HB2.out D hD;rw[HSD.out]at sD);try(go_wp2_with fail)
  refine Ax hK fun hHeld=>?_;clear hK K;refine Tf 2 3 4 5 6 7 ?_;refine Tf 8 9 10 11 12 13 ?_;refine wpAnyH_done kR ?_ _;cases sd with
  |false=>
   have HF:Hid (RES=false):=by rw[HW2.out];rfl
   go_wp2;go_ret;exact⟨by have h9:=HF.out;simp[h9],bel HB1.out HB2.out⟩
  |true=>
   have HW3:Hid (RES=Lr.all fun r=>Ar l r.toNat):=by show _=_;rw[HW2.out];rfl
   clear HW2;go_wp2_with(go_at_call 67;(with_reducible refine(KR.out _).mono ?_);rintro e9 w3 ⟨v3,rfl,ho3,hb3⟩;obtain⟨p3,q3,rfl⟩:=AK ho3;have HO3:=A8 ho3;have HB3:Hid (Below W1.heap.size W1 w3):=bel HB2.out hb3;clear ho3 hb3)
   go_loopw [24] (fun iv wr=>∃j:Nat,j<=Lr.length/\iv=.int .i64 (j:Int)/\Hid ((Lr.take j).all (fun r=>Ar l r.toNat)=true)/\wr=w3) (fun iv _=>Lr.length-(intOf iv).toNat)
   case atStart=>exact⟨0,Nat.zero_le _,rfl,(show _=true by simp),rfl⟩
   case round=>
    obtain⟨j,hj,rfl,HJ,rfl⟩:=hrel;by_cases hlt:j<Lr.length
    ·have hm:Lr[j]∈Lr:=List.getElem_mem hlt;obtain⟨r0,r1⟩:=HHR.out _ hm;obtain⟨r,hrj⟩:∃r:Nat,Lr[j]=(r:Int):=⟨Lr[j].toNat,(Int.toNat_of_nonneg r0).symm⟩
     rw[hrj]at r0 r1;obtain⟨c0,c1,c2,c3,c4,c5,c6,c7⟩:=HC.out wr HB3.out;have hrN:r<N:=oM;have sR:=HROW.out wr HB3.out r hrN;obtain⟨g,cap,e9,h91,h92⟩:=HO3.out.form oM;simp only[Value.slice.injEq]at e9;obtain⟨rfl,-,rfl⟩:=e9;have xj:wr.cell? ⟨g,j,none⟩=some (.int .i64 (r:Int)):=by
      rw[HO3.out.cellAt j (by simp[BQ];omega)];simp[BQ,hlt,hrj]
     have i1:(0:Int)<=(j:Int):=oM;have i2:(j:Int)<(Lr.length:Int):=oM;have wi:IntKind.i64.wrap ((j:Int)+1)=((j+1:Nat):Int):=by rw[IntKind.wrap_i64];omega
     obtain⟨sr,hsr⟩:∃X,Ar l r=X:=⟨_,rfl⟩
     have HSR:Hid (Ar l Lr[j].toNat=sr):=by rw[hrj,Int.toNat_natCast];exact hsr
     rw[hsr]at sR;have HRJ:=A8 hrj;clear hsr hrj hm h91 h92;cases sr with
     |false=>
      have HF:Hid (RES=false):=by
       show _=_;rw[HW3.out,List.all_eq_false];exact⟨Lr[j],List.getElem_mem hlt,by rw[HSR.out];simp⟩
      go_wp2;go_ret;exact⟨by have h9:=HF.out;simp[h9],bel HB1.out HB3.out⟩
     |true=>
      go_wp2;go_roundw
      case rel=>
       refine⟨j+1,oM,gN,?_,fT⟩;show _=true;rw[List.take_add_one,List.getElem?_eq_getElem hlt,List.all_append,HJ.out];simp[HSR.out]
      case measure=>simp[intOf];omega
    ·have e9:¬ (j:Int)<(Lr.length:Int):=oM;have HT:Hid (RES=true):=by
      show _=_;have hjl:j=Lr.length:=oM;rw[HW3.out];have h9:=HJ.out;rw[hjl,List.take_length]at h9;exact h9
     clear hlt;go_wp2;go_ret;exact⟨by have h9:=HT.out;simp[h9],bel HB1.out HB3.out⟩
theorem Qp(B SB N:Nat)(l:List Ac)(i:Ac)(w:World)(hN:N<=16384)(h1:w.cell? ⟨B,1,none⟩=some (.slice (some ⟨SB,0,none⟩) N N))(hrow:w.rowIs SB 4 N (fun r=>.bool (Ar l r)))(hd:Aa i=true->0<=i.d/\i.d<(N:Int))(hr:∀r∈Ab i (A4 i.op),0<=r/\r<(N:Int)):
 Calls prog 55 #[.pointer (some ⟨B,0,none⟩),AV i] w fun e w'=>e=.returned (.bool (decide (i.op≠32/\i.op≠3)&&Bx l i))/\Below w.heap.size w w':=by
 have KW:Hid (∀v,Below w.heap.size w v->Calls prog 82 #[.pointer (some ⟨B,0,none⟩),AV i] v fun e w'=>e=.returned (.bool (Bx l i))/\Below v.heap.size v w'):=fun v hv=>IP B SB N l i v hN (kc hv h1) (hrow.of_block (hv.block _ hrow.lt)) hd hr;obtain⟨X,hX⟩:∃X,Bx l i=X:=⟨_,rfl⟩
 rw[hX]at KW ⊢;clear h1 hrow hd hr hX;obtain⟨op,d,a,b,e,n,z⟩:=i;unfold AV at KW ⊢;simp only at KW ⊢;by_cases o32:op=32
 ·subst o32;go_enter func55,ntmps55;go_wp2;go_ret;exact⟨sM,A0 _ _⟩
 ·by_cases o3:op=3
  ·subst o3;go_enter func55,ntmps55;go_wp2;go_ret;exact⟨sM,A0 _ _⟩
  ·have n1:(op != 32)=true:=by simpa using o32
   have n2:(op != 3)=true:=by simpa using o3
   go_enter func55,ntmps55;go_wp2_with(go_at_call 82;(with_reducible refine(KW.out _ (A0 _ _)).mono ?_);rintro e9 w2 ⟨rfl,hb2⟩;have HB2:=A8 hb2;clear hb2);go_ret;exact⟨by simp[o32,o3],bel (A0 _ _) HB2.out⟩
def F7(c:Array Value)(i:Nat):Value:=(c[i]?).getD (.int .i64 0)
theorem Bn(w:World)(c:Array Value)(t:TypeId):(w.alloc (.cells c t)).rowIs w.heap.size t c.size (F7 c):=World.rowIs_alloc w c t _ (fun i hi=>by unfold F7;simp[hi])
theorem RJ(B C rb ro n1 q1 D:Nat)(t:Ty)(i:Ac)(w:World)(hb:w.cell? ⟨B,0,none⟩=some (.pointer (some ⟨C,0,none⟩)))(hc:w.cell? ⟨C,1,none⟩=some (.slice (some ⟨rb,ro,none⟩) n1 q1))(hD:D<n1)(hn1:n1<=16384)(hi:i.d=(D:Int))(ht:Ai w rb (ro+D*2) (Kp t)):
 Calls prog 56 #[.pointer (some ⟨B,0,none⟩),AV i] w fun e w'=>e=.returned (KU ⟨{i with d:=0},t⟩)/\Below w.heap.size w w':=by
 obtain⟨op,d,a,b,e,n,z⟩:=i;simp only at hi;subst hi;obtain⟨tk,tp⟩:=t;have y0:=ht.at 0 (v:=.int .i64 tk) rfl;have y1:=ht.at 1 (v:=.int .i64 tp) rfl;rw[Nat.add_zero]at y0;have lB:B<w.heap.size:=A5 hb;have lC:C<w.heap.size:=A5 hc;have lr:rb<w.heap.size:=A5 y0;have e1:(0:Int)<=(D:Int):=oM;have e2:(D:Int)<(n1:Int):=oM;unfold AV KU;simp only;obtain⟨W1,hW1⟩:∃W,(w.alloc (.cells #[.int .i64 op,.int .i64 (D:Int),.int .i64 a,.int .i64 b,.int .i64 e,.int .i64 n,.int .u32 z] 44)).alloc (.cells #[.int .i64 0,.int .i64 0,.int .i64 0,.int .i64 0,.int .i64 0,.int .i64 0,.int .u32 0,.int .i64 0,.int .i64 0] 108)=W:=⟨_,rfl⟩
 have HB1:Hid (Below w.heap.size w W1):=by rw[←hW1];exact bel (A0 _ _) (A0 _ _)
 have HS1:Hid (W1.heap.size=w.heap.size+1+1):=by rw[←hW1];show _=_;simp
 have HI:Hid (W1.rowIs w.heap.size 44 7 (F7 #[.int .i64 op,.int .i64 (D:Int),.int .i64 a,.int .i64 b,.int .i64 e,.int .i64 n,.int .u32 z])):=by rw[←hW1];exact(Bn w _ _).alloc _
 have HR:Hid (W1.rowIs (w.heap.size+1) 108 9 (F7 #[.int .i64 0,.int .i64 0,.int .i64 0,.int .i64 0,.int .i64 0,.int .i64 0,.int .u32 0,.int .i64 0,.int .i64 0])):=by
  rw[←hW1];have h9:=Bn (w.alloc (.cells #[.int .i64 op,.int .i64 (D:Int),.int .i64 a,.int .i64 b,.int .i64 e,.int .i64 n,.int .u32 z] 44)) #[.int .i64 0,.int .i64 0,.int .i64 0,.int .i64 0,.int .i64 0,.int .i64 0,.int .u32 0,.int .i64 0,.int .i64 0] 108;have e9:(w.alloc (.cells #[.int .i64 op,.int .i64 (D:Int),.int .i64 a,.int .i64 b,.int .i64 e,.int .i64 n,.int .u32 z] 44)).heap.size=w.heap.size+1:=sM;rw[e9]at h9;exact h9
 have c0:W1.cell? ⟨B,0,none⟩=some (.pointer (some ⟨C,0,none⟩)):=kc HB1.out hb;have c1:W1.cell? ⟨C,1,none⟩=some (.slice (some ⟨rb,ro,none⟩) n1 q1):=kc HB1.out hc;have c2:W1.cell? ⟨rb,ro+D*2,none⟩=some (.int .i64 tk):=kc HB1.out y0;have c3:W1.cell? ⟨rb,ro+D*2+1,none⟩=some (.int .i64 tp):=kc HB1.out y1;have c4:W1.cell? ⟨w.heap.size,1,none⟩=some (.int .i64 (D:Int)):=HI.out.cell (i:=1) dE;clear hb hc y0 y1 ht;go_enter func56,ntmps56;go_wp2;refine rG (fun v=>v.cell? ⟨B,0,none⟩=some (.pointer (some ⟨C,0,none⟩))/\v.cell? ⟨C,1,none⟩=some (.slice (some ⟨rb,ro,none⟩) n1 q1)/\v.cell? ⟨rb,ro+D*2,none⟩=some (.int .i64 tk)/\v.cell? ⟨rb,ro+D*2+1,none⟩=some (.int .i64 tp)/\v.cell? ⟨w.heap.size,1,none⟩=some (.int .i64 (D:Int))) fun hHeld=>?_;refine Tf 0 1 2 3 4 5 ?_;refine Tc 6 7 8 ?_;refine Tb 9 10 ?_;clear hHeld;refine AC 11 fun K hK=>?_;go_simp;refine Ax hK fun hHeld=>?_;clear hK K;clear hHeld;refine AC 12 fun K hK=>?_;go_simp;refine Ax hK fun hHeld=>?_;clear hK K;refine wpAnyH_done kR ?_ _;obtain⟨V,hV⟩:∃V,(W1.alloc (.cells #[.int .i64 tk,.int .i64 tp] 46)).drew=V:=⟨_,rfl⟩
 have HBV:Hid (Below W1.heap.size W1 V):=by rw[←hV];exact bel (A0 _ _) (C5 _)
 have hIV:=HI.out.of_block (HBV.out.block _ HI.out.lt);have hRV:=HR.out.of_block (HBV.out.block _ HR.out.lt);have hTV:V.rowIs W1.heap.size 46 2 (F7 #[.int .i64 tk,.int .i64 tp]):=by rw[←hV];exact(Bn W1 _ _).drew
 have b0:V.cell? ⟨w.heap.size,0,none⟩=some (.int .i64 op):=hIV.cell (i:=0) dE;have b1:V.cell? ⟨w.heap.size,1,none⟩=some (.int .i64 (D:Int)):=hIV.cell (i:=1) dE;have b2:V.cell? ⟨w.heap.size,2,none⟩=some (.int .i64 a):=hIV.cell (i:=2) dE;have b3:V.cell? ⟨w.heap.size,3,none⟩=some (.int .i64 b):=hIV.cell (i:=3) dE;have b4:V.cell? ⟨w.heap.size,4,none⟩=some (.int .i64 e):=hIV.cell (i:=4) dE;have b5:V.cell? ⟨w.heap.size,5,none⟩=some (.int .i64 n):=hIV.cell (i:=5) dE;have b6:V.cell? ⟨w.heap.size,6,none⟩=some (.int .u32 z):=hIV.cell (i:=6) dE;have g1:=hIV.frozen 1;have t0:V.cell? ⟨W1.heap.size,0,none⟩=some (.int .i64 tk):=hTV.cell (i:=0) dE;have t1:V.cell? ⟨W1.heap.size,1,none⟩=some (.int .i64 tp):=hTV.cell (i:=1) dE;have r0:V.cell? ⟨w.heap.size+1,0,none⟩=some (.int .i64 0):=hRV.cell (i:=0) dE;have k0:=hRV.frozen 0;have r1:V.cell? ⟨w.heap.size+1,1,none⟩=some (.int .i64 0):=hRV.cell (i:=1) dE;have k1:=hRV.frozen 1;have r2:V.cell? ⟨w.heap.size+1,2,none⟩=some (.int .i64 0):=hRV.cell (i:=2) dE;have k2:=hRV.frozen 2;have r3:V.cell? ⟨w.heap.size+1,3,none⟩=some (.int .i64 0):=hRV.cell (i:=3) dE;have k3:=hRV.frozen 3;have r4:V.cell? ⟨w.heap.size+1,4,none⟩=some (.int .i64 0):=hRV.cell (i:=4) dE;have k4:=hRV.frozen 4;have r5:V.cell? ⟨w.heap.size+1,5,none⟩=some (.int .i64 0):=hRV.cell (i:=5) dE;have k5:=hRV.frozen 5;have r6:V.cell? ⟨w.heap.size+1,6,none⟩=some (.int .u32 0):=hRV.cell (i:=6) dE;have k6:=hRV.frozen 6;have r7:V.cell? ⟨w.heap.size+1,7,none⟩=some (.int .i64 0):=hRV.cell (i:=7) dE;have k7:=hRV.frozen 7;have r8:V.cell? ⟨w.heap.size+1,8,none⟩=some (.int .i64 0):=hRV.cell (i:=8) dE;have k8:=hRV.frozen 8;have n1':¬w.heap.size=w.heap.size+1:=oM;have n2':¬w.heap.size+1=w.heap.size:=oM;have n3':¬W1.heap.size=w.heap.size:=by have:=HS1.out;omega
 have n4':¬W1.heap.size=w.heap.size+1:=by have:=HS1.out;omega
 rw[hV];clear hV hIV hRV hTV c0 c1 c2 c3 c4 hW1;go_wp2;refine bodyPost_ret (by simp[results,results56,go_sem, *];try rfl) rfl ?_;refine⟨rfl,?_⟩;exact(((((((((((bel HB1.out HBV.out).setCell (Nat.le_refl _) _).setCell (Nat.le_succ _) _).setCell (Nat.le_succ _) _).setCell (Nat.le_succ _) _).setCell (Nat.le_succ _) _).setCell (Nat.le_succ _) _).setCell (Nat.le_succ _) _).setCell (Nat.le_succ _) _).setCell (Nat.le_succ _) _).setCell (Nat.le_succ _) _)
theorem Pg(x0 x1 y0 y1:Int)(w:World):(binOp .eql 46 (.agg #[.int .i64 x0,.int .i64 x1]) (.agg #[.int .i64 y0,.int .i64 y1])).run prog w=.ok (.bool (decide ((⟨x0,x1⟩:Ty)=⟨y0,y1⟩))) w:=by
 by_cases h0:x0=y0
 ·subst h0;by_cases h1:x1=y1
  ·subst h1;go_simp
  ·go_simp
 ·go_simp
theorem WT(w:World):(zeroValue 3).run prog w=.ok (.int .i64 0) w:=kR
structure WM(c:Cd)(w:World)(B C SB MB nm rb ro q1:Nat)(hold:Rk->Option Nat):Prop where
 b0:w.cell? ⟨B,0,none⟩=some (.pointer (some ⟨C,0,none⟩))
 b1:w.cell? ⟨B,1,none⟩=some (.slice (some ⟨SB,0,none⟩) c.regs.length c.regs.length)
 b3:w.cell? ⟨B,3,none⟩=some (.map (some MB))
 c1:0<c.regs.length->w.cell? ⟨C,1,none⟩=some (.slice (some ⟨rb,ro,none⟩) c.regs.length q1)
 regs:∀r (h:r<c.regs.length),Ai w rb (ro+r*2) (Kp c.regs[r])
 st:w.rowIs SB 4 c.regs.length (fun r=>.bool (Ar c.list r))
 map:CE w MB nm (fun q=>(hold q).map fun(g:Nat)=>Value.int .i64 (g:Int))
theorem WM.below{c:Cd}{w w':World}{B C SB MB nm rb ro q1:Nat}{hold:Rk->Option Nat}(h:WM c w B C SB MB nm rb ro q1 hold)(k:Below w.heap.size w w'):WM c w' B C SB MB nm rb ro q1 hold:=
 ⟨kc k h.b0,kc k h.b1,kc k h.b3,fun h0=>kc k (h.c1 h0),fun r hr=>(h.regs r hr).below k,h.st.of_block (k.block _ h.st.lt),h.map.below k⟩
theorem DH{l:List Ty}{D:Nat}(h:D<l.length):A7 l (D:Int)=l[D]:=by
 unfold A7;rw[if_pos (Br.2 ⟨oM,oM⟩),Int.toNat_natCast,List.getElem?_eq_getElem h];rfl
theorem Mb(c:Cd)(s:RW)(B C SB MB nm rb ro q1:Nat)(i:Ac)(w:World)(hN:c.regs.length<=16384)(h:WM c w B C SB MB nm rb ro q1 s.hold)(hd:Aa i=true->0<=i.d/\i.d<(c.regs.length:Int))(hr:∀r∈Ab i (A4 i.op),0<=r/\r<(c.regs.length:Int))(hok:FH (DV c i)):
 Calls prog 53 #[.pointer (some ⟨B,0,none⟩),AV i] w fun e w'=>∃x:Int,e=.returned (.tuple #[.int .i64 x,.bool (AR c s i).isSome])/\(∀g,AR c s i=some g->x=(g:Int))/\Below w.heap.size w w':=by
 have KW:Hid (∀v,Below w.heap.size w v->Calls prog 82 #[.pointer (some ⟨B,0,none⟩),AV i] v fun e w'=>e=.returned (.bool (Bx c.list i))/\Below v.heap.size v w'):=fun v hv=>IP B SB _ c.list i v hN (h.below hv).b1 (h.below hv).st hd hr;have HM:=A8 h;cases hw:Bx c.list i with
 |false=>
  have HH:Hid (AR c s i=none):=by show _=_;unfold AR;rw[hw];rfl
  rw[hw]at KW;obtain⟨RES,hRES⟩:∃X,AR c s i=X:=⟨_,rfl⟩
  rw[hRES]at HH ⊢;have HR:Hid (RES=none):=HH.out;clear h hd hr hok hw hRES HH;obtain⟨op,d,a,b,e,n,z⟩:=i;unfold AV at KW ⊢;simp only at KW ⊢;go_enter func53,ntmps53;go_wp2_with(go_at_call 82;(with_reducible refine(KW.out _ (A0 _ _)).mono ?_);rintro e9 w2 ⟨rfl,hb2⟩;have HB2:=A8 hb2;clear hb2);go_returns;exact⟨0,by have h9:=HR.out;simp[h9],fun g hg=>(by rw[HR.out]at hg;cases hg),bel (A0 _ _) HB2.out⟩
 |true=>
  obtain⟨w1,w2,w3⟩:=AQ hw;obtain⟨d0,d1⟩:=hd w1;rw[hw]at KW;have hdef:AR c s i=if i.op=3 then(if A7 c.regs i.a=A7 c.regs i.d then some i.a.toNat else none)else s.hold (DV c i):=by unfold AR;rw[if_pos hw]
  by_cases o3:i.op=3
  ·have ra:(A4 i.op).a≠0:=by rw[o3];decide
   obtain⟨a0,a1⟩:=hr i.a (by unfold Ab;rw[if_neg ra];simp);rw[if_pos o3]at hdef;rw[hdef];clear hdef hok w2 w3 hw hr hd;obtain⟨op,d,a,b,e,n,z⟩:=i;simp only at o3 a0 a1 d0 d1 ⊢;subst o3;obtain⟨D,rfl⟩:=Int.eq_ofNat_of_zero_le d0;obtain⟨A,rfl⟩:=Int.eq_ofNat_of_zero_le a0;have hD:D<c.regs.length:=oM;have hA:A<c.regs.length:=oM;rw[DH hD,DH hA,Int.toNat_natCast];obtain⟨⟨kd,pd⟩,htd⟩:∃t,c.regs[D]=t:=⟨_,rfl⟩
   obtain⟨⟨ka,pa⟩,hta⟩:∃t,c.regs[A]=t:=⟨_,rfl⟩
   have qd:=h.regs D hD;have qa:=h.regs A hA;rw[htd]at qd ⊢;rw[hta]at qa ⊢;obtain⟨RES,hRES⟩:∃X:Option Nat,(if(⟨ka,pa⟩:Ty)=⟨kd,pd⟩then some A else none)=X:=⟨_,rfl⟩
   have HRES:=A8 hRES;rw[hRES];clear hRES;have HQ:=A8 (And.intro qd qa);obtain⟨N,hNe⟩:∃N,c.regs.length=N:=⟨_,rfl⟩
   have HNE:=A8 hNe;have e1:(0:Int)<=(D:Int):=oM;have e2:(D:Int)<(N:Int):=oM;have e3:(0:Int)<=(A:Int):=oM;have e4:(A:Int)<(N:Int):=oM;unfold AV at KW ⊢;simp only at KW ⊢;obtain⟨W1,hW1⟩:∃W,w.alloc (.cells #[.int .i64 3,.int .i64 (D:Int),.int .i64 (A:Int),.int .i64 b,.int .i64 e,.int .i64 n,.int .u32 z] 44)=W:=⟨_,rfl⟩
   have HB1:Hid (Below w.heap.size w W1):=by rw[←hW1];exact A0 _ _
   have HC:Hid (∀v,Below W1.heap.size W1 v->v.cell? ⟨w.heap.size,0,none⟩=some (.int .i64 3)/\v.cell? ⟨w.heap.size,1,none⟩=some (.int .i64 (D:Int))/\v.cell? ⟨w.heap.size,2,none⟩=some (.int .i64 (A:Int))/\v.cell? ⟨w.heap.size,3,none⟩=some (.int .i64 b)/\v.cell? ⟨w.heap.size,4,none⟩=some (.int .i64 e)/\v.cell? ⟨w.heap.size,5,none⟩=some (.int .i64 n)/\v.cell? ⟨w.heap.size,6,none⟩=some (.int .u32 z)/\v.cell? ⟨B,0,none⟩=some (.pointer (some ⟨C,0,none⟩))/\v.cell? ⟨C,1,none⟩=some (.slice (some ⟨rb,ro,none⟩) N q1)/\v.cell? ⟨rb,ro+D*2,none⟩=some (.int .i64 kd)/\v.cell? ⟨rb,ro+D*2+1,none⟩=some (.int .i64 pd)/\v.cell? ⟨rb,ro+A*2,none⟩=some (.int .i64 ka)/\v.cell? ⟨rb,ro+A*2+1,none⟩=some (.int .i64 pa)):=by
    intro v hv;have hv2:=bel HB1.out hv;have hm:=HM.out.below hv2;have g1:=hm.c1 (by have:=HNE.out;omega);rw[HNE.out]at g1;have g2:=HQ.out.1.below hv2;have g3:=HQ.out.2.below hv2;have y0:=g2.at 0 (v:=.int .i64 kd) rfl;have y2:=g3.at 0 (v:=.int .i64 ka) rfl;rw[Nat.add_zero]at y0 y2;rw[←hW1]at hv;exact⟨kc hv sG,kc hv sG,kc hv sG,kc hv sG,kc hv sG,kc hv sG,kc hv sG,hm.b0,g1,y0,g2.at 1 (v:=.int .i64 pd) rfl,y2,g3.at 1 (v:=.int .i64 pa) rfl⟩
   have heq:=Pg ka pa kd pd;obtain⟨X,hX⟩:∃X,decide ((⟨ka,pa⟩:Ty)=⟨kd,pd⟩)=X:=⟨_,rfl⟩
   have HX:=A8 hX;rw[hX]at heq;obtain⟨c0,c1,c2,c3,c4,c5,c6,c7,c8,c9,c10,c11,c12⟩:=HC.out W1 (Be _);clear h htd hta qd qa hNe hX w1 HQ hN HNE hD hA d1 a1;go_enter func53,ntmps53;go_upto_region 4 with(go_at_call 82;(with_reducible refine(KW.out _ HB1.out).mono ?_);rintro e9 w2 ⟨rfl,hb2⟩;have HB2:=A8 hb2;clear hb2 c0 c1 c2 c3 c4 c5 c6 c7 c8 c9 c10 c11 c12;obtain⟨c0,c1,c2,c3,c4,c5,c6,c7,c8,c9,c10,c11,c12⟩:=HC.out w2 HB2.out)
   refine rG (fun v=>v.cell? ⟨w.heap.size,1,none⟩=some (.int .i64 (D:Int))/\v.cell? ⟨w.heap.size,2,none⟩=some (.int .i64 (A:Int))/\v.cell? ⟨B,0,none⟩=some (.pointer (some ⟨C,0,none⟩))/\v.cell? ⟨C,1,none⟩=some (.slice (some ⟨rb,ro,none⟩) N q1)/\v.cell? ⟨rb,ro+D*2,none⟩=some (.int .i64 kd)/\v.cell? ⟨rb,ro+D*2+1,none⟩=some (.int .i64 pd)/\v.cell? ⟨rb,ro+A*2,none⟩=some (.int .i64 ka)/\v.cell? ⟨rb,ro+A*2+1,none⟩=some (.int .i64 pa)) fun hHeld=>?_;refine Tf 0 1 2 3 4 5 ?_;refine Tf 6 7 8 9 10 11 ?_;refine Tf 12 13 14 15 16 17 ?_;refine Tf 18 19 20 21 22 23 ?_;refine Tc 24 25 26 ?_;refine wpAnyH_done kR ?_ _;go_wp2;go_returns;refine⟨(A:Int),?_,fun g hg=>?_,bel HB1.out (bel HB2.out (A6 _))⟩
   ·have h8:RES.isSome=X:=by
     rw[←HRES.out,←HX.out];by_cases q:(⟨ka,pa⟩:Ty)=⟨kd,pd⟩
     ·rw[if_pos q];simp[q]
     ·rw[if_neg q];simp[q]
    rw[h8];rfl
   ·have h8:=HRES.out;rw[hg]at h8;by_cases q:(⟨ka,pa⟩:Ty)=⟨kd,pd⟩
    ·rw[if_pos q]at h8;rw[Option.some.inj h8]
    ·rw[if_neg q]at h8;cases h8
  ·rw[if_neg o3]at hdef;rw[hdef];clear hdef w2 w3 hw hr hd;obtain⟨D,hD0⟩:=Int.eq_ofNat_of_zero_le d0;have hD:D<c.regs.length:=oM;have hrk:(⟨{i with d:=0},c.regs[D]⟩:Rk)=DV c i:=by unfold DV;rw[hD0,DH hD]
   have KR:Hid (∀v,Below w.heap.size w v->Calls prog 56 #[.pointer (some ⟨B,0,none⟩),AV i] v fun e w'=>e=.returned (KU (DV c i))/\Below v.heap.size v w'):=fun v hv=>by
    have h9:=RJ B C rb ro c.regs.length q1 D c.regs[D] i v (h.below hv).b0 ((h.below hv).c1 oM) hD hN hD0 ((h.below hv).regs D hD);rw[hrk]at h9;exact h9
   obtain⟨x,hx⟩:∃x:Int,((s.hold (DV c i)).map fun(g:Nat)=>Value.int .i64 (g:Int)).getD (.int .i64 0)=.int .i64 x:=by
    cases s.hold (DV c i)with
    |none=>exact⟨0,rfl⟩
    |some g=>exact⟨g,rfl⟩
   have HXG:Hid (∀g,s.hold (DV c i)=some g->x=(g:Int)):=fun g hg=>by
    rw[hg]at hx;have h9:Value.int .i64 (g:Int)=.int .i64 x:=hx;simp only[Value.int.injEq,true_and]at h9;exact h9.symm
   have HL:Hid (∀v,Below w.heap.size w v->(Instr.lookup 76 (.map (some MB)) (KU (DV c i)) true).run prog v=.ok (.tuple #[.int .i64 x,.bool (s.hold (DV c i)).isSome]) v):=fun v hv=>by
    have h9:=(h.below hv).map.look2 underlying76 (WT v) hok;rw[hx,Option.isSome_map]at h9;exact h9
   obtain⟨RES,hRES⟩:∃X,s.hold (DV c i)=X:=⟨_,rfl⟩
   rw[hRES]at HXG HL ⊢;obtain⟨KEY,hKEY⟩:∃X,KU (DV c i)=X:=⟨_,rfl⟩
   rw[hKEY]at HL KR;obtain⟨Y,hY⟩:∃Y,RES.isSome=Y:=⟨_,rfl⟩
   rw[hY]at HL ⊢;have HB3:Hid (∀v,Below w.heap.size w v->v.cell? ⟨B,3,none⟩=some (.map (some MB))):=fun v hv=>(HM.out.below hv).b3;clear h hok hx hRES hKEY hY hrk hD hD0 d0 d1 w1;obtain⟨op,d,a,b,e,n,z⟩:=i;simp only at o3;have n3:(op==3)=false:=by simpa using o3
   unfold AV at KW KR ⊢;simp only at KW KR ⊢;obtain⟨W1,hW1⟩:∃W,w.alloc (.cells #[.int .i64 op,.int .i64 d,.int .i64 a,.int .i64 b,.int .i64 e,.int .i64 n,.int .u32 z] 44)=W:=⟨_,rfl⟩
   have HB1:Hid (Below w.heap.size w W1):=by rw[←hW1];exact A0 _ _
   have HC:Hid (∀v,Below W1.heap.size W1 v->v.cell? ⟨w.heap.size,0,none⟩=some (.int .i64 op)/\v.cell? ⟨w.heap.size,1,none⟩=some (.int .i64 d)/\v.cell? ⟨w.heap.size,2,none⟩=some (.int .i64 a)/\v.cell? ⟨w.heap.size,3,none⟩=some (.int .i64 b)/\v.cell? ⟨w.heap.size,4,none⟩=some (.int .i64 e)/\v.cell? ⟨w.heap.size,5,none⟩=some (.int .i64 n)/\v.cell? ⟨w.heap.size,6,none⟩=some (.int .u32 z)/\v.cell? ⟨B,3,none⟩=some (.map (some MB))/\(Instr.lookup 76 (.map (some MB)) KEY true).run prog v=.ok (.tuple #[.int .i64 x,.bool Y]) v):=by
    intro v hv;have hv2:=bel HB1.out hv;rw[←hW1]at hv;exact⟨kc hv sG,kc hv sG,kc hv sG,kc hv sG,kc hv sG,kc hv sG,kc hv sG,HB3.out v hv2,HL.out v hv2⟩
   obtain⟨c0,c1,c2,c3,c4,c5,c6,c7,c8⟩:=HC.out W1 (Be _);clear HL HB3;go_enter func53,ntmps53;go_upto_region 5 with(go_at_call 82;(with_reducible refine(KW.out _ HB1.out).mono ?_);rintro e9 w2 ⟨rfl,hb2⟩;have HB2:=A8 hb2;clear hb2 c0 c1 c2 c3 c4 c5 c6 c7 c8;obtain⟨c0,c1,c2,c3,c4,c5,c6,c7,c8⟩:=HC.out w2 HB2.out;have c8d:(Instr.lookup 76 (.map (some MB)) KEY true).run prog w2.drew=.ok (.tuple #[.int .i64 x,.bool Y]) w2.drew:=(HC.out _ (bel HB2.out (A6 _))).2.2.2.2.2.2.2.2)
   refine rG (fun v=>v.cell? ⟨w.heap.size,0,none⟩=some (.int .i64 op)/\v.cell? ⟨w.heap.size,1,none⟩=some (.int .i64 d)/\v.cell? ⟨w.heap.size,2,none⟩=some (.int .i64 a)/\v.cell? ⟨w.heap.size,3,none⟩=some (.int .i64 b)/\v.cell? ⟨w.heap.size,4,none⟩=some (.int .i64 e)/\v.cell? ⟨w.heap.size,5,none⟩=some (.int .i64 n)/\v.cell? ⟨w.heap.size,6,none⟩=some (.int .u32 z)/\v.cell? ⟨B,3,none⟩=some (.map (some MB))/\(Instr.lookup 76 (.map (some MB)) KEY true).run prog v=.ok (.tuple #[.int .i64 x,.bool Y]) v) fun hHeld=>?_;refine Tf 0 1 2 3 4 5 ?_;clear hHeld;refine AC 6 fun K hK=>?_;go_simp;(go_at_call 56;(with_reducible refine(KR.out _ (bel HB1.out (bel HB2.out (A6 _)))).mono ?_);rintro e9 w3 ⟨rfl,hb3⟩;have HB9:Hid (Below W1.heap.size W1 w3):=bel (bel HB2.out (A6 _)) hb3;clear hb3 c0 c1 c2 c3 c4 c5 c6 c7 c8 c8d;obtain⟨c0,c1,c2,c3,c4,c5,c6,c7,c8⟩:=HC.out w3 HB9.out);try(go_wp2_with fail)
   refine Ax hK fun hHeld=>?_;clear hK K;refine Tf 7 8 9 10 11 12 ?_;refine wpAnyH_done kR ?_ _;go_wp2;go_returns;exact⟨x,rfl,HXG.out,bel HB1.out HB9.out⟩
def RO(r:Rw):Prop:=(r.b≠0->r.a≠0)/\(r.c≠0->r.b≠0)
theorem ZC(c:Prop)[Decidable c](x y:Rw)(h:RO x)(g:RO y):RO (if c then x else y):=by split<;>assumption
theorem YW(op:Int):RO (A4 op):=by
 unfold A4
 repeat(refine ZC _ _ _ (by simp[RO]) ?_)
 simp[RO]
def DN(ins:Nat->Nat)(L:List Int)(a b c:Int)(j k:Nat):Int:=if k<j/\k<L.length then(ins ((L[k]?).getD 0).toNat:Int)else if k=0 then a else if k=1 then b else c
theorem Vi(s:RW)(i:Ac):A3 s i={i with a:=DN s.ins (Ab i (A4 i.op)) i.a i.b i.c (Ab i (A4 i.op)).length 0,b:=DN s.ins (Ab i (A4 i.op)) i.a i.b i.c (Ab i (A4 i.op)).length 1,c:=DN s.ins (Ab i (A4 i.op)) i.a i.b i.c (Ab i (A4 i.op)).length 2}:=by
 obtain⟨h1,h2⟩:=YW i.op;unfold A3 DN Ab;by_cases ha:(A4 i.op).a=0
 ·have hb:(A4 i.op).b=0:=Decidable.byContradiction fun q=>h1 q ha;have hc:(A4 i.op).c=0:=Decidable.byContradiction fun q=>h2 q hb;simp[ha,hb,hc]
 ·by_cases hb:(A4 i.op).b=0
  ·have hc:(A4 i.op).c=0:=Decidable.byContradiction fun q=>h2 q hb;simp[ha,hb,hc]
  ·by_cases hc:(A4 i.op).c=0
   ·simp[ha,hb,hc]
   ·simp[ha,hb,hc]
def I4(op d a b c n z:Int)(k:Nat):Value:=F7 #[.int .i64 op,.int .i64 d,.int .i64 a,.int .i64 b,.int .i64 c,.int .i64 n,.int .u32 z] k
theorem Uc(ins:Nat->Nat)(L:List Int)(op d a b c n z:Int)(j:Nat)(hj:j<L.length)(h3:L.length<=3)(k:Nat)(hk:k<7):
 (if k=2+j then .int .i64 (ins (L[j]).toNat:Int)else I4 op d (DN ins L a b c j 0) (DN ins L a b c j 1) (DN ins L a b c j 2) n z k)=I4 op d (DN ins L a b c (j+1) 0) (DN ins L a b c (j+1) 1) (DN ins L a b c (j+1) 2) n z k:=by
 have hk7:k=0\/k=1\/k=2\/k=3\/k=4\/k=5\/k=6:=oM;have hj3:j=0\/j=1\/j=2:=oM;rcases hj3 with rfl|rfl|rfl
 ·rcases hk7 with rfl|rfl|rfl|rfl|rfl|rfl|rfl<;>simp[I4,F7,DN,hj]
 ·have h0:0<L.length:=oM;rcases hk7 with rfl|rfl|rfl|rfl|rfl|rfl|rfl<;>simp[I4,F7,DN,hj,h0]
 ·have h0:0<L.length:=oM;have h1:1<L.length:=oM;rcases hk7 with rfl|rfl|rfl|rfl|rfl|rfl|rfl<;>simp[I4,F7,DN,hj,h0,h1]
theorem Kn(s:RW)(B IB N:Nat)(i:Ac)(w:World)(hN:N<=16384)(hb:w.cell? ⟨B,2,none⟩=some (.slice (some ⟨IB,0,none⟩) N N))(hrow:w.rowIs IB 3 N (fun r=>.int .i64 (s.ins r:Int)))(hr:∀r∈Ab i (A4 i.op),0<=r/\r<(N:Int)):
 Calls prog 52 #[.pointer (some ⟨B,0,none⟩),AV i] w fun e w'=>e=.returned (AV (A3 s i))/\Below w.heap.size w w':=by
 have KR:=A8 (fun v=>LR i v);rw[Vi s i];obtain⟨Lr,hLr⟩:∃L,Ab i (A4 i.op)=L:=⟨_,rfl⟩
 have hlen:Lr.length<=3:=by rw[←hLr];unfold Ab;split<;>split<;>split<;>simp
 simp only[hLr]at KR hr ⊢;clear hLr;obtain⟨op,d,a,b,e,n,z⟩:=i;unfold AV at KR ⊢;simp only at KR ⊢;have lB:B<w.heap.size:=A5 hb;have HHR:=A8 hr;have HROW:=A8 hrow;have HBB:=A8 hb;obtain⟨W0,hW0⟩:∃W,(w.alloc (.cells #[.int .i64 op,.int .i64 d,.int .i64 a,.int .i64 b,.int .i64 e,.int .i64 n,.int .u32 z] 44)).alloc (.cells #[.int .i64 0,.int .i64 0,.int .i64 0,.int .i64 0,.int .i64 0,.int .i64 0,.int .u32 0] 44)=W:=⟨_,rfl⟩
 obtain⟨W1,hW1⟩:∃W,W0.alloc (.cells #[.pointer (some ⟨w.heap.size,2,none⟩),.pointer (some ⟨w.heap.size,3,none⟩),.pointer (some ⟨w.heap.size,4,none⟩)] 130)=W:=⟨_,rfl⟩
 have HS0:Hid (W0.heap.size=w.heap.size+1+1):=by rw[←hW0];show _=_;simp
 have HB0:Hid (Below w.heap.size w W0):=by rw[←hW0];exact bel (A0 _ _) (A0 _ _)
 have HB1:Hid (Below W0.heap.size W0 W1):=by rw[←hW1];exact A0 _ _
 have HI:Hid (W1.rowIs w.heap.size 44 7 (I4 op d a b e n z)):=by
  have h9:W0.rowIs w.heap.size 44 7 (I4 op d a b e n z):=by rw[←hW0];exact(Bn w _ _).alloc _
  exact h9.of_block (HB1.out.block _ h9.lt)
 have HR:Hid (W1.rowIs (w.heap.size+1) 44 7 (I4 0 0 0 0 0 0 0)):=by
  have h9:=Bn (w.alloc (.cells #[.int .i64 op,.int .i64 d,.int .i64 a,.int .i64 b,.int .i64 e,.int .i64 n,.int .u32 z] 44)) #[.int .i64 0,.int .i64 0,.int .i64 0,.int .i64 0,.int .i64 0,.int .i64 0,.int .u32 0] 44;have e9:(w.alloc (.cells #[.int .i64 op,.int .i64 d,.int .i64 a,.int .i64 b,.int .i64 e,.int .i64 n,.int .u32 z] 44)).heap.size=w.heap.size+1:=sM;rw[e9,hW0]at h9;exact h9.of_block (HB1.out.block _ h9.lt)
 have HA:Hid (W1.rowIs W0.heap.size 130 3 (F7 #[.pointer (some ⟨w.heap.size,2,none⟩),.pointer (some ⟨w.heap.size,3,none⟩),.pointer (some ⟨w.heap.size,4,none⟩)])):=by rw[←hW1];exact Bn W0 _ _
 have c0:W1.cell? ⟨w.heap.size,0,none⟩=some (.int .i64 op):=HI.out.cell (i:=0) dE;have c1:W1.cell? ⟨w.heap.size,1,none⟩=some (.int .i64 d):=HI.out.cell (i:=1) dE;have c2:W1.cell? ⟨w.heap.size,2,none⟩=some (.int .i64 a):=HI.out.cell (i:=2) dE;have c3:W1.cell? ⟨w.heap.size,3,none⟩=some (.int .i64 b):=HI.out.cell (i:=3) dE;have c4:W1.cell? ⟨w.heap.size,4,none⟩=some (.int .i64 e):=HI.out.cell (i:=4) dE;have c5:W1.cell? ⟨w.heap.size,5,none⟩=some (.int .i64 n):=HI.out.cell (i:=5) dE;have c6:W1.cell? ⟨w.heap.size,6,none⟩=some (.int .u32 z):=HI.out.cell (i:=6) dE;have e0:DN s.ins Lr a b e 0 0=a/\DN s.ins Lr a b e 0 1=b/\DN s.ins Lr a b e 0 2=e:=⟨by simp[DN],by simp[DN],by simp[DN]⟩
 have HE0:=A8 e0;obtain⟨FA,hFA⟩:∃X,DN s.ins Lr a b e Lr.length 0=X:=⟨_,rfl⟩
 obtain⟨FB,hFB⟩:∃X,DN s.ins Lr a b e Lr.length 1=X:=⟨_,rfl⟩
 obtain⟨FC,hFC⟩:∃X,DN s.ins Lr a b e Lr.length 2=X:=⟨_,rfl⟩
 have HF:=A8 (And.intro hFA (And.intro hFB hFC));rw[hFA,hFB,hFC];clear hb hrow hr e0 hFA hFB hFC;go_enter func52,ntmps52;go_wp2_with(go_at_call 67;(with_reducible refine(KR.out _).mono ?_);rintro e9 w3 ⟨v3,rfl,ho3,hb3⟩;obtain⟨p3,q3,rfl⟩:=AK ho3;have HO3:=A8 ho3;have HB3:=A8 hb3;clear ho3 hb3);have HI3:Hid (w3.rowIs w.heap.size 44 7 (I4 op d a b e n z)):=HI.out.of_block (HB3.out.block _ HI.out.lt);have HR3:Hid (w3.rowIs (w.heap.size+1) 44 7 (I4 0 0 0 0 0 0 0)):=HR.out.of_block (HB3.out.block _ HR.out.lt);have HA3:Hid (w3.rowIs W0.heap.size 130 3 (F7 #[.pointer (some ⟨w.heap.size,2,none⟩),.pointer (some ⟨w.heap.size,3,none⟩),.pointer (some ⟨w.heap.size,4,none⟩)])):=HA.out.of_block (HB3.out.block _ HA.out.lt);have HB03:Hid (Below w.heap.size w w3):=bel HB0.out (bel HB1.out HB3.out);have HS3:Hid (W1.heap.size<=w3.heap.size):=HB3.out.size;have HS1:Hid (W0.heap.size<W1.heap.size):=HA.out.lt;clear c0 c1 c2 c3 c4 c5 c6 hW0 hW1
 go_loopw [15] (fun iv wr=>∃j:Nat,j<=Lr.length/\iv=.int .i64 (j:Int)/\Hid (wr.rowIs w.heap.size 44 7 (I4 op d (DN s.ins Lr a b e j 0) (DN s.ins Lr a b e j 1) (DN s.ins Lr a b e j 2) n z)/\Un (fun b=>b=w.heap.size) w3 wr)) (fun iv _=>Lr.length-(intOf iv).toNat)
 case atStart=>
  refine⟨0,Nat.zero_le _,rfl,?_,Un.refl _ _⟩;obtain⟨x0,x1,x2⟩:=HE0.out;rw[x0,x1,x2];exact HI3.out
 case round=>
  obtain⟨j,hj,rfl,HJ⟩:=hrel;by_cases hlt:j<Lr.length
  ·have hm:Lr[j]∈Lr:=List.getElem_mem hlt;obtain⟨r0,r1⟩:=HHR.out _ hm;obtain⟨r,hrj⟩:∃r:Nat,Lr[j]=(r:Int):=⟨Lr[j].toNat,(Int.toNat_of_nonneg r0).symm⟩
   rw[hrj]at r0 r1;have hrN:r<N:=oM;have hj3:j<3:=oM;have s0:=HS0.out;have s1:=HS1.out;have s3:=HS3.out;have hBw:B<w3.heap.size:=oM;have cB:wr.cell? ⟨B,2,none⟩=some (.slice (some ⟨IB,0,none⟩) N N):=by
    have h9:w3.cell? ⟨B,2,none⟩=some (.slice (some ⟨IB,0,none⟩) N N):=by rw[HB03.out.cell lB];exact HBB.out
    rw[World.cell?_of_block (a:=⟨B,2,none⟩) (HJ.out.2.block B hBw oM)];exact h9
   have cI:wr.cell? ⟨IB,r,none⟩=some (.int .i64 (s.ins r:Int)):=by
    have lI:=HROW.out.lt;have h9:=HROW.out.of_block (HB03.out.block IB lI);exact(h9.of_block (HJ.out.2.block IB h9.lt oM)).cell hrN
   have cA:wr.cell? ⟨W0.heap.size,j,none⟩=some (.pointer (some ⟨w.heap.size,2+j,none⟩)):=by
    have h9:=(HA3.out.of_block (HJ.out.2.block W0.heap.size HA3.out.lt oM)).cell hj3;rw[h9];have hj4:j=0\/j=1\/j=2:=oM;rcases hj4 with rfl|rfl|rfl<;>rfl
   have cS:∃x,wr.cell? ⟨w.heap.size,2+j,none⟩=some (.int .i64 x):=by
    rw[HJ.out.1.cell oM];have hj4:j=0\/j=1\/j=2:=oM;rcases hj4 with rfl|rfl|rfl<;>exact⟨_,rfl⟩
   obtain⟨x,cS⟩:=cS;have fS:=HJ.out.1.frozen (2+j);obtain⟨g,cap,e9,h91,h92⟩:=HO3.out.form oM;simp only[Value.slice.injEq]at e9;obtain⟨rfl,-,rfl⟩:=e9;have xj:wr.cell? ⟨g,j,none⟩=some (.int .i64 (r:Int)):=by
    have h9:w3.cell? ⟨g,j,none⟩=some (.int .i64 (r:Int)):=by
     rw[HO3.out.cellAt j (by simp[BQ];omega)];simp[BQ,hlt,hrj]
    rw[World.cell?_of_block (a:=⟨g,j,none⟩) (HJ.out.2.block g (A5 h9) (by have:=HO3.out;omega))];exact h9
   have i1:(0:Int)<=(j:Int):=oM;have i2:(j:Int)<(Lr.length:Int):=oM;have i3:(j:Int)<3:=oM;have wi:IntKind.i64.wrap ((j:Int)+1)=((j+1:Nat):Int):=by rw[IntKind.wrap_i64];omega
   have lI:=HROW.out.lt;have m1:¬B=w.heap.size:=oM;have m2:¬w.heap.size=B:=oM;have m3:¬IB=w.heap.size:=oM;have m4:¬w.heap.size=IB:=oM;have m5:¬W0.heap.size=w.heap.size:=oM;have m6:¬w.heap.size=W0.heap.size:=oM;have HRJ:=A8 hrj;clear lI hrj hm h91 h92 s0 s1 s3 hBw;go_wp2;refine rG (fun v=>v.cell? ⟨B,2,none⟩=some (.slice (some ⟨IB,0,none⟩) N N)/\v.cell? ⟨IB,r,none⟩=some (.int .i64 (s.ins r:Int))/\v.cell? ⟨W0.heap.size,j,none⟩=some (.pointer (some ⟨w.heap.size,2+j,none⟩))) fun hHeld=>?_;refine Tf 0 1 2 3 4 5 ?_;refine Tc 6 7 8 ?_;refine Tb 9 10 ?_;clear hHeld;refine AC 11 fun K hK=>?_;go_simp;refine Ax hK fun hHeld=>?_;clear hK K;refine wpAnyH_done kR ?_ _;go_wp2;go_roundw
   case rel=>
    refine⟨j+1,oM,gN,?_,((HJ.out.2.setCell rfl _).on (C5 _))⟩;refine World.rowIs.drew ((HJ.out.1.set (2+j) _).congr fun k hk=>?_);have h9:=Uc s.ins Lr op d a b e n z j hlt hlen k hk;rw[HRJ.out,Int.toNat_natCast]at h9;exact h9
   case measure=>simp[intOf];omega
  ·have e9:¬ (j:Int)<(Lr.length:Int):=oM;have hjl:j=Lr.length:=oM;obtain⟨f0,f1,f2⟩:=HF.out;have hI:=HJ.out.1;rw[hjl,f0,f1,f2]at hI;have hS1:W0.heap.size<=w3.heap.size:=by have:=HS1.out;have:=HS3.out;omega
   have hR:wr.rowIs (w.heap.size+1) 44 7 (I4 0 0 0 0 0 0 0):=HR3.out.of_block (HJ.out.2.block _ HR3.out.lt oM);have HBw:Hid (Below w.heap.size w wr):=by
    have h9:=HJ.out.2.below (B:=w.heap.size) (by have:=HS0.out;omega) (fun b q=>by omega);exact HB03.out.trans h9
   have b0:wr.cell? ⟨w.heap.size,0,none⟩=some (.int .i64 op):=hI.cell (i:=0) dE;have b1:wr.cell? ⟨w.heap.size,1,none⟩=some (.int .i64 d):=hI.cell (i:=1) dE;have b2:wr.cell? ⟨w.heap.size,2,none⟩=some (.int .i64 FA):=hI.cell (i:=2) dE;have b3:wr.cell? ⟨w.heap.size,3,none⟩=some (.int .i64 FB):=hI.cell (i:=3) dE;have b4:wr.cell? ⟨w.heap.size,4,none⟩=some (.int .i64 FC):=hI.cell (i:=4) dE;have b5:wr.cell? ⟨w.heap.size,5,none⟩=some (.int .i64 n):=hI.cell (i:=5) dE;have b6:wr.cell? ⟨w.heap.size,6,none⟩=some (.int .u32 z):=hI.cell (i:=6) dE;have r0:wr.cell? ⟨w.heap.size+1,0,none⟩=some (.int .i64 0):=hR.cell (i:=0) dE;have r1:wr.cell? ⟨w.heap.size+1,1,none⟩=some (.int .i64 0):=hR.cell (i:=1) dE;have r2:wr.cell? ⟨w.heap.size+1,2,none⟩=some (.int .i64 0):=hR.cell (i:=2) dE;have r3:wr.cell? ⟨w.heap.size+1,3,none⟩=some (.int .i64 0):=hR.cell (i:=3) dE;have r4:wr.cell? ⟨w.heap.size+1,4,none⟩=some (.int .i64 0):=hR.cell (i:=4) dE;have r5:wr.cell? ⟨w.heap.size+1,5,none⟩=some (.int .i64 0):=hR.cell (i:=5) dE;have r6:wr.cell? ⟨w.heap.size+1,6,none⟩=some (.int .u32 0):=hR.cell (i:=6) dE;have k0:=hR.frozen 0;have k1:=hR.frozen 1;have k2:=hR.frozen 2;have k3:=hR.frozen 3;have k4:=hR.frozen 4;have k5:=hR.frozen 5;have k6:=hR.frozen 6;have n1':¬w.heap.size=w.heap.size+1:=oM;have n2':¬w.heap.size+1=w.heap.size:=oM;clear hI hR hS1 f0 f1 f2 hjl hlt;go_wp2;refine bodyPost_ret (by simp[results,results52,go_sem, *];try rfl) rfl ?_;refine⟨rfl,?_⟩;exact(((((((HBw.out.setCell (Nat.le_succ _) _).setCell (Nat.le_succ _) _).setCell (Nat.le_succ _) _).setCell (Nat.le_succ _) _).setCell (Nat.le_succ _) _).setCell (Nat.le_succ _) _).setCell (Nat.le_succ _) _)
def F2(l:List Rk):List Value:=l.flatMap PU
theorem Hm(q:Rk):(PU q).length=9:=rfl
theorem T0(l:List Rk):∀k,(F2 l).take (k*9)=F2 (l.take k):=by
 induction l with
 |nil=>intro k;simp[F2]
 |cons q r ih=>
  intro k;cases k with
  |zero=>simp[F2]
  |succ k=>
   show(PU q++F2 r).take _=PU q++F2 (r.take k);rw[List.take_append,Hm,show(k+1)*9-9=k*9 by omega,ih,List.take_of_length_le (by rw[Hm];omega)]
theorem YG(l:List Rk):∀ (j o:Nat) (hj:j<l.length),o<9->(F2 l)[j*9+o]? =(PU l[j])[o]? :=by
 induction l with
 |nil=>intro j o hj;simp at hj
 |cons q r ih=>
  intro j o hj ho;show(PU q++F2 r)[_]? =_;cases j with
  |zero=>rw[List.getElem?_append_left (by rw[Hm];omega)];simp
  |succ j=>
   rw[List.getElem?_append_right (by rw[Hm];omega),Hm,show(j+1)*9+o-9=j*9+o by omega];exact ih j o (by simpa using hj) ho
structure WK(E:Nat)(c:Cd)(s:RW)(w:World)(B C SB IB MB nm rb ro q1:Nat)(vk vo vl:Value)(tag:Nat->Nat):Prop where
 b:w.rowIs B 79 7 (F7 #[.pointer (some ⟨C,0,none⟩),.slice (some ⟨SB,0,none⟩) c.regs.length c.regs.length,.slice (some ⟨IB,0,none⟩) c.regs.length c.regs.length,.map (some MB),vk,vo,vl])
 c1:0<c.regs.length->w.cell? ⟨C,1,none⟩=some (.slice (some ⟨rb,ro,none⟩) c.regs.length q1)
 regs:∀r (h:r<c.regs.length),Ai w rb (ro+r*2) (Kp c.regs[r])
 st:w.rowIs SB 4 c.regs.length (fun r=>.bool (Ar c.list r))
 ir:w.rowIs IB 3 c.regs.length (fun r=>.int .i64 (s.ins r:Int))
 map:CE w MB nm (fun q=>(s.hold q).map fun(g:Nat)=>Value.int .i64 (g:Int))
 reck:w.ownsRow E 108 9 vk s.reck.length (F2 s.reck)
 opn:w.ownsRow E 3 1 vo s.opn.length (DK s.opn)
 left:w.ownsRow E 44 7 vl s.left.length (s.left.flatMap E0)
 hC:C<E
 hR:rb<E\/c.regs.length=0
 hB:E<=B
 hS:E<=SB
 hI:E<=IB
 hM:E<=MB
 tB:tag B=1
 tS:tag SB=2
 tI:tag IB=3
 tM:tag MB=4
 tk:∀g,vk.ownBlock=some g->tag g=5
 tO:∀g,vo.ownBlock=some g->tag g=6
 tl:∀g,vl.ownBlock=some g->tag g=7
section
variable {E : Nat} {c : Cd} {s : RW} {w w' : World} {B C SB IB MB nm rb ro q1 : Nat} {vk vo vl : Value} {tag : Nat -> Nat}
theorem WK.lt(h:WK E c s w B C SB IB MB nm rb ro q1 vk vo vl tag):E<=w.heap.size:=Nat.le_trans h.hB (Nat.le_of_lt h.b.lt)
theorem WK.keep(h:WK E c s w B C SB IB MB nm rb ro q1 vk vo vl tag)(k:∀b,b<w.heap.size->w'.heap[b]? =w.heap[b]?):WK E c s w' B C SB IB MB nm rb ro q1 vk vo vl tag:=
 {h with
  b:=h.b.of_block (k _ h.b.lt)
  c1:=fun h0=>by rw[World.cell?_of_block (a:=⟨C,1,none⟩) (k C (A5 (h.c1 h0)))];exact h.c1 h0
  regs:=fun r hr=>(h.regs r hr).of_block (k rb Zgj)
  st:=h.st.of_block (k _ h.st.lt)
  ir:=h.ir.of_block (k _ h.ir.lt)
  map:=h.map.block (k _ h.map.lt)
  reck:=Ad h.reck fun g hg=>k g (h.reck.lt g hg).2
  opn:=Ad h.opn fun g hg=>k g (h.opn.lt g hg).2
  left:=Ad h.left fun g hg=>k g (h.left.lt g hg).2}
theorem WK.below(h:WK E c s w B C SB IB MB nm rb ro q1 vk vo vl tag)(k:Below w.heap.size w w'):WK E c s w' B C SB IB MB nm rb ro q1 vk vo vl tag:=h.keep k.block
theorem WK.wm(h:WK E c s w B C SB IB MB nm rb ro q1 vk vo vl tag):WM c w B C SB MB nm rb ro q1 s.hold:=
 ⟨h.b.cell (i:=0) dE,h.b.cell (i:=1) dE,h.b.cell (i:=3) dE,h.c1,h.regs,h.st,h.map⟩
theorem WK.b2(h:WK E c s w B C SB IB MB nm rb ro q1 vk vo vl tag):w.cell? ⟨B,2,none⟩=some (.slice (some ⟨IB,0,none⟩) c.regs.length c.regs.length):=h.b.cell (i:=2) dE
theorem WK.b3(h:WK E c s w B C SB IB MB nm rb ro q1 vk vo vl tag):w.cell? ⟨B,3,none⟩=some (.map (some MB)):=h.b.cell (i:=3) dE
theorem WK.b4(h:WK E c s w B C SB IB MB nm rb ro q1 vk vo vl tag):w.cell? ⟨B,4,none⟩=some vk:=h.b.cell (i:=4) dE
theorem WK.b5(h:WK E c s w B C SB IB MB nm rb ro q1 vk vo vl tag):w.cell? ⟨B,5,none⟩=some vo:=h.b.cell (i:=5) dE
theorem WK.b6(h:WK E c s w B C SB IB MB nm rb ro q1 vk vo vl tag):w.cell? ⟨B,6,none⟩=some vl:=h.b.cell (i:=6) dE
theorem AD{tag:Nat->Nat}{a b m n:Nat}(ha:tag a=m)(hb:tag b=n)(h:m≠n):a≠b:=fun e=>h (by rw[←ha,←hb,e])
theorem WK.setOpen(h:WK E c s w B C SB IB MB nm rb ro q1 vk vo vl tag){vo':Value}{O:List Nat}(ho:w.ownsRow E 3 1 vo' O.length (DK O))(ht:∀g,vo'.ownBlock=some g->tag g=6):
 WK E c {s with opn:=O} (w.setCell ⟨B,5,none⟩ vo') B C SB IB MB nm rb ro q1 vk vo' vl tag:=by
 have k:∀b,b≠B->(w.setCell ⟨B,5,none⟩ vo').heap[b]? =w.heap[b]? :=fun b hb=>Below.heap_setCell _ _ _ _ hb;exact{h with
  b:=(h.b.set 5 vo').congr fun j hj=>by
   exact Zx
  c1:=fun h0=>by rw[World.cell?_of_block (a:=⟨C,1,none⟩) (k C (by have:=h.hC;have:=h.hB;omega))];exact h.c1 h0
  regs:=fun r hr=>(h.regs r hr).of_block (k rb (by have:=h.hR;have:=h.hB;omega))
  st:=h.st.of_block (k _ (AD h.tS h.tB dE))
  ir:=h.ir.of_block (k _ (AD h.tI h.tB dE))
  map:=h.map.block (k _ (AD h.tM h.tB dE))
  reck:=Ad h.reck fun g hg=>k g (AD (h.tk g hg) h.tB dE)
  opn:=Ad ho fun g hg=>k g (AD (ht g hg) h.tB dE)
  left:=Ad h.left fun g hg=>k g (AD (h.tl g hg) h.tB dE)
  tO:=ht}
theorem WK.setReck(h:WK E c s w B C SB IB MB nm rb ro q1 vk vo vl tag){vk':Value}{K:List Rk}(ho:w.ownsRow E 108 9 vk' K.length (F2 K))(ht:∀g,vk'.ownBlock=some g->tag g=5):
 WK E c {s with reck:=K} (w.setCell ⟨B,4,none⟩ vk') B C SB IB MB nm rb ro q1 vk' vo vl tag:=by
 have k:∀b,b≠B->(w.setCell ⟨B,4,none⟩ vk').heap[b]? =w.heap[b]? :=fun b hb=>Below.heap_setCell _ _ _ _ hb;exact{h with
  b:=(h.b.set 4 vk').congr fun j hj=>by
   exact Zx
  c1:=fun h0=>by rw[World.cell?_of_block (a:=⟨C,1,none⟩) (k C (by have:=h.hC;have:=h.hB;omega))];exact h.c1 h0
  regs:=fun r hr=>(h.regs r hr).of_block (k rb (by have:=h.hR;have:=h.hB;omega))
  st:=h.st.of_block (k _ (AD h.tS h.tB dE))
  ir:=h.ir.of_block (k _ (AD h.tI h.tB dE))
  map:=h.map.block (k _ (AD h.tM h.tB dE))
  reck:=Ad ho fun g hg=>k g (AD (ht g hg) h.tB dE)
  opn:=Ad h.opn fun g hg=>k g (AD (h.tO g hg) h.tB dE)
  left:=Ad h.left fun g hg=>k g (AD (h.tl g hg) h.tB dE)
  tk:=ht}
theorem WK.setMap(h:WK E c s w B C SB IB MB nm rb ro q1 vk vo vl tag){nm':Nat}{H:Rk->Option Nat}(hm:CE w' MB nm' (fun q=>(H q).map fun(g:Nat)=>Value.int .i64 (g:Int)))(k:∀b,b<w.heap.size->b≠MB->w'.heap[b]? =w.heap[b]?):
 WK E c {s with hold:=H} w' B C SB IB MB nm' rb ro q1 vk vo vl tag:=
 {h with
  b:=h.b.of_block (k _ h.b.lt (AD h.tB h.tM dE))
  c1:=fun h0=>by rw[World.cell?_of_block (a:=⟨C,1,none⟩) (k C (A5 (h.c1 h0)) (by have:=h.hC;have:=h.hM;omega))];exact h.c1 h0
  regs:=fun r hr=>(h.regs r hr).of_block (k rb Zgj (by have:=h.hR;have:=h.hM;omega))
  st:=h.st.of_block (k _ h.st.lt (AD h.tS h.tM dE))
  ir:=h.ir.of_block (k _ h.ir.lt (AD h.tI h.tM dE))
  map:=hm
  reck:=Ad h.reck fun g hg=>k g (h.reck.lt g hg).2 (AD (h.tk g hg) h.tM dE)
  opn:=Ad h.opn fun g hg=>k g (h.opn.lt g hg).2 (AD (h.tO g hg) h.tM dE)
  left:=Ad h.left fun g hg=>k g (h.left.lt g hg).2 (AD (h.tl g hg) h.tM dE)}
end
theorem Zs:prog.underlying 77=some (.slice (prog.elem 77)):=kR
theorem ZN:prog.elem 77=108:=kR
theorem Wt(w:World):(sizeOf (prog.elem 77)).run prog w=.ok 9 w:=by rw[ZN];exact Tryz.sizeOf108 w
def Ea(s:RW)(A j:Nat)(r:Rk):Option Nat:=if r∈(s.reck.drop A).take j then none else s.hold r
theorem Pu(s:RW)(A:Nat):Ea s A 0=s.hold:=by funext r;simp[Ea]
theorem Ps{s:RW}{A j:Nat}(h:A+j<s.reck.length)(r:Rk):(if r=s.reck[A+j]then none else Ea s A j r)=Ea s A (j+1) r:=by
 have e:(s.reck.drop A).take (j+1)=(s.reck.drop A).take j++[s.reck[A+j]]:=by
  rw[List.take_succ_eq_append_getElem (by rw[List.length_drop];omega)];simp
 unfold Ea;rw[e];by_cases hj:r=s.reck[A+j]
 ·rw[if_pos hj,hj];simp
 ·rw[if_neg hj];simp[hj]
theorem So(s:RW)(A:Nat)(r:Rk):Ea s A (s.reck.length-A) r=if r∈s.reck.drop A then none else s.hold r:=by
 unfold Ea;rw[List.take_of_length_le sM]
theorem SQ{w:World}{B:Nat}{t:TypeId}{p:Option Addr}{c:Nat}{K:List Rk}(h:w.ownsRow B t 9 (.slice p K.length c) K.length (F2 K)){A j:Nat}(hj:A+j<K.length):
 ∃g,EJ p c A 9=some ⟨g,A*9,none⟩/\Ai w g (A*9+j*9) (PU K[A+j]):=by
 obtain⟨g,cap,hv,_,_,hc1,_,hcl⟩:=Ee h oM;simp only[Value.slice.injEq]at hv;obtain⟨rfl,-,rfl⟩:=hv;refine⟨g,?_,fun o ho=>?_⟩
 ·unfold EJ;rw[if_neg oM];by_cases h0:A=0
  ·subst h0;simp[Addr.add]
  ·have h1:¬A*9=0:=oM;simp[Addr.add,h0,h1]
 ·have h9:=hcl ((A+j)*9+o) (PU K[A+j])[o] (by rw[YG K (A+j) o hj ho,List.getElem?_eq_getElem ho]);rw[show(A+j)*9=A*9+j*9 by omega]at h9;exact h9
theorem Qk(E:Nat)(c:Cd)(s:RW)(w:World)(B C SB IB MB nm rb ro q1:Nat)(vk vo vl:Value)(tag:Nat->Nat)(O:List Nat)(A:Nat)(h:WK E c s w B C SB IB MB nm rb ro q1 vk vo vl tag)(hop:s.opn=O++[A])(hA:A<=s.reck.length)(hok:∀q∈s.reck,FH q)(hO:O.length<=1000000)(hK:s.reck.length<=1000000):
 Calls prog 54 #[.pointer (some ⟨B,0,none⟩)] w fun e w'=>e=.returned (.tuple #[])/\Below E w w'/\∃vk' vo',WK E c (Do s) w' B C SB IB MB nm rb ro q1 vk' vo' vl tag:=by
 have hlv:Do s={s with hold:=fun r=>if r∈s.reck.drop A then none else s.hold r,reck:=s.reck.take A,opn:=O}:=by
  unfold Do Iz;rw[hop];simp
 rw[hlv];have hopn:=h.opn;rw[hop]at hopn;obtain⟨g,cap,rfl,hg0,hg1,hc1,hc2,hcl⟩:=Ee hopn sM;obtain⟨pK,cK,rfl⟩:=AK h.reck;have hcs:=Jc h.reck;have x0:=hcl O.length (.int .i64 (A:Int)) (by simp[DK]);have hlO:(O++[A]).length=O.length+1:=sM;have ho:=DF (m:=O.length) (by rw[hlO]at hopn;exact hopn) oM;rw[Nat.mul_one,M0,List.take_left]at ho;rw[hlO]at h hc1;have c5:=h.b5;have c4:=h.b4;have HW1:Hid (WK E c {s with opn:=O,hold:=Ea s A 0} (w.setCell ⟨B,5,none⟩ (.slice (some ⟨g,0,none⟩) O.length cap)) B C SB IB MB nm rb ro q1 (.slice pK s.reck.length cK) (.slice (some ⟨g,0,none⟩) O.length cap) vl tag):=by
  rw[Pu];exact h.setOpen ho (fun b hb=>h.tO b (by rw[D6 (some ⟨g,0,none⟩) (O.length+1) O.length cap];exact hb))
 have HBW:Hid (Below E w (w.setCell ⟨B,5,none⟩ (.slice (some ⟨g,0,none⟩) O.length cap))):=(Below.refl E w).setCell h.hB _;have HF:Hid (∀v,v.ownsRow E 108 9 (.slice pK s.reck.length cK) s.reck.length (F2 s.reck)->∀j,A+j<s.reck.length->∃ (gs:Nat) (q:Rk),EJ pK cK A 9=some ⟨gs,A*9,none⟩/\Ai v gs (A*9+j*9) (PU q)/\FH q/\∀r,(if r=q then none else Ea s A j r)=Ea s A (j+1) r):=fun v hv j hj=>by
  obtain⟨gs,h1,h2⟩:=SQ hv hj;exact⟨gs,s.reck[A+j],h1,h2,hok _ (List.getElem_mem hj),Ps hj⟩
 have s1:=fun w=>CQ RI MT (some ⟨g,0,none⟩) (O.length+1) cap O.length oM w;have s2:=fun w=>IK Zs Wt pK s.reck.length cK A hA w;have s3:=fun w=>CQ Zs Wt pK s.reck.length cK A oM w;have HEND:Hid (∀v,WK E c {s with opn:=O,hold:=Ea s A (s.reck.length-A)} v B C SB IB MB nm rb ro q1 (.slice pK s.reck.length cK) (.slice (some ⟨g,0,none⟩) O.length cap) vl tag->WK E c {s with hold:=fun r=>if r∈s.reck.drop A then none else s.hold r,reck:=s.reck.take A,opn:=O} (v.setCell ⟨B,4,none⟩ (.slice pK A cK)) B C SB IB MB nm rb ro q1 (.slice pK A cK) (.slice (some ⟨g,0,none⟩) O.length cap) vl tag):=fun v hv=>by
  have hr:=DF (m:=A) hv.reck hA;rw[T0]at hr;have hlA:(s.reck.take A).length=A:=by rw[List.length_take];omega
  have h9:=hv.setReck (K:=s.reck.take A) (vk':=.slice pK A cK) (by rw[hlA];exact hr) (fun b hb=>hv.tk b (by rw[D6 pK s.reck.length A cK];exact hb));have e9:Ea s A (s.reck.length-A)=fun r=>if r∈s.reck.drop A then none else s.hold r:=by funext r;exact So s A r
  rw[e9]at h9;exact h9
 obtain⟨K,hKe⟩:∃K,s.reck.length=K:=⟨_,rfl⟩
 obtain⟨m,hm⟩:∃m,O.length=m:=⟨_,rfl⟩
 rw[hKe]at s2 s3 c4 HW1 hK hA HEND hcs;rw[hm]at s1 c5 HW1 hO HBW HEND x0;obtain⟨D,hD⟩:∃D,K-A=D:=⟨_,rfl⟩
 rw[hD]at s2 HEND;have HDD:=A8 hD;have HKE:=A8 hKe;obtain⟨N,hN⟩:∃N,m+1=N:=⟨_,rfl⟩
 rw[hm,hN]at hc1;rw[hN]at c5 s1;obtain⟨pF,hpF⟩:∃p,EJ pK cK A 9=p:=⟨_,rfl⟩
 simp only[hpF]at s2 HF;have hw:IntKind.i64.wrap ((N:Int)-1)=(m:Int):=by rw[IntKind.wrap_i64];omega
 have i1:(0:Int)<=(m:Int):=oM;have i2:(m:Int)<(N:Int):=oM;have f5:=h.b.frozen 5;have nBg:¬B=g:=fun e=>(AD h.tB (h.tO g rfl) dE) e;have HE:=A8 h.lt;have HBE:=A8 h.hB;have hDb:D<=1000000:=oM;clear hlv hopn hcl ho hlO h hop hok hc2 hg0 hpF hN hD hm hKe;obtain⟨W1,hW1⟩:∃W,w.setCell ⟨B,5,none⟩ (.slice (some ⟨g,0,none⟩) m cap)=W:=⟨_,rfl⟩
 rw[hW1]at HW1 HBW;have d4:W1.cell? ⟨B,4,none⟩=some (.slice pK K cK):=HW1.out.b4;go_enter func54,ntmps54;go_wp2
 go_loopw [35] (fun iv wr=>∃j:Nat,j<=D/\iv=.int .i64 (j:Int)/\Hid (Below E w wr/\WK E c {s with opn:=O,hold:=Ea s A j} wr B C SB IB MB nm rb ro q1 (.slice pK K cK) (.slice (some ⟨g,0,none⟩) m cap) vl tag)) (fun iv _=>D-(intOf iv).toNat)
 case atStart=>exact⟨0,Nat.zero_le _,rfl,HBW.out,HW1.out⟩
 case round=>
  clear d4;obtain⟨j,hj,rfl,HJ⟩:=hrel;by_cases hlt:j<D
  ·have hre:=HJ.out.2.reck;simp only at hre;rw[HKE.out]at hre;obtain⟨gs,q,rfl,hc,hq,hsv⟩:=HF.out wr (by rw[HKE.out];exact hre) j (by have:=HDD.out;have:=HKE.out;omega);have HSV:=A8 hsv;have HQ:=A8 hq;obtain⟨⟨op,d,a,b,e,n,z⟩,⟨tk,tp⟩⟩:=q;have y0:=hc.at 0 (v:=.int .i64 op) rfl;rw[Nat.add_zero]at y0;have y1:=hc.at 1 (v:=.int .i64 d) rfl;have y2:=hc.at 2 (v:=.int .i64 a) rfl;have y3:=hc.at 3 (v:=.int .i64 b) rfl;have y4:=hc.at 4 (v:=.int .i64 e) rfl;have y5:=hc.at 5 (v:=.int .i64 n) rfl;have y6:=hc.at 6 (v:=.int .u32 z) rfl;have y7:=hc.at 7 (v:=.int .i64 tk) rfl;have y8:=hc.at 8 (v:=.int .i64 tp) rfl;have i3:(0:Int)<=(j:Int):=oM;have i4:(j:Int)<(D:Int):=oM;have lgs:gs<wr.heap.size:=A5 y0;have wi:IntKind.i64.wrap ((j:Int)+1)=((j+1:Nat):Int):=by rw[IntKind.wrap_i64];omega
   have d3:=HJ.out.2.b3;have lB:=HJ.out.2.b.lt;have n9:¬B=wr.heap.size:=oM;have n8:¬gs=wr.heap.size:=oM;clear hc hq hsv hre;obtain⟨V,hV⟩:∃V,wr.alloc (.cells #[.int .i64 op,.int .i64 d,.int .i64 a,.int .i64 b,.int .i64 e,.int .i64 n,.int .u32 z,.int .i64 tk,.int .i64 tp] 108)=V:=⟨_,rfl⟩
   have HBV:Hid (Below wr.heap.size wr V):=by rw[←hV];exact A0 _ _
   have HVK:=A8 (HJ.out.2.below HBV.out);have hX:V.rowIs wr.heap.size 108 9 (F7 #[.int .i64 op,.int .i64 d,.int .i64 a,.int .i64 b,.int .i64 e,.int .i64 n,.int .u32 z,.int .i64 tk,.int .i64 tp]):=by rw[←hV];exact Bn wr _ _
   have HXX:=A8 hX;have z0:V.cell? ⟨wr.heap.size,0,none⟩=some (.int .i64 op):=hX.cell (i:=0) dE;have z1:V.cell? ⟨wr.heap.size,1,none⟩=some (.int .i64 d):=hX.cell (i:=1) dE;have z2:V.cell? ⟨wr.heap.size,2,none⟩=some (.int .i64 a):=hX.cell (i:=2) dE;have z3:V.cell? ⟨wr.heap.size,3,none⟩=some (.int .i64 b):=hX.cell (i:=3) dE;have z4:V.cell? ⟨wr.heap.size,4,none⟩=some (.int .i64 e):=hX.cell (i:=4) dE;have z5:V.cell? ⟨wr.heap.size,5,none⟩=some (.int .i64 n):=hX.cell (i:=5) dE;have z6:V.cell? ⟨wr.heap.size,6,none⟩=some (.int .u32 z):=hX.cell (i:=6) dE;have z7:V.cell? ⟨wr.heap.size,7,none⟩=some (.int .i64 tk):=hX.cell (i:=7) dE;have z8:V.cell? ⟨wr.heap.size,8,none⟩=some (.int .i64 tp):=hX.cell (i:=8) dE;have v3:=HVK.out.b3;obtain⟨W2,hrun,hm2,ht2⟩:=((HVK.out.below (A6 V)).map).del underlying76 HQ.out 0;simp only[KU]at hrun;have hun:Un (fun b=>b=MB) V.drew W2:=(Un.refl _ _).grown rfl ht2.grown;have HM2:=A8 (And.intro hm2 hun);have hX2:W2.rowIs wr.heap.size 108 9 (F7 #[.int .i64 op,.int .i64 d,.int .i64 a,.int .i64 b,.int .i64 e,.int .i64 n,.int .u32 z,.int .i64 tk,.int .i64 tp]):=(World.rowIs.drew hX).of_block (hun.block _ (World.rowIs.drew hX).lt (by have:=HJ.out.2.map.lt;omega));have z0':W2.cell? ⟨wr.heap.size,0,none⟩=some (.int .i64 op):=hX2.cell (i:=0) dE;have z1':W2.cell? ⟨wr.heap.size,1,none⟩=some (.int .i64 d):=hX2.cell (i:=1) dE;have z2':W2.cell? ⟨wr.heap.size,2,none⟩=some (.int .i64 a):=hX2.cell (i:=2) dE;have z3':W2.cell? ⟨wr.heap.size,3,none⟩=some (.int .i64 b):=hX2.cell (i:=3) dE;have z4':W2.cell? ⟨wr.heap.size,4,none⟩=some (.int .i64 e):=hX2.cell (i:=4) dE;have z5':W2.cell? ⟨wr.heap.size,5,none⟩=some (.int .i64 n):=hX2.cell (i:=5) dE;have z6':W2.cell? ⟨wr.heap.size,6,none⟩=some (.int .u32 z):=hX2.cell (i:=6) dE;have z7':W2.cell? ⟨wr.heap.size,7,none⟩=some (.int .i64 tk):=hX2.cell (i:=7) dE;have z8':W2.cell? ⟨wr.heap.size,8,none⟩=some (.int .i64 tp):=hX2.cell (i:=8) dE;have v3':W2.cell? ⟨B,3,none⟩=some (.map (some MB)):=by
    have hd:=HVK.out.below (A6 V);rw[World.cell?_of_block (a:=⟨B,3,none⟩) (hun.block B hd.b.lt (AD hd.tB hd.tM dE))];exact hd.b3
   clear hX hX2 hm2 ht2 hun;go_wp2;try rw[hV]
   clear hV y0 y1 y2 y3 y4 y5 y6 y7 y8 d3;refine rG (fun v=>v.cell? ⟨B,3,none⟩=some (.map (some MB))/\v.cell? ⟨wr.heap.size,0,none⟩=some (.int .i64 op)/\v.cell? ⟨wr.heap.size,1,none⟩=some (.int .i64 d)/\v.cell? ⟨wr.heap.size,2,none⟩=some (.int .i64 a)/\v.cell? ⟨wr.heap.size,3,none⟩=some (.int .i64 b)/\v.cell? ⟨wr.heap.size,4,none⟩=some (.int .i64 e)/\v.cell? ⟨wr.heap.size,5,none⟩=some (.int .i64 n)/\v.cell? ⟨wr.heap.size,6,none⟩=some (.int .u32 z)/\v.cell? ⟨wr.heap.size,7,none⟩=some (.int .i64 tk)/\v.cell? ⟨wr.heap.size,8,none⟩=some (.int .i64 tp)) fun hHeld=>?_;refine Tc 0 1 2 ?_;refine Tb 3 4 ?_;clear hHeld;refine AC 5 fun K hK=>?_;go_simp;refine Ax hK fun hHeld=>?_;clear hK K;refine wpAnyH_done kR ?_ _;clear hrun z0 z1 z2 z3 z4 z5 z6 z7 z8 v3 z0' z1' z2' z3' z4' z5' z6' z7' z8' v3';go_wp2;go_roundw
   case rel=>
    have hd:=HVK.out.below (A6 V);refine⟨j+1,oM,gN,?_,?_⟩
    ·have h1:Below E wr V.drew:=(bel HBV.out (A6 V)).mono HJ.out.2.lt;exact(HJ.out.1.trans h1).trans (HM2.out.2.below hd.lt (fun b q=>by rw[q];exact hd.hM))
    ·have hm:=HM2.out.1;have e9:(fun r=>if r=(⟨⟨op,d,a,b,e,n,z⟩,⟨tk,tp⟩⟩:Rk)then none else(Ea s A j r).map fun(g:Nat)=>Value.int .i64 (g:Int))=fun r=>(Ea s A (j+1) r).map fun(g:Nat)=>Value.int .i64 (g:Int):=by
      funext r;rw[←HSV.out r];by_cases q:r=(⟨⟨op,d,a,b,e,n,z⟩,⟨tk,tp⟩⟩:Rk)
      ·rw[if_pos q,if_pos q];rfl
      ·rw[if_neg q,if_neg q]
     rw[e9]at hm;exact hd.setMap hm (fun b hb hne=>HM2.out.2.block b hb hne)
   case measure=>simp[intOf];omega
  ·have e9:¬ (j:Int)<(D:Int):=oM;have hjD:j=D:=oM;subst hjD;have d4:=HJ.out.2.b4;have f4:=HJ.out.2.b.frozen 4;clear hlt hj;go_wp2;go_returns;exact⟨rfl,HJ.out.1.setCell HBE.out _,_,_,HEND.out _ HJ.out.2⟩
end Go.Proofs.YtcdpmgldkibfiaaGreat
