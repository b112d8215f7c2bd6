import Derived.Test.YtbinohkcolcbfaaGreatPart2
import Derived.Test.YtbinohkcolcbfaaGreatPart13
import Derived.Test.YtbinohkcolcbfaaGreatPart12
import Derived.Deep.OwnRows
import Derived.Test.YtbinohkcolcbfaaGreatPart1
namespace Go.Proofs.YtbinohkcolcbfaaGreat
open Go.RowKit Go.Proofs.Tryz
set_option linter.all false
set_option maxRecDepth 100000
set_option maxHeartbeats 16000000
structure Hd where
 pats:List Int
 whole:Int
structure Fr where
 nums:Nat->Int
 whs:Nat->Int
 vecs:Nat->List Int
 slots:List Hd
 outs:Nat->Nat->Int
def BK{α:Type}(f:Nat->α)(k:Nat)(x:α):Nat->α:=fun j=>if j=k then x else f j
theorem Da{α:Type}(f:Nat->α)(k:Nat)(x:α):BK f k x k=x:=if_pos rfl
theorem Db{α:Type}(f:Nat->α){k j:Nat}(x:α)(h:j≠k):BK f k x j=f j:=if_neg h
theorem C6{α:Type}{Q:α->Prop}{f:Nat->α}{k:Nat}{x:α}(h:∀j,Q (f j))(hx:Q x)(j:Nat):Q (BK f k x j):=by
 unfold BK;split
 ·exact hx
 ·exact h j
def lenOf(c:Cd)(p:Int):Nat:=((c.sign[p.toNat]?).map fun q=>q.len.toNat).getD 0
def Ag(c:Cd)(p:Int):Nat:=if Ci c.sign p=2 then 2 else 1
def Ad(c:Cd)(t:Ty):Nat:=if t.kind=3 then lenOf c t.par else if t.kind=1 then 1 else 0
def BV(c:Cd)(t:Ty)(a:Int):List Int:=List.replicate (Ad c t) (canon a)
def AK(c:Cd)(s:Sl):Hd:=⟨BV c s.ty s.bits,s.int_⟩
def BG(c:Cd)(f:Fr)(r:Int):Hd:=
 if(A8 c.regs r).kind=1 then⟨[f.nums r.toNat],0⟩else if(A8 c.regs r).kind=2 then⟨[],f.whs r.toNat⟩else⟨f.vecs r.toNat,0⟩
def GS(c:Cd)(f:Fr)(r:Int)(h:Hd):Fr:=
 if(A8 c.regs r).kind=1 then{f with nums:=BK f.nums r.toNat (h.pats.headD 0)}
 else if(A8 c.regs r).kind=2 then{f with whs:=BK f.whs r.toNat h.whole}
 else{f with vecs:=BK f.vecs r.toNat h.pats}
def B7(l:List Int)(j:Nat):Int:=(l[j]?).getD 0
def CF(vs:List (List Int))(p:Nat):List Int:=(vs[p]?).getD []
def AH(c:Cd)(vs:List (List Int))(i:At):List Int:=
 (List.range (lenOf c (A8 c.regs i.d).par)).map fun e=>canon (B7 (CF vs (A8 c.regs i.d).par.toNat) (Ag c (A8 c.regs i.d).par*e+i.n.toNat))
def LI(o:Nat->Nat->Int)(p k n:Nat)(l:List Int):Nat->Nat->Int:=
 fun q j=>if q=p/\j%k=n/\j/k<l.length then B7 l (j/k)else o q j
def lF(args:List (List Int))(i:Nat):Nat:=(CF args i).length
def xF(args:List (List Int))(i j:Nat):Int:=B7 (CF args i) j
def Br(op:Int)(args:List (List Int)):List Int:=
 match BY (lF args) (args.length-1)with
 |some n=>(List.range n).map fun i=>CM op (Bf (lF args) (xF args) args.length i 0) (Bf (lF args) (xF args) args.length i 1) (Bf (lF args) (xF args) args.length i 2)
 |none=>[]
def Bh(c:Cd)(f:Fr)(i:At):List (List Int):=(Ak i (A6 i.op)).map fun r=>(BG c f r).pats
def CQ(c:Cd)(f:Fr)(i:At):Fr:=
 if(A8 c.regs i.d).kind=2 then{f with whs:=BK f.whs i.d.toNat (f.whs i.a.toNat)}
 else GS c f i.d ⟨if(Br i.op (Bh c f i)).length<Ad c (A8 c.regs i.d)then BV c (A8 c.regs i.d) ((Br i.op (Bh c f i)).headD 0)else Br i.op (Bh c f i),0⟩
def Gy(f:Fr)(i:At):Int:=
 if i.op=16 then Gs (f.nums i.a.toNat) (f.whs i.b.toNat)else if i.op=17 then Ez (f.whs i.a.toNat)
 else if i.op=19 then I8 (B7 (f.vecs i.a.toNat)) (f.vecs i.a.toNat).length else if i.op=20 then Dq (B7 (f.vecs i.a.toNat)) (f.vecs i.a.toNat).length else i.bits
def B4(b:Bool):Int:=if b then 1 else 0
def DX(f:Fr)(i:At):Int:=
 if i.op=18 then B4 (G8 (f.nums i.a.toNat) 1065353216 0==1065353216)
 else if i.op=21 then min (f.whs i.a.toNat) 2147483646+1
 else if i.op=22 then B4 (decide (f.whs i.a.toNat<f.whs i.b.toNat))
 else if i.op=23 then B4 (f.whs i.a.toNat==f.whs i.b.toNat)
 else if i.op=24 then B4 (f.whs i.a.toNat != 0&&f.whs i.b.toNat != 0)
 else if i.op=25 then B4 (f.whs i.a.toNat==0)
 else if i.op=26 then(if f.whs i.a.toNat=0 then f.whs i.c.toNat else f.whs i.b.toNat)
 else if i.op=27 then max (f.whs i.a.toNat-f.whs i.b.toNat) 0
 else if i.op=28 then(if f.whs i.b.toNat=0 then 0 else f.whs i.a.toNat/f.whs i.b.toNat)
 else i.n
def Du(op:Int):Bool:=op==1||op==16||op==17||op==19||op==20
def Bg(op:Int):Bool:=op==2||op==18||(decide (21<=op)&&decide (op<=28))
def DZ(c:Cd)(G P:List (List Int))(f:Fr)(i:At):Fr:=
 if Du i.op then{f with nums:=BK f.nums i.d.toNat (Gy f i)}
 else if Bg i.op then{f with whs:=BK f.whs i.d.toNat (DX f i)}
 else if i.op=29 then{f with vecs:=BK f.vecs i.d.toNat (AH c G i)}
 else if i.op=30 then{f with vecs:=BK f.vecs i.d.toNat (AH c P i)}
 else if i.op=31 then{f with outs:=LI f.outs (A8 c.regs i.a).par.toNat (Ag c (A8 c.regs i.a).par) i.n.toNat (f.vecs i.a.toNat)}
 else if i.op=32 then GS c f i.d ((f.slots[i.n.toNat]?).getD ⟨[],0⟩)
 else if i.op=33 then{f with slots:=f.slots.set i.n.toNat (BG c f i.a)}
 else if 34<=i.op/\i.op<=37 then f
 else CQ c f i
def Bn(c:Cd)(G P:List (List Int))(s:Fr×Nat)(i:At):Fr×Nat:=
 if 0<s.2/\i.op=35 then(s.1,s.2-1)
 else if i.op=34/\(0<s.2\/s.1.whs i.a.toNat=0)then(s.1,s.2+1)
 else if s.2=0 then(DZ c G P s.1 i,0)else s
def VZ(c:Cd)(G P:List (List Int))(s:Fr×Nat)(l:List At):Fr×Nat:=l.foldl (Bn c G P) s
def Ba(c:Cd):List Hd:=c.slots.map (AK c)
def Ju(p:BM):Nat:=(BJ p).toNat
def E1(c:Cd)(f:Fr):List (List Int):=(List.range c.sign.length).map fun p=>(List.range ((c.sign[p]?).elim 0 Ju)).map (f.outs p)
def Ds(c:Cd)(G P:List (List Int)):Bool:=AB c.sign (G.map (·.length))&&AB c.sign (P.map (·.length))
structure Un(U:Nat->Prop)(w w':World):Prop where
 os:w'.os=w.os
 tape:w'.tape=w.tape
 output:w'.output=w.output
 size:w.heap.size<=w'.heap.size
 block:∀b,b<w.heap.size->¬U b->w'.heap[b]? =w.heap[b]?
section
variable {U T : Nat -> Prop} {w w' w'' : World}
theorem Un.refl(U:Nat->Prop)(w:World):Un U w w:=⟨rfl,rfl,rfl,Nat.le_refl _,fun _ _ _=>rfl⟩
theorem Un.trans(h:Un U w w')(k:Un U w' w''):Un U w w'':=
 ⟨k.os.trans h.os,k.tape.trans h.tape,k.output.trans h.output,Nat.le_trans h.size k.size,fun b hb hu=>(k.block b (Nat.lt_of_lt_of_le hb h.size) hu).trans (h.block b hb hu)⟩
theorem Un.of(h:Below w.heap.size w w'):Un U w w':=⟨h.os,h.tape,h.output,h.size,fun b hb _=>h.block b hb⟩
theorem Un.mono(h:Un U w w')(k:∀b,U b->T b):Un T w w':=⟨h.os,h.tape,h.output,h.size,fun b hb hu=>h.block b hb fun q=>hu (k b q)⟩
theorem Un.on(h:Un U w w')(k:Below w'.heap.size w' w''):Un U w w'':=h.trans (Un.of k)
theorem Un.below{B:Nat}(h:Un U w w')(hB:B<=w.heap.size)(k:∀b,U b->B<=b):Below B w w':=
 ⟨h.os,h.tape,h.output,h.size,fun b hb=>h.block b oM fun q=>by have:=k b q;omega⟩
theorem Un.setCell(h:Un U w w'){p:Addr}(hp:U p.block)(x:Value):Un U w (w'.setCell p x):=
 ⟨h.os,h.tape,h.output,by simpa[World.setCell]using h.size,fun b hb hu=>by
  have hne:b≠p.block:=fun e=>hu (by rw[e];exact hp)
  rw[Below.heap_setCell _ _ _ _ (by exact hne)];exact h.block b hb hu⟩
theorem Un.grown(h:Un U w w'){b:Nat}(hb:U b)(g:w'.grownBy w'' (some b)):Un U w w'':=by
 have k:Below w'.heap.size w' w':=Below.refl _ _;refine h.trans ⟨g.os,g.tape,g.output,g.size,fun j hj hu=>g.block j hj (fun e=>?_)⟩;cases e;exact hu hb
end
def BH{α:Type}(T:Nat->Prop)(k:Nat)(f:α->List Value)(w:World)(v:Value)(l:List α):Prop:=
 ∃p c,v=.slice p l.length c/\(l=[]\/∃b o,p=some ⟨b,o,none⟩/\¬T b/\b<w.heap.size/\∀i (h:i<l.length),Aa w b (o+i*k) (f l[i]))
section
variable {α : Type} {T U : Nat -> Prop} {k : Nat} {f : α -> List Value} {w w' : World} {v : Value} {l : List α}
theorem BH.row(h:BH T k f w v l):B6 k f w v l:=by
 obtain⟨p,c,hv,h⟩:=h;exact⟨p,c,hv,h.imp id fun⟨b,o,hp,_,_,h⟩=>⟨b,o,hp,h⟩⟩
theorem BH.un(h:BH T k f w v l)(q:Un U w w')(hu:∀b,b<w.heap.size->U b->T b):BH T k f w' v l:=by
 obtain⟨p,c,hv,h⟩:=h;exact⟨p,c,hv,h.imp id fun⟨b,o,hp,ht,hb,h⟩=>⟨b,o,hp,ht,Nat.lt_of_lt_of_le hb q.size,fun i hi=>(h i hi).of_block (q.block b hb fun e=>ht (hu b hb e))⟩⟩
theorem BH.below(h:BH T k f w v l)(q:Below w.heap.size w w'):BH T k f w' v l:=h.un (U:=fun _=>False) (Un.of q) (fun _ _ e=>e.elim)
theorem BH.mono(h:BH T k f w v l)(hu:∀b,b<w.heap.size->U b->T b):BH U k f w v l:=by
 obtain⟨p,c,hv,h⟩:=h;exact⟨p,c,hv,h.imp id fun⟨b,o,hp,ht,hb,h⟩=>⟨b,o,hp,fun e=>ht (hu b hb e),hb,h⟩⟩
end
def ON(x:Int):List Value:=[.int .u32 x]
abbrev Pt(T:Nat->Prop)(w:World)(v:Value)(l:List Int):Prop:=BH T 1 ON w v l
theorem Pt.nil(T:Nat->Prop)(w:World)(p:Option Addr)(c:Nat):Pt T w (.slice p 0 c) []:=⟨p,c,rfl,.inl rfl⟩
theorem Pt.reads{T:Nat->Prop}{w:World}{p:Option Addr}{n c:Nat}{l:List Int}(h:Pt T w (.slice p n c) l):n=l.length/\AD w p n (fun j=>.int .u32 (B7 l j)):=by
 obtain⟨p',c',hv,h⟩:=h;simp only[Value.slice.injEq]at hv;obtain⟨rfl,rfl,rfl⟩:=hv;refine⟨rfl,?_⟩;rcases h with h|⟨b,o,hp,_,_,h⟩
 ·exact .inl (by rw[h];rfl)
 ·refine .inr ⟨b,o,hp,fun i hi=>?_⟩;have:=(h i hi).at 0 (v:=.int .u32 l[i]) rfl;rw[Nat.mul_one,Nat.add_zero]at this;rw[this];simp[B7,List.getElem?_eq_getElem hi]
theorem Pt.len{T:Nat->Prop}{w:World}{v:Value}{l:List Int}(h:Pt T w v l):∃p c,v=.slice p l.length c:=by
 obtain⟨p,c,hv,_⟩:=h;exact⟨p,c,hv⟩
theorem Pt.of_row{T:Nat->Prop}{w:World}{g:Nat}{t:TypeId}{n:Nat}{X:Nat->Int}{l:List Int}(h:w.rowIs g t n (fun j=>.int .u32 (X j)))(ht:¬T g)(hl:l.length=n)(hx:∀j,j<n->B7 l j=X j)(c:Nat):Pt T w (.slice (some ⟨g,0,none⟩) n c) l:=by
 refine⟨_,c,by rw[hl],.inr ⟨g,0,rfl,ht,h.lt,fun i hi j hj=>?_⟩⟩;have hj0:j=0:=by have:j<1:=hj;omega
 subst hj0;have:=h.cell (i:=i) oM;rw[←hx i oM]at this;simp only[Nat.zero_add,Nat.mul_one,Nat.add_zero,ON,List.getElem_cons_zero];rw[this];simp[B7,List.getElem?_eq_getElem hi]
def BC(T:Nat->Prop)(w:World)(v:Value)(L:List (List Int)):Prop:=
 ∃p c,v=.slice p L.length c/\(L=[]\/∃b o,p=some ⟨b,o,none⟩/\¬T b/\b<w.heap.size/\∀i (h:i<L.length),∃u,w.cell? ⟨b,o+i,none⟩=some u/\Pt T w u L[i])
theorem BC.un{T U:Nat->Prop}{w w':World}{v:Value}{L:List (List Int)}(h:BC T w v L)(q:Un U w w')(hu:∀b,b<w.heap.size->U b->T b):BC T w' v L:=by
 obtain⟨p,c,hv,h⟩:=h;refine⟨p,c,hv,h.imp id fun⟨b,o,hp,ht,hb,h⟩=>⟨b,o,hp,ht,Nat.lt_of_lt_of_le hb q.size,fun i hi=>?_⟩⟩;obtain⟨u,h1,h2⟩:=h i hi;exact⟨u,(World.cell?_of_block (q.block b hb fun e=>ht (hu b hb e))).trans h1,h2.un q hu⟩
theorem BC.below{T:Nat->Prop}{w w':World}{v:Value}{L:List (List Int)}(h:BC T w v L)(q:Below w.heap.size w w'):BC T w' v L:=h.un (U:=fun _=>False) (Un.of q) (fun _ _ e=>e.elim)
theorem BC.mono{T U:Nat->Prop}{w:World}{v:Value}{L:List (List Int)}(h:BC T w v L)(hu:∀b,b<w.heap.size->U b->T b):BC U w v L:=by
 obtain⟨p,c,hv,h⟩:=h;refine⟨p,c,hv,h.imp id fun⟨b,o,hp,ht,hb,h⟩=>⟨b,o,hp,fun e=>ht (hu b hb e),hb,fun i hi=>?_⟩⟩;obtain⟨u,h1,h2⟩:=h i hi;exact⟨u,h1,h2.mono hu⟩
structure Cn where
 C:Nat
 S:Nat
 FR:Nat
 NB:Nat
 WB:Nat
 MB:Nat
 UB:Nat
 K:Nat
 ub:Nat->Nat
 sp:Option Addr
 sc:Nat
 v0:Value
 v1:Value
 v2:Value
 v3:Value
 gv:Value
 pv:Value
structure Ic(T:Nat->Prop)(w:World)(a:Cn)(c:Cd):Prop where
 hC:¬T a.C
 ltC:a.C<w.heap.size
 cells:Aa w a.C 0 [a.v0,a.v1,a.v2,a.v3]
 sign:BH T 3 AG w a.v0 c.sign
 regs:BH T 2 Kw w a.v1 c.regs
 slots:BH T 5 Jk w a.v2 c.slots
 list:BH T 7 Dt w a.v3 c.list
theorem Ic.un{T U:Nat->Prop}{w w':World}{a:Cn}{c:Cd}(h:Ic T w a c)(q:Un U w w')(hu:∀b,b<w.heap.size->U b->T b):Ic T w' a c:=
 ⟨h.hC,Nat.lt_of_lt_of_le h.ltC q.size,h.cells.of_block (q.block _ h.ltC fun e=>h.hC (hu _ h.ltC e)),h.sign.un q hu,h.regs.un q hu,h.slots.un q hu,h.list.un q hu⟩
theorem Ic.below{T:Nat->Prop}{w w':World}{a:Cn}{c:Cd}(h:Ic T w a c)(q:Below w.heap.size w w'):Ic T w' a c:=h.un (U:=fun _=>False) (Un.of q) (fun _ _ e=>e.elim)
theorem Ic.mono{T U:Nat->Prop}{w:World}{a:Cn}{c:Cd}(h:Ic T w a c)(hu:∀b,b<w.heap.size->U b->T b):Ic U w a c:=
 ⟨fun e=>h.hC (hu _ h.ltC e),h.ltC,h.cells,h.sign.mono hu,h.regs.mono hu,h.slots.mono hu,h.list.mono hu⟩
structure SA(T:Nat->Prop)(w:World)(a:Cn)(X:Nat->Value)(l:List Hd):Prop where
 row:w.rowIs a.S 78 (2*a.K) X
 sp:l=[]\/a.sp=some ⟨a.S,0,none⟩
 le:l.length<=a.K
 whole:∀j (h:j<l.length),X (2*j+1)=.int .i64 l[j].whole
 pats:∀j (h:j<l.length),Pt T w (X (2*j)) l[j].pats
theorem SA.un{T U:Nat->Prop}{w w':World}{a:Cn}{X:Nat->Value}{l:List Hd}(h:SA T w a X l)(q:Un U w w')(hS:¬U a.S)(hu:∀b,b<w.heap.size->U b->T b):SA T w' a X l:=
 ⟨h.row.of_block (q.block _ h.row.lt hS),h.sp,h.le,h.whole,fun j hj=>(h.pats j hj).un q hu⟩
theorem SA.below{T:Nat->Prop}{w w':World}{a:Cn}{X:Nat->Value}{l:List Hd}(h:SA T w a X l)(q:Below w.heap.size w w'):SA T w' a X l:=h.un (U:=fun _=>False) (Un.of q) (fun e=>e) (fun _ _ e=>e.elim)
theorem SA.mono{T U:Nat->Prop}{w:World}{a:Cn}{X:Nat->Value}{l:List Hd}(h:SA T w a X l)(hu:∀b,b<w.heap.size->U b->T b):SA U w a X l:=
 ⟨h.row,h.sp,h.le,h.whole,fun j hj=>(h.pats j hj).mono hu⟩
theorem IL(b:Bool)(w:World):Calls prog 113 #[.bool b] w fun e w'=>e=.returned (.int .i64 (B4 b))/\w'=w:=by
 cases b<;>(go_enter func113,ntmps113;go_wp2;go_ret;exact⟨rfl,rfl⟩)
theorem Rg(a:Int)(ha:Af a)(w:World):Calls prog 114 #[.int .u32 a] w fun e w'=>e=.returned (.bool (G8 a 1065353216 0==1065353216))/\w'=w:=by
 go_enter func114,ntmps114;go_wp2_with(go_at_call 144;refine(J8 _ ha.1 ha.2 _ dE dE _ dE dE _).mono ?_;rintro e w1 ⟨rfl,hw'⟩;obtain rfl:=hw'.symm);go_ret;exact⟨rfl,rfl⟩
theorem NM(a b c:Int)(w:World):Calls prog 115 #[.int .i64 a,.int .i64 b,.int .i64 c] w fun e w'=>e=.returned (.int .i64 (if a=0 then c else b))/\w'=w:=by
 by_cases h:a=0
 ·subst h;go_enter func115,ntmps115;go_wp2;go_ret;exact⟨rfl,rfl⟩
 ·have h1:(a != 0)=true:=by simpa using h
  have h2:(a==0)=false:=by simpa using h
  rw[if_neg h];go_enter func115,ntmps115;go_wp2;go_ret;exact⟨rfl,rfl⟩
theorem Kz{T:Nat->Prop}(a:Cn)(c:Cd)(t:Ty)(w:World)(hc:Ic T w a c)(ht:t.kind=3->Aj t.par c.sign.length=true)(hl:∀p∈c.sign,0<=p.len):
 Calls prog 59 #[.pointer (some ⟨a.C,0,none⟩),Dy t] w fun e w'=>e=.returned (.int .i64 (Ad c t))/\Below w.heap.size w w':=by
 obtain⟨k,p⟩:=t;unfold Dy Ad;simp only at ht ⊢;have c0:=hc.cells.at 0 (v:=a.v0) rfl;by_cases h3:k=3
 ·subst h3;obtain⟨h0,h1⟩:=C5.1 (ht rfl);obtain⟨j,rfl⟩:∃j:Nat,p=(j:Int):=⟨p.toNat,oM⟩
  obtain⟨q,m,hv⟩:∃q m,a.v0=.slice q c.sign.length m:=by obtain⟨q,m,hv,_⟩:=hc.sign;exact⟨q,m,hv⟩
  have hrow:=hc.sign.row;rw[hv]at hrow c0;obtain⟨b,o,rfl,hcell⟩:=hrow.at (i:=j) oM;have hx:=hcell.at 2 (v:=.int .i64 c.sign[j].len) rfl;have hn:=hl c.sign[j] (List.getElem_mem _);have hw:(if(3:Int)=3 then lenOf c ((j:Int))else if(3:Int)=1 then 1 else 0)=c.sign[j].len.toNat:=by
   rw[if_pos rfl];unfold lenOf;simp[show j<c.sign.length by omega]
  rw[hw];obtain⟨N,hN⟩:∃N,c.sign.length=N:=⟨_,rfl⟩
  obtain⟨L,hL⟩:∃L,c.sign[j].len=L:=⟨_,rfl⟩
  rw[hL]at hx hn ⊢;rw[hN]at c0 h1;have hLL:((L.toNat:Nat):Int)=L:=oM;rw[hLL];clear hw hcell hrow hv hL hN;have f0:=kc (A0 w (.cells #[.int .i64 3,.int .i64 (j:Int)] 69)) c0;have f1:=kc (A0 w (.cells #[.int .i64 3,.int .i64 (j:Int)] 69)) hx;have n1:b≠w.heap.size:=by have:=A3 hx;simp at this;omega
  have n2:a.C≠w.heap.size:=by have:=A3 c0;simp at this;omega
  obtain⟨C,hC⟩:∃C,a.C=C:=⟨_,rfl⟩
  rw[hC]at c0 f0 n2 ⊢;clear hC hc hl ht;go_enter func59,ntmps59;go_wp2;refine rG (fun v=>v.cell? ⟨C,0,none⟩=some (.slice (some ⟨b,o,none⟩) N m)/\v.cell? ⟨b,o+j*3+2,none⟩=some (.int .i64 L)/\v.cell? ⟨w.heap.size,0,none⟩=some (.int .i64 3)/\v.cell? ⟨w.heap.size,1,none⟩=some (.int .i64 (j:Int))) fun hHeld=>?_;refine Tf 0 1 2 3 4 5 ?_;refine Tc 6 7 8 ?_;refine AN 9 ?_;refine wpAnyH_done kR ?_ _;go_wp2;go_ret;exact⟨rfl,gG⟩
 ·have e3:(k==3)=false:=by simpa using h3
  rw[if_neg h3];by_cases h1:k=1
  ·subst h1;clear hc ht hl c0;go_enter func59,ntmps59;go_wp2;go_ret;exact⟨rfl,gG⟩
  ·have e1:(k==1)=false:=by simpa using h1
   rw[if_neg h1];clear hc ht hl c0;go_enter func59,ntmps59;go_wp2;go_ret;exact⟨rfl,gG⟩
def AX(T:Nat->Prop)(E E':Nat):Nat->Prop:=fun b=>T b\/(E<=b/\b<E')
def Bd(c:Cd)(p:Nat):Nat:=(c.sign[p]?).elim 0 Ju
structure FX(T:Nat->Prop)(E E':Nat)(a:Cn)(c:Cd)(G P:List (List Int))(w:World):Prop where
 hE:E<=E'
 hE':E'<=w.heap.size
 hT:∀b,T b->b<E
 hS:T a.S
 code:Ic (AX T E E') w a c
 g:BC (AX T E E') w a.gv G
 p:BC (AX T E E') w a.pv P
 fr:Aa w a.FR 0 [.pointer (some ⟨a.C,0,none⟩),.slice a.sp c.slots.length a.sc,.slice (some ⟨a.NB,0,none⟩) c.regs.length c.regs.length,.slice (some ⟨a.WB,0,none⟩) c.regs.length c.regs.length,.map (some a.MB),a.gv,a.pv,.slice (some ⟨a.UB,0,none⟩) c.sign.length c.sign.length]
 upd:w.rowIs a.UB 57 c.sign.length (fun p=>.slice (some ⟨a.ub p,0,none⟩) (Bd c p) (Bd c p))
 iFR:E<=a.FR/\a.FR<E'
 iNB:E<=a.NB/\a.NB<E'
 iWB:E<=a.WB/\a.WB<E'
 iMB:E<=a.MB/\a.MB<E'
 iUB:E<=a.UB/\a.UB<E'
 iub:∀p,p<c.sign.length->E<=a.ub p/\a.ub p<E'
 d1:a.FR≠a.NB/\a.FR≠a.WB/\a.FR≠a.MB/\a.FR≠a.UB/\a.NB≠a.WB/\a.NB≠a.MB/\a.NB≠a.UB/\a.WB≠a.MB/\a.WB≠a.UB/\a.MB≠a.UB
 d2:∀p,p<c.sign.length->a.ub p≠a.FR/\a.ub p≠a.NB/\a.ub p≠a.WB/\a.ub p≠a.MB/\a.ub p≠a.UB
 d3:∀p q,p<c.sign.length->q<c.sign.length->a.ub p=a.ub q->p=q
structure FV(T:Nat->Prop)(E E':Nat)(a:Cn)(c:Cd)(w:World)(X:Nat->Value)(M:Nat)(m:Nat->Option Value)(f:Fr):Prop where
 nums:w.rowIs a.NB 43 c.regs.length (fun j=>.int .u32 (f.nums j))
 whs:w.rowIs a.WB 3 c.regs.length (fun j=>.int .i64 (f.whs j))
 map:DG w a.MB M m
 vecs:∀r,r<c.regs.length->Pt (AX T E E') w ((m r).getD (.slice none 0 0)) (f.vecs r)
 outs:∀p,p<c.sign.length->w.rowIs (a.ub p) 43 (Bd c p) (fun j=>.int .u32 (f.outs p j))
 slots:SA (AX T E E') w a X f.slots
 slotsL:f.slots.length=c.slots.length
section
variable {T : Nat -> Prop} {E E' : Nat} {a : Cn} {c : Cd} {G P : List (List Int)} {w w' : World} {X : Nat -> Value} {M : Nat} {m : Nat -> Option Value} {f : Fr}
theorem FX.un{U:Nat->Prop}(h:FX T E E' a c G P w)(q:Un U w w')(hu:∀b,b<w.heap.size->U b->AX T E E' b)(h1:¬U a.FR)(h2:¬U a.UB):FX T E E' a c G P w':=
 ⟨h.hE,Nat.le_trans h.hE' q.size,h.hT,h.hS,h.code.un q hu,h.g.un q hu,h.p.un q hu,h.fr.of_block (q.block _ (by have:=h.iFR;have:=h.hE';omega) h1),h.upd.of_block (q.block _ h.upd.lt h2),h.iFR,h.iNB,h.iWB,h.iMB,h.iUB,h.iub,h.d1,h.d2,h.d3⟩
theorem FX.below(h:FX T E E' a c G P w)(q:Below w.heap.size w w'):FX T E E' a c G P w':=h.un (U:=fun _=>False) (Un.of q) (fun _ _ e=>e.elim) (fun e=>e) (fun e=>e)
theorem FV.below(h:FV T E E' a c w X M m f)(q:Below w.heap.size w w'):FV T E E' a c w' X M m f:=
 ⟨h.nums.of_block (q.block _ h.nums.lt),h.whs.of_block (q.block _ h.whs.lt),h.map.below q,fun r hr=>(h.vecs r hr).below q,fun p hp=>(h.outs p hp).of_block (q.block _ (h.outs p hp).lt),h.slots.below q,h.slotsL⟩
theorem FX.ltS(h:FX T E E' a c G P w):a.S<E:=h.hT _ h.hS
theorem Lv(b:Nat)(h:E<=b/\b<E'):AX T E E' b:=.inr h
theorem FV.num(x:FX T E E' a c G P w)(h:FV T E E' a c w X M m f){d:Nat}(hd:d<c.regs.length)(y:Int)(q:w'=w.setCell ⟨a.NB,d,none⟩ (.int .u32 y)):
 FX T E E' a c G P w'/\FV T E E' a c w' X M m {f with nums:=BK f.nums d y}/\Un (fun b=>b=a.NB) w w':=by
 subst q;have hU:Un (fun b=>b=a.NB) w (w.setCell ⟨a.NB,d,none⟩ (.int .u32 y)):=(Un.refl (fun b=>b=a.NB) w).setCell (p:=⟨a.NB,d,none⟩) rF _;have hu:∀b,b<w.heap.size->b=a.NB->AX T E E' b:=fun b _ e=>e▸Lv _ x.iNB;obtain⟨e1,e2,e3,e4,e5,e6,e7,e8,e9,e10⟩:=x.d1;have hs:=x.ltS;have hi:=x.iNB;refine⟨x.un hU hu e1 (Ne.symm e7),⟨(h.nums.set d _).congr fun j hj=>?_,h.whs.of_block (hU.block _ h.whs.lt (Ne.symm e5)),h.map.block (hU.block _ h.map.lt (Ne.symm e6)),fun r hr=>(h.vecs r hr).un hU hu,fun p hp=>(h.outs p hp).of_block (hU.block _ (h.outs p hp).lt (x.d2 p hp).2.1),h.slots.un hU oM hu,h.slotsL⟩,hU⟩;simp only[BK];split<;>rfl
theorem FV.wh(x:FX T E E' a c G P w)(h:FV T E E' a c w X M m f){d:Nat}(hd:d<c.regs.length)(y:Int)(q:w'=w.setCell ⟨a.WB,d,none⟩ (.int .i64 y)):
 FX T E E' a c G P w'/\FV T E E' a c w' X M m {f with whs:=BK f.whs d y}/\Un (fun b=>b=a.WB) w w':=by
 subst q;have hU:Un (fun b=>b=a.WB) w (w.setCell ⟨a.WB,d,none⟩ (.int .i64 y)):=(Un.refl (fun b=>b=a.WB) w).setCell (p:=⟨a.WB,d,none⟩) rF _;have hu:∀b,b<w.heap.size->b=a.WB->AX T E E' b:=fun b _ e=>e▸Lv _ x.iWB;obtain⟨e1,e2,e3,e4,e5,e6,e7,e8,e9,e10⟩:=x.d1;have hs:=x.ltS;have hi:=x.iWB;refine⟨x.un hU hu e2 (Ne.symm e9),⟨h.nums.of_block (hU.block _ h.nums.lt e5),(h.whs.set d _).congr fun j hj=>?_,h.map.block (hU.block _ h.map.lt (Ne.symm e8)),fun r hr=>(h.vecs r hr).un hU hu,fun p hp=>(h.outs p hp).of_block (hU.block _ (h.outs p hp).lt (x.d2 p hp).2.2.1),h.slots.un hU oM hu,h.slotsL⟩,hU⟩;simp only[BK];split<;>rfl
theorem FV.vec(x:FX T E E' a c G P w)(h:FV T E E' a c w X M m f){d:Nat}(hd:d<c.regs.length){v:Value}{l:List Int}(hv:Pt (AX T E E') w v l)(hm:DG w' a.MB (M+1) (Sn m d v))(hg:w.grownBy w' (some a.MB)):
 FX T E E' a c G P w'/\FV T E E' a c w' X (M+1) (Sn m d v) {f with vecs:=BK f.vecs d l}/\Un (fun b=>b=a.MB) w w':=by
 have hU:Un (fun b=>b=a.MB) w w':=(Un.refl (fun b=>b=a.MB) w).grown (b:=a.MB) rF hg;have hu:∀b,b<w.heap.size->b=a.MB->AX T E E' b:=fun b _ e=>e▸Lv _ x.iMB;obtain⟨e1,e2,e3,e4,e5,e6,e7,e8,e9,e10⟩:=x.d1;have hs:=x.ltS;have hi:=x.iMB;refine⟨x.un hU hu e3 (Ne.symm e10),⟨h.nums.of_block (hU.block _ h.nums.lt e6),h.whs.of_block (hU.block _ h.whs.lt e8),hm,fun r hr=>?_,fun p hp=>(h.outs p hp).of_block (hU.block _ (h.outs p hp).lt (x.d2 p hp).2.2.2.1),h.slots.un hU oM hu,h.slotsL⟩,hU⟩;simp only[BK,Sn];split
 ·exact hv.un hU hu
 ·exact(h.vecs r hr).un hU hu
theorem FV.slot(x:FX T E E' a c G P w)(h:FV T E E' a c w X M m f){d:Nat}(hd:d<f.slots.length){v:Value}{hh:Hd}(hv:Pt (AX T E E') w v hh.pats)(q:w'=(w.setCell ⟨a.S,d*2,none⟩ v).setCell ⟨a.S,d*2+1,none⟩ (.int .i64 hh.whole)):
 FX T E E' a c G P w'/\(∃X',FV T E E' a c w' X' M m {f with slots:=f.slots.set d hh})/\Un (fun b=>b=a.S) w w':=by
 subst q;have hU:Un (fun b=>b=a.S) w ((w.setCell ⟨a.S,d*2,none⟩ v).setCell ⟨a.S,d*2+1,none⟩ (.int .i64 hh.whole)):=((Un.refl (fun b=>b=a.S) w).setCell (p:=⟨a.S,d*2,none⟩) rF _).setCell (p:=⟨a.S,d*2+1,none⟩) rF _;have hu:∀b,b<w.heap.size->b=a.S->AX T E E' b:=fun b _ e=>e▸ .inl x.hS;have hs:=x.ltS;have i1:=x.iFR;have i2:=x.iNB;have i3:=x.iWB;have i4:=x.iMB;have i5:=x.iUB;refine⟨x.un hU hu oM oM,⟨fun j=>if j=d*2+1 then .int .i64 hh.whole else if j=d*2 then v else X j,⟨h.nums.of_block (hU.block _ h.nums.lt oM),h.whs.of_block (hU.block _ h.whs.lt oM),h.map.block (hU.block _ h.map.lt oM),fun r hr=>(h.vecs r hr).un hU hu,fun p hp=>(h.outs p hp).of_block (hU.block _ (h.outs p hp).lt (by have:=x.iub p hp;omega)),?_,by simp[h.slotsL]⟩⟩,hU⟩;refine⟨(h.slots.row.set (d*2) v).set (d*2+1) _,?_,by simpa using h.slots.le,fun j hj=>?_,fun j hj=>?_⟩
 ·rcases h.slots.sp with e|e
  ·rw[e]at hd;exact absurd hd (Nat.not_lt_zero _)
  ·exact .inr e
 ·exact Zef
 ·exact Zdv
theorem FV.out(x:FX T E E' a c G P w)(h:FV T E E' a c w X M m f){p j:Nat}(hp:p<c.sign.length)(y:Int)(q:w'=w.setCell ⟨a.ub p,j,none⟩ (.int .u32 y)):
 FX T E E' a c G P w'/\FV T E E' a c w' X M m {f with outs:=fun p' j'=>if p'=p/\j'=j then y else f.outs p' j'}/\Un (fun b=>b=a.ub p) w w':=by
 subst q;have hU:Un (fun b=>b=a.ub p) w (w.setCell ⟨a.ub p,j,none⟩ (.int .u32 y)):=(Un.refl (fun b=>b=a.ub p) w).setCell (p:=⟨a.ub p,j,none⟩) rF _;have hu:∀b,b<w.heap.size->b=a.ub p->AX T E E' b:=fun b _ e=>e▸Lv _ (x.iub p hp);obtain⟨e1,e2,e3,e4,e5⟩:=x.d2 p hp;have hs:=x.ltS;have hi:=x.iub p hp;refine⟨x.un hU hu (Ne.symm e1) (Ne.symm e5),⟨h.nums.of_block (hU.block _ h.nums.lt (Ne.symm e2)),h.whs.of_block (hU.block _ h.whs.lt (Ne.symm e3)),h.map.block (hU.block _ h.map.lt (Ne.symm e4)),fun r hr=>(h.vecs r hr).un hU hu,fun p' hp'=>?_,h.slots.un hU oM hu,h.slotsL⟩,hU⟩;by_cases e:p'=p
 ·subst e;refine((h.outs p' hp').set j _).congr fun i hi=>?_;simp only[true_and];split<;>rfl
 ·refine((h.outs p' hp').of_block (hU.block _ (h.outs p' hp').lt fun q=>e (x.d3 _ _ hp' hp q))).congr fun i hi=>?_;simp only[e,false_and,if_false]
end
structure Good(c:Cd):Prop where
 len:∀p∈c.sign,1<=p.len/\p.len<=4096
 kind:∀p∈c.sign,BI p=true
 regs:∀t∈c.regs,As t c.sign.length=true
 slots:∀s∈c.slots,AQ s c.sign.length=true
 regsL:c.regs.length<=16384
 slotsL:c.slots.length<=4096
 listL:c.list.length<=32768
 signL:c.sign.length<=64
theorem Good.type{c:Cd}(h:Good c){t:Ty}(ht:t∈c.regs)(h3:t.kind=3):Aj t.par c.sign.length=true:=by
 have:=h.regs t ht;unfold As at this;rw[if_neg oM,if_pos h3]at this;exact this
theorem Good.slotT{c:Cd}(h:Good c){s:Sl}(hs:s∈c.slots)(h3:s.ty.kind=3):Aj s.ty.par c.sign.length=true:=by
 have:=h.slots s hs;unfold AQ As at this;rw[if_neg oM,if_pos h3]at this;simp only[Bool.and_eq_true]at this;exact this.1
theorem Good.lenOf{c:Cd}(h:Good c)(p:Int):lenOf c p<=4096:=by
 unfold Proofs.YtbinohkcolcbfaaGreat.lenOf;cases hp:c.sign[p.toNat]? with
 |none=>simp
 |some q=>
  have:=h.len q (List.mem_of_getElem? hp);simp only[Option.map_some,Option.getD_some];omega
theorem Good.width{c:Cd}(h:Good c)(t:Ty):Ad c t<=4096:=by
 unfold Ad;split
 ·exact h.lenOf _
 ·split<;>omega
theorem ID{T:Nat->Prop}(a:Cn)(c:Cd)(hg:Good c)(t:Ty)(x:Int)(hx:Af x)(w:World)(hc:Ic T w a c)(ht:t.kind=3->Aj t.par c.sign.length=true):
 Calls prog 33 #[.pointer (some ⟨a.C,0,none⟩),Dy t,.int .u32 x] w fun e w'=>∃g,e=.returned (.slice (some ⟨g,0,none⟩) (Ad c t) (Ad c t))/\w.heap.size<=g/\w'.rowIs g 43 (Ad c t) (fun _=>.int .u32 (canon x))/\Below w.heap.size w w':=by
 have KW:∀v,Below w.heap.size w v->Calls prog 59 #[.pointer (some ⟨a.C,0,none⟩),Dy t] v fun e w'=>e=.returned (.int .i64 (Ad c t))/\Below v.heap.size v w':=fun v hv=>Kz a c t v (hc.below hv) ht fun p hp=>by have:=(hg.len p hp).1;omega
 have hN:=hg.width t;obtain⟨N,hN'⟩:∃N,Ad c t=N:=⟨_,rfl⟩
 rw[hN']at KW hN ⊢;obtain⟨k,p⟩:=t;unfold Dy at KW ⊢;simp only at KW ⊢;have HK:Hid (∀v,Below w.heap.size w v->Calls prog 59 #[.pointer (some ⟨a.C,0,none⟩),.agg #[.int .i64 k,.int .i64 p]] v fun e w'=>e=.returned (.int .i64 (N:Int))/\Below v.heap.size v w'):=KW;clear KW hc ht hN' hg;go_enter func33,ntmps33;go_wp2_with(first
  |(go_at_call 59;refine(HK.out _ (A0 _ _)).mono ?_;rintro e w1 ⟨rfl,hb1⟩)
  |(go_at_call 58;refine(QX N x hx oM _).mono ?_;rintro e w2 ⟨g,rfl,hg,hr,hb2⟩;have HR:Hid (w2.rowIs g 43 N (fun i=>.int .u32 (canon x))):=hr;clear hr))
 go_returns;exact⟨_,rfl,by have:=(A0 w (.cells #[.int .i64 k,.int .i64 p] 69)).size;have:=hb1.size;omega,HR.out,bel (bel (A0 _ _) hb1) hb2⟩
theorem JD{T:Nat->Prop}(a:Cn)(c:Cd)(hg:Good c)(s:Sl)(hs:Af s.bits)(w:World)(hc:Ic T w a c)(ht:s.ty.kind=3->Aj s.ty.par c.sign.length=true):
 Calls prog 20 #[.pointer (some ⟨a.C,0,none⟩),Se s] w fun e w'=>∃g,e=.returned (.agg #[.slice (some ⟨g,0,none⟩) (Ad c s.ty) (Ad c s.ty),.int .i64 s.int_])/\w.heap.size<=g/\w'.rowIs g 43 (Ad c s.ty) (fun _=>.int .u32 (canon s.bits))/\Below w.heap.size w w':=by
 have KF:∀v,Below w.heap.size w v->Calls prog 33 #[.pointer (some ⟨a.C,0,none⟩),Dy s.ty,.int .u32 s.bits] v fun e w'=>∃g,e=.returned (.slice (some ⟨g,0,none⟩) (Ad c s.ty) (Ad c s.ty))/\v.heap.size<=g/\w'.rowIs g 43 (Ad c s.ty) (fun _=>.int .u32 (canon s.bits))/\Below v.heap.size v w':=fun v hv=>ID a c hg s.ty s.bits hs v (hc.below hv) ht;obtain⟨N,hN'⟩:∃N,Ad c s.ty=N:=⟨_,rfl⟩
 rw[hN']at KF ⊢;obtain⟨⟨k,p⟩,kp,bt,it⟩:=s;unfold Dy at KF;unfold Se;simp only at KF ⊢;have HK:Hid (∀v,Below w.heap.size w v->Calls prog 33 #[.pointer (some ⟨a.C,0,none⟩),.agg #[.int .i64 k,.int .i64 p],.int .u32 bt] v fun e w'=>∃g,e=.returned (.slice (some ⟨g,0,none⟩) N N)/\v.heap.size<=g/\w'.rowIs g 43 N (fun _=>.int .u32 (canon bt))/\Below v.heap.size v w'):=KF;clear KF hc ht hN' hg hs;obtain⟨W1,hW1⟩:∃W1,(w.alloc (.cells #[.int .i64 k,.int .i64 p,.bool kp,.int .u32 bt,.int .i64 it] 72)).alloc (.cells #[.slice none 0 0,.int .i64 0] 78)=W1:=⟨_,rfl⟩
 have HW:Hid ((w.alloc (.cells #[.int .i64 k,.int .i64 p,.bool kp,.int .u32 bt,.int .i64 it] 72)).alloc (.cells #[.slice none 0 0,.int .i64 0] 78)=W1):=hW1;have HB0:Hid (Below w.heap.size w W1):=by rw[←hW1];exact bel (A0 _ _) (A0 _ _)
 have HC:Hid (∀v,Below W1.heap.size W1 v->v.cell? ⟨w.heap.size,0,none⟩=some (.int .i64 k)/\v.cell? ⟨w.heap.size,1,none⟩=some (.int .i64 p)/\v.cell? ⟨w.heap.size,3,none⟩=some (.int .u32 bt)/\v.cell? ⟨w.heap.size,4,none⟩=some (.int .i64 it)/\v.cell? ⟨w.heap.size+1,0,none⟩=some (.slice none 0 0)/\v.cell? ⟨w.heap.size+1,1,none⟩=some (.int .i64 0)/\v.frozen? ⟨w.heap.size+1,0,none⟩=false/\v.frozen? ⟨w.heap.size+1,1,none⟩=false):=by
  intro v hv;rw[←hW1]at hv;have h9:(w.alloc (.cells #[.int .i64 k,.int .i64 p,.bool kp,.int .u32 bt,.int .i64 it] 72)).heap.size=w.heap.size+1:=sM;refine⟨kc hv (kc (A0 _ _) sG),kc hv (kc (A0 _ _) sG),kc hv (kc (A0 _ _) sG),kc hv (kc (A0 _ _) sG),?_,?_,?_,?_⟩<;>rw[←h9]
  ·exact kc hv sG
  ·exact kc hv sG
  ·exact kf hv (v:=.slice none 0 0) sG sG
  ·exact kf hv (v:=.int .i64 0) sG sG
 obtain⟨x0,x1,x3,x4,z0,z1,q0,q1⟩:=HC.out W1 (B8 _);go_enter func20,ntmps20;go_wp2;clear hW1;refine rG (fun v=>v.cell? ⟨w.heap.size,0,none⟩=some (.int .i64 k)/\v.cell? ⟨w.heap.size,1,none⟩=some (.int .i64 p)/\v.cell? ⟨w.heap.size,3,none⟩=some (.int .u32 bt)/\v.cell? ⟨w.heap.size,4,none⟩=some (.int .i64 it)) fun hHeld=>?_;refine Tf 0 1 2 3 4 6 ?_;refine AN 7 ?_;clear hHeld;refine Ap 5 fun K hK=>?_;go_simp;(go_at_call 33;refine(HK.out _ (bel HB0.out (A5 _))).mono ?_;rintro e w2 ⟨g,rfl,hg,hr,hb2⟩;have HR:Hid (w2.rowIs g 43 N (fun _=>.int .u32 (canon bt))):=hr;have HB2:Hid (Below W1.heap.size W1 w2):=bel (A5 _) hb2;obtain⟨y0,y1,y3,y4,z0,z1,q0,q1⟩:=HC.out w2 HB2.out;clear hr);try(go_wp2_with fail)
 refine Ao hK fun hHeld=>?_;clear hK K;refine AN 8 ?_;clear hHeld;refine Ap 9 fun K hK=>?_;go_simp;refine Ao hK fun hHeld=>?_;clear hK K;refine wpAnyH_done kR ?_ _;go_wp2;refine bodyPost_ret (by simp[results,results20,go_sem, *];try rfl) rfl ?_;have h8:W1.heap.size=w.heap.size+2:=by rw[←HW.out];simp
 have h7:w.heap.size+2<=g:=by have:=hg;simp at this;omega
 exact⟨_,rfl,oM,(HR.out.setOther sO _).setOther sO _,((bel HB0.out HB2.out).setCell sM _).setCell sM _⟩
theorem Bj{l:List Ty}{r:Nat}(h:r<l.length):A8 l (r:Int)=l[r]:=by
 unfold A8 Aj;simp[h]
section
variable {T : Nat -> Prop} {E E' : Nat} {a : Cn} {c : Cd} {G P : List (List Int)} {w : World}
theorem FX.f0(h:FX T E E' a c G P w):w.cell? ⟨a.FR,0,none⟩=some (.pointer (some ⟨a.C,0,none⟩)):=h.fr.at 0 rfl
theorem FX.f1(h:FX T E E' a c G P w):w.cell? ⟨a.FR,1,none⟩=some (.slice a.sp c.slots.length a.sc):=h.fr.at 1 rfl
theorem FX.f2(h:FX T E E' a c G P w):w.cell? ⟨a.FR,2,none⟩=some (.slice (some ⟨a.NB,0,none⟩) c.regs.length c.regs.length):=h.fr.at 2 rfl
theorem FX.f3(h:FX T E E' a c G P w):w.cell? ⟨a.FR,3,none⟩=some (.slice (some ⟨a.WB,0,none⟩) c.regs.length c.regs.length):=h.fr.at 3 rfl
theorem FX.f4(h:FX T E E' a c G P w):w.cell? ⟨a.FR,4,none⟩=some (.map (some a.MB)):=h.fr.at 4 rfl
theorem FX.f5(h:FX T E E' a c G P w):w.cell? ⟨a.FR,5,none⟩=some a.gv:=h.fr.at 5 rfl
theorem FX.f6(h:FX T E E' a c G P w):w.cell? ⟨a.FR,6,none⟩=some a.pv:=h.fr.at 6 rfl
theorem FX.f7(h:FX T E E' a c G P w):w.cell? ⟨a.FR,7,none⟩=some (.slice (some ⟨a.UB,0,none⟩) c.sign.length c.sign.length):=h.fr.at 7 rfl
theorem Ic.reg{U:Nat->Prop}(h:Ic U w a c){r:Nat}(hr:r<c.regs.length):∃b o m,a.v1=.slice (some ⟨b,o,none⟩) c.regs.length m/\w.cell? ⟨b,o+r*2,none⟩=some (.int .i64 c.regs[r].kind)/\w.cell? ⟨b,o+r*2+1,none⟩=some (.int .i64 c.regs[r].par):=by
 obtain⟨q,m,hv,hh⟩:=h.regs;rcases hh with e|⟨b,o,rfl,_,_,hh⟩
 ·rw[e]at hr;exact absurd hr (Nat.not_lt_zero _)
 ·exact⟨b,o,m,hv,(hh r hr).at 0 rfl,(hh r hr).at 1 rfl⟩
theorem Ic.par{U:Nat->Prop}(h:Ic U w a c){r:Nat}(hr:r<c.sign.length):∃b o m,a.v0=.slice (some ⟨b,o,none⟩) c.sign.length m/\w.cell? ⟨b,o+r*3+1,none⟩=some (.int .i64 c.sign[r].kind)/\w.cell? ⟨b,o+r*3+2,none⟩=some (.int .i64 c.sign[r].len):=by
 obtain⟨q,m,hv,hh⟩:=h.sign;rcases hh with e|⟨b,o,rfl,_,_,hh⟩
 ·rw[e]at hr;exact absurd hr (Nat.not_lt_zero _)
 ·exact⟨b,o,m,hv,(hh r hr).at 1 rfl,(hh r hr).at 2 rfl⟩
theorem Ic.c0{U:Nat->Prop}(h:Ic U w a c):w.cell? ⟨a.C,0,none⟩=some a.v0:=h.cells.at 0 rfl
theorem Ic.c1{U:Nat->Prop}(h:Ic U w a c):w.cell? ⟨a.C,1,none⟩=some a.v1:=h.cells.at 1 rfl
end
theorem JC{T:Nat->Prop}{E E':Nat}{a:Cn}{c:Cd}{G P:List (List Int)}(w:World)(x:FX T E E' a c G P w)(hg:Good c)(p:Nat)(hp:p<c.sign.length):
 Calls prog 117 #[.pointer (some ⟨a.FR,0,none⟩),.int .i64 p] w fun e w'=>e=.returned (.int .i64 (Ag c p))/\w'=w:=by
 have f0:=x.f0;have c0:=x.code.c0;obtain⟨b,o,m,hv,k1,_⟩:=x.code.par hp;rw[hv]at c0;have hN:=hg.signL;have hk:Ag c (p:Int)=if c.sign[p].kind=2 then 2 else 1:=by
  unfold Ag Ci;simp[hp]
 rw[hk];obtain⟨K,hK⟩:∃K,c.sign[p].kind=K:=⟨_,rfl⟩
 obtain⟨N,hN'⟩:∃N,c.sign.length=N:=⟨_,rfl⟩
 obtain⟨C,hC⟩:∃C,a.C=C:=⟨_,rfl⟩
 obtain⟨FR,hFR⟩:∃FR,a.FR=FR:=⟨_,rfl⟩
 rw[hK]at k1 ⊢;rw[hN']at c0 hN hp;rw[hC]at f0 c0;rw[hFR]at f0 ⊢;clear hk hK hN' hC hFR hv x hg;by_cases h2:K=2
 ·subst h2;go_enter func117,ntmps117;go_wp2;go_ret;exact⟨rfl,rfl⟩
 ·have e2:(K==2)=false:=by simpa using h2
  rw[if_neg h2];go_enter func117,ntmps117;go_wp2;go_ret;exact⟨rfl,rfl⟩
theorem FX.fresh{T:Nat->Prop}{E E':Nat}{a:Cn}{c:Cd}{G P:List (List Int)}{w:World}(x:FX T E E' a c G P w){g:Nat}(h:w.heap.size<=g):¬AX T E E' g:=by
 intro k;have h1:=x.hE;have h2:=x.hE';rcases k with k|k
 ·have:=x.hT _ k;omega
 ·omega
theorem JZ(U:Nat->Prop){T:Nat->Prop}{E E':Nat}{a:Cn}{c:Cd}{G P:List (List Int)}{X:Nat->Value}{M:Nat}{m:Nat->Option Value}{f:Fr}(w:World)(x:FX T E E' a c G P w)(h:FV T E E' a c w X M m f)(hg:Good c)(r:Nat)(hr:r<c.regs.length)(hU:Pt U w ((m r).getD (.slice none 0 0)) (f.vecs r))(hfr:¬U (w.heap.size+1)):
 Calls prog 75 #[.pointer (some ⟨a.FR,0,none⟩),.int .i64 r] w fun e w'=>∃v,e=.returned (.agg #[v,.int .i64 (BG c f r).whole])/\Pt U w' v (BG c f r).pats/\Below w.heap.size w w':=by
 have HX:Hid (FX T E E' a c G P w):=x;have f0:=x.f0;have f2:=x.f2;have f3:=x.f3;have f4:=x.f4;have c1:=x.code.c1;obtain⟨b,o,mm,hv,k0,_⟩:=x.code.reg hr;rw[hv]at c1;have hN:=hg.regsL;have hn:=h.nums.cell hr;have hw:=h.whs.cell hr;have hm:=h.map;have hp:=hU;unfold BG;rw[Bj hr,Int.toNat_natCast];have HP:Hid (Pt U w ((m r).getD (.slice none 0 0)) (f.vecs r)):=hp;obtain⟨q1,q2,hq⟩:=hp.len;have HQ:Hid ((m r).getD (.slice none 0 0)=.slice q1 (f.vecs r).length q2):=hq;have HLK:Hid (∀v,Below w.heap.size w v->(Instr.lookup 92 (.map (some a.MB)) (.int .i64 (r:Int)) false).run prog v=.ok (.slice q1 (f.vecs r).length q2) v):=by
  intro v hv;rw[←hq];exact(hm.below hv).look1 underlying92 (Tryz.zeroValue57 v) oM
 obtain⟨K,hK⟩:∃K,c.regs[r].kind=K:=⟨_,rfl⟩
 obtain⟨N,hN'⟩:∃N,c.regs.length=N:=⟨_,rfl⟩
 obtain⟨L,hL⟩:∃L,(f.vecs r).length=L:=⟨_,rfl⟩
 rw[hK]at k0 ⊢;rw[hN']at c1 hN f2 f3 hr;rw[hL]at HLK HQ;have HL:Hid ((f.vecs r).length=L):=hL;have HF:Hid (¬U (w.heap.size+1)):=hfr;clear hK hN' hv hg hm h x hp hq hL HX hU hfr;obtain⟨⟨C,S,FR,NB,WB,MB,UB,KK,ub,sp,sc,v0,v1,v2,v3,gv,pv⟩,ha⟩:∃a',a'=a:=⟨a,rfl⟩
 subst ha;simp only at *;obtain⟨W1,hW1⟩:∃W1,w.alloc (.cells #[.slice none 0 0,.int .i64 0] 78)=W1:=⟨_,rfl⟩
 have HW1:Hid (w.alloc (.cells #[.slice none 0 0,.int .i64 0] 78)=W1):=hW1;have hb1:Below w.heap.size w W1:=by rw[←hW1];exact A0 _ _
 have HB1:Hid (Below w.heap.size w W1):=hb1;have g0:=kc hb1 f0;have g1:=kc hb1 c1;have g2:=kc hb1 k0;have z0:W1.cell? ⟨w.heap.size,0,none⟩=some (.slice none 0 0):=by rw[←hW1];simp[go_sem]
 have z1:W1.cell? ⟨w.heap.size,1,none⟩=some (.int .i64 0):=by rw[←hW1];simp[go_sem]
 have q0:W1.frozen? ⟨w.heap.size,0,none⟩=false:=by rw[←hW1];simp[go_sem]
 have q1':W1.frozen? ⟨w.heap.size,1,none⟩=false:=by rw[←hW1];simp[go_sem]
 by_cases h1:K=1
 ·subst h1;have g3:=kc hb1 f2;have g4:=kc hb1 hn;have hs1:W1.heap.size=w.heap.size+1:=by rw[←hW1];simp
  obtain⟨W2,hW2⟩:∃W2,W1.alloc (.cells #[.int .u32 (f.nums r)] 43)=W2:=⟨_,rfl⟩
  have HW2:Hid (W1.alloc (.cells #[.int .u32 (f.nums r)] 43)=W2):=hW2;have hb2:Below W1.heap.size W1 W2:=by rw[←hW2];exact A0 _ _
  have y0:=kc hb2 z0;have y1:=kc hb2 z1;have p0:=kf hb2 z0 q0;have p1:=kf hb2 z1 q1';have HR2:Hid (W2.rowIs (w.heap.size+1) 43 1 (fun _=>.int .u32 (f.nums r))):=by
   rw[←hW2,←hs1];exact World.rowIs_alloc W1 #[.int .u32 (f.nums r)] 43 (fun _=>.int .u32 (f.nums r)) (fun i hi=>by have h0:i=0:=(by simpa using hi);subst h0;rfl)
  have HB2:Hid (Below w.heap.size w W2):=bel hb1 hb2;have HS1:Hid (W1.heap.size=w.heap.size+1):=hs1;clear f0 f2 f3 f4 c1 k0 hn hw hb1 hb2 hs1;go_enter func75,ntmps75;go_wp2;refine bodyPost_ret Zgp rfl ?_;rw[HS1.out];exact⟨_,rfl,Pt.of_row ((HR2.out.setOther sM _).setOther sM _) HF.out rfl (fun j hj=>by have h0:j=0:=oM;subst h0;rfl) 1,(HB2.out.setCell sM _).setCell sM _⟩
 ·have e1:(K==1)=false:=by simpa using h1
  rw[if_neg h1];by_cases h2:K=2
  ·subst h2;have g3:=kc hb1 f3;have g4:=kc hb1 hw;clear f0 f2 f3 f4 c1 k0 hn hw hb1;go_enter func75,ntmps75;go_wp2;refine bodyPost_ret Zgp rfl ?_;exact⟨_,rfl,Pt.nil _ _ _ _,(HB1.out.setCell sM _).setCell sM _⟩
  ·have e2:(K==2)=false:=by simpa using h2
   rw[if_neg h2];have g3:=kc hb1 f4;have g4:=HLK.out _ hb1;clear f0 f2 f3 f4 c1 k0 hn hw hb1;go_enter func75,ntmps75;go_wp2;refine bodyPost_ret Zgp rfl ?_;have HB2:=(HB1.out.setCell (p:=⟨w.heap.size,0,none⟩) sM (.slice q1 L q2)).setCell (p:=⟨w.heap.size,1,none⟩) sM (.int .i64 0);exact⟨_,rfl,by have:=HP.out.below HB2;rw[HQ.out]at this;exact this,HB2⟩
theorem Rf{T:Nat->Prop}{E E':Nat}{a:Cn}{c:Cd}{G P:List (List Int)}{X:Nat->Value}{M:Nat}{m:Nat->Option Value}{f:Fr}(w:World)(x:FX T E E' a c G P w)(h:FV T E E' a c w X M m f)(hg:Good c)(r:Nat)(hr:r<c.regs.length):
 Calls prog 75 #[.pointer (some ⟨a.FR,0,none⟩),.int .i64 r] w fun e w'=>∃v,e=.returned (.agg #[v,.int .i64 (BG c f r).whole])/\Pt (AX T E E') w' v (BG c f r).pats/\Below w.heap.size w w':=
 JZ (AX T E E') w x h hg r hr (h.vecs r hr) (x.fresh oM)
def Rp(T:Nat->Prop)(A B:Nat):Nat->Prop:=fun b=>T b\/(A<=b/\b<B)
theorem TF{T:Nat->Prop}{E E':Nat}{a:Cn}{c:Cd}{G P:List (List Int)}{X:Nat->Value}{M:Nat}{m:Nat->Option Value}{f:Fr}(w0 w:World)(x:FX T E E' a c G P w0)(h:FV T E E' a c w0 X M m f)(hg:Good c)(hb:Below w0.heap.size w0 w)(r:Nat)(hr:r<c.regs.length):
 Calls prog 75 #[.pointer (some ⟨a.FR,0,none⟩),.int .i64 r] w fun e w'=>∃v,e=.returned (.agg #[v,.int .i64 (BG c f r).whole])/\Pt (Rp (AX T E E') w0.heap.size w.heap.size) w' v (BG c f r).pats/\Below w.heap.size w w':=
 JZ (Rp (AX T E E') w0.heap.size w.heap.size) w (x.below hb) (h.below hb) hg r hr
  (((h.vecs r hr).mono (U:=Rp (AX T E E') w0.heap.size w.heap.size) fun b hb2 e=>e.elim id fun k=>by omega).below hb)
  (fun e=>e.elim ((x.below hb).fresh oM) fun k=>by omega)
def Je(a:Cn)(E E':Nat):Nat->Prop:=fun b=>b=a.S\/(E<=b/\b<E')
theorem Jf{a:Cn}{E E' B:Nat}(h:E<=B/\B<E'):∀b,b=B->Je a E E' b:=fun b e=>.inr (e▸h)
theorem A4(w:World):Below w.heap.size w w.drew:=(Below.refl _ _).drew
def A9(T:Nat->Prop)(E E':Nat)(a:Cn)(c:Cd)(G P:List (List Int))(M:Nat)(f:Fr)(w w':World):Prop:=
 FX T E E' a c G P w'/\(∃X M' m,M'<=M+1/\FV T E E' a c w' X M' m f)/\Un (Je a E E') w w'
section
variable {T : Nat -> Prop} {E E' : Nat} {a : Cn} {c : Cd} {G P : List (List Int)} {X : Nat -> Value} {M : Nat} {m : Nat -> Option Value} {f : Fr} {w w1 w2 : World}
theorem A9.on(h:A9 T E E' a c G P M f w w1)(k:Below w1.heap.size w1 w2):A9 T E E' a c G P M f w w2:=by
 obtain⟨h1,⟨X,M',m,h2,h3⟩,h4⟩:=h;exact⟨h1.below k,⟨X,M',m,h2,h3.below k⟩,h4.on k⟩
theorem A9.same(x:FX T E E' a c G P w)(h:FV T E E' a c w X M m f)(k:Below w.heap.size w w1):A9 T E E' a c G P M f w w1:=
 ⟨x.below k,⟨X,M,m,oM,h.below k⟩,Un.of k⟩
theorem A9.pre(k:Below w.heap.size w w1)(h:A9 T E E' a c G P M f w1 w2):A9 T E E' a c G P M f w w2:=by
 obtain⟨h1,h2,h4⟩:=h;exact⟨h1,h2,(Un.of k).trans h4⟩
theorem A9.num(x:FX T E E' a c G P w1)(h:FV T E E' a c w1 X M m f){d:Nat}(hd:d<c.regs.length)(y:Int):A9 T E E' a c G P M {f with nums:=BK f.nums d y} w1 (w1.setCell ⟨a.NB,d,none⟩ (.int .u32 y)):=by
 obtain⟨h1,h2,h3⟩:=FV.num x h hd y rfl;exact⟨h1,⟨X,M,m,oM,h2⟩,h3.mono (Jf x.iNB)⟩
theorem A9.wh(x:FX T E E' a c G P w1)(h:FV T E E' a c w1 X M m f){d:Nat}(hd:d<c.regs.length)(y:Int):A9 T E E' a c G P M {f with whs:=BK f.whs d y} w1 (w1.setCell ⟨a.WB,d,none⟩ (.int .i64 y)):=by
 obtain⟨h1,h2,h3⟩:=FV.wh x h hd y rfl;exact⟨h1,⟨X,M,m,oM,h2⟩,h3.mono (Jf x.iWB)⟩
theorem A9.vec(x:FX T E E' a c G P w1)(h:FV T E E' a c w1 X M m f){d:Nat}(hd:d<c.regs.length){v:Value}{l:List Int}(hv:Pt (AX T E E') w1 v l)(hm:DG w2 a.MB (M+1) (Sn m d v))(hg:w1.grownBy w2 (some a.MB)):A9 T E E' a c G P M {f with vecs:=BK f.vecs d l} w1 w2:=by
 obtain⟨h1,h2,h3⟩:=FV.vec x h hd hv hm hg;exact⟨h1,⟨X,M+1,_,oM,h2⟩,h3.mono (Jf x.iMB)⟩
theorem A9.slot(x:FX T E E' a c G P w1)(h:FV T E E' a c w1 X M m f){d:Nat}(hd:d<f.slots.length){v:Value}{hh:Hd}(hv:Pt (AX T E E') w1 v hh.pats):A9 T E E' a c G P M {f with slots:=f.slots.set d hh} w1 ((w1.setCell ⟨a.S,d*2,none⟩ v).setCell ⟨a.S,d*2+1,none⟩ (.int .i64 hh.whole)):=by
 obtain⟨h1,⟨X',h2⟩,h3⟩:=FV.slot x h hd hv rfl;exact⟨h1,⟨X',M,_,oM,h2⟩,h3.mono fun b e=>.inl e⟩
end
theorem O6{T:Nat->Prop}{w:World}{q:Option Addr}{L cap:Nat}{y:Int}{l:List Int}(h:Pt T w (.slice q L cap) (y::l)):∃vb vo,q=some ⟨vb,vo,none⟩/\¬T vb/\w.cell? ⟨vb,vo,none⟩=some (.int .u32 y)/\0<L:=by
 obtain⟨q',c',e,hl⟩:=h;simp only[Value.slice.injEq]at e;obtain⟨rfl,hL,rfl⟩:=e;rcases hl with hl|⟨vb,vo,rfl,hn,_,hl⟩
 ·cases hl
 ·refine⟨vb,vo,rfl,hn,?_,by rw[hL];simp⟩;have:=(hl 0 sM).at 0 (v:=.int .u32 y) rfl;simpa using this
theorem Qp{T:Nat->Prop}{E E':Nat}{a:Cn}{c:Cd}{G P:List (List Int)}{X:Nat->Value}{M:Nat}{m:Nat->Option Value}{f:Fr}(w:World)(x:FX T E E' a c G P w)(h:FV T E E' a c w X M m f)(hg:Good c)(r:Nat)(hr:r<c.regs.length)(hM:M<=1000000)
 (q:Option Addr) (L cap:Nat) (hh:Hd) (hv:Pt (AX T E E') w (.slice q L cap) hh.pats) (h1:c.regs[r].kind=1->hh.pats≠[]):
 Calls prog 74 #[.pointer (some ⟨a.FR,0,none⟩),.int .i64 r,.agg #[.slice q L cap,.int .i64 hh.whole]] w fun e w'=>e=.returned (.tuple #[])/\A9 T E E' a c G P M (GS c f r hh) w w':=by
 obtain⟨W1,hW1⟩:∃W1,w.alloc (.cells #[.slice q L cap,.int .i64 hh.whole] 78)=W1:=⟨_,rfl⟩
 have hb1:Below w.heap.size w W1:=by rw[←hW1];exact A0 _ _
 have HX1:Hid (FX T E E' a c G P W1):=x.below hb1;have HV1:Hid (FV T E E' a c W1 X M m f):=h.below hb1;have HP1:Hid (Pt (AX T E E') W1 (.slice q L cap) hh.pats):=hv.below hb1;have HS:Hid (E'<=w.heap.size):=x.hE';have z0:W1.cell? ⟨w.heap.size,0,none⟩=some (.slice q L cap):=by rw[←hW1];simp[go_sem]
 have z1:W1.cell? ⟨w.heap.size,1,none⟩=some (.int .i64 hh.whole):=by rw[←hW1];simp[go_sem]
 have HB1:Hid (Below w.heap.size w W1):=hb1;have f0:=HX1.out.f0;have c1:=HX1.out.code.c1;obtain⟨b,o,mm,hv1,k0,-⟩:=HX1.out.code.reg hr;rw[hv1]at c1;have hN:=hg.regsL;have HE:Hid (GS c f r hh=if c.regs[r].kind=1 then{f with nums:=BK f.nums r (hh.pats.headD 0)}else if c.regs[r].kind=2 then{f with whs:=BK f.whs r hh.whole}else{f with vecs:=BK f.vecs r hh.pats}):=by
  show GS c f r hh=_;unfold GS;rw[Bj hr,Int.toNat_natCast]
 obtain⟨F,hF⟩:∃F,GS c f r hh=F:=⟨_,rfl⟩
 rw[hF]at HE ⊢;have H1:Hid (c.regs[r].kind=1->hh.pats≠[]):=h1;obtain⟨K,hK⟩:∃K,c.regs[r].kind=K:=⟨_,rfl⟩
 obtain⟨N,hN'⟩:∃N,c.regs.length=N:=⟨_,rfl⟩
 rw[hK]at k0 H1 HE;rw[hN']at c1 hN;have hrN:r<N:=oM;have HR:Hid (r<c.regs.length):=hr;obtain⟨C,hC⟩:∃C,a.C=C:=⟨_,rfl⟩
 obtain⟨FR,hFR⟩:∃FR,a.FR=FR:=⟨_,rfl⟩
 rw[hC]at c1 f0;rw[hFR]at f0 ⊢;have HA:Hid (a.FR=FR):=hFR;have HN:Hid (c.regs.length=N):=hN';clear hK hN' hv1 hg h x hv h1 hr hb1 hC hFR hF;by_cases h1:K=1
 ·subst h1;have f2:=HX1.out.f2;rw[HN.out,HA.out]at f2;have q0:=HV1.out.nums.frozen r;have q1:=HV1.out.nums.cell HR.out;obtain⟨NB,hNB⟩:∃NB,a.NB=NB:=⟨_,rfl⟩
  rw[hNB]at f2 q0 q1;have HNB:Hid (a.NB=NB):=hNB;obtain⟨y,l,hy⟩:∃y l,hh.pats=y::l:=by
   cases e:hh.pats with
   |nil=>exact absurd e (H1.out rfl)
   |cons y l=>exact⟨y,l,rfl⟩
  have HY:Hid (hh.pats=y::l):=hy;have hl:=HP1.out;rw[hy]at hl;obtain⟨vb,vo,rfl,hnv,y0,hL1⟩:=O6 hl;have n1:FR≠NB:=by rw[←HA.out,←HNB.out];exact HX1.out.d1.1
  have n2:w.heap.size≠NB:=by
   have i1:=HX1.out.iNB;rw[HNB.out]at i1;have:=(HS.out:E'<=w.heap.size)
   omega
  have n3:vb≠NB:=fun e=>hnv (by rw[e,←HNB.out];exact .inr HX1.out.iNB);have n1':=Ne.symm n1;have n2':=Ne.symm n2;have n3':=Ne.symm n3;have e1:(0:Int)<(L:Int):=oM;clear hl hy hNB hnv;go_enter func74,ntmps74;go_wp2;clear hW1;refine rG (fun v=>v.cell? ⟨FR,2,none⟩=some (.slice (some ⟨NB,0,none⟩) N N)/\v.cell? ⟨w.heap.size,0,none⟩=some (.slice (some ⟨vb,vo,none⟩) L cap)/\v.cell? ⟨vb,vo,none⟩=some (.int .u32 y)) fun hHeld=>?_;refine Tf 0 1 2 3 4 5 ?_;refine Tc 6 7 8 ?_;refine AN 9 ?_;clear hHeld;refine Ap 10 fun K hK=>?_;go_simp;refine Ao hK fun hHeld=>?_;clear hK K;refine wpAnyH_done kR ?_ _;go_wp2
  go_end0
  have hfin:=(A9.num HX1.out HV1.out HR.out y).pre HB1.out;rw[HNB.out]at hfin;have e9:=HE.out;simp only[if_true]at e9;rw[HY.out]at e9;rw[e9];exact⟨rfl,hfin.on (A4 _)⟩
 ·have e1:(K==1)=false:=by simpa using h1
  by_cases h2:K=2
  ·subst h2;have f3:=HX1.out.f3;rw[HN.out,HA.out]at f3;have q0:=HV1.out.whs.frozen r;have q1:=HV1.out.whs.cell HR.out;obtain⟨WB,hWB⟩:∃WB,a.WB=WB:=⟨_,rfl⟩
   rw[hWB]at f3 q0 q1;have HWB:Hid (a.WB=WB):=hWB;have n1:WB≠FR:=by rw[←HA.out,←HWB.out];exact Ne.symm HX1.out.d1.2.1
   have n2:WB≠w.heap.size:=by
    have i1:=HX1.out.iWB;rw[HWB.out]at i1;have:=(HS.out:E'<=w.heap.size)
    omega
   clear hWB h1;obtain⟨hw,hhw⟩:∃hw,hh.whole=hw:=⟨_,rfl⟩
   have HHW:Hid (hh.whole=hw):=hhw;rw[hhw]at z1 hW1 ⊢;clear hhw;go_enter func74,ntmps74;go_wp2;clear hW1;refine rG (fun v=>v.cell? ⟨FR,3,none⟩=some (.slice (some ⟨WB,0,none⟩) N N)/\v.cell? ⟨w.heap.size,1,none⟩=some (.int .i64 hw)) fun hHeld=>?_;refine Tf 0 1 2 3 4 5 ?_;refine Tb 6 7 ?_;clear hHeld;refine Ap 8 fun K hK=>?_;go_simp;refine Ao hK fun hHeld=>?_;clear hK K;refine wpAnyH_done kR ?_ _;go_wp2
   go_end0
   have hfin:=(A9.wh HX1.out HV1.out HR.out hw).pre HB1.out;rw[HWB.out]at hfin;have e9:=HE.out;rw[if_neg dE]at e9;simp only[if_true]at e9;rw[HHW.out]at e9;rw[e9];exact⟨rfl,hfin.on (A4 _)⟩
  ·have e2:(K==2)=false:=by simpa using h2
   have f4:=HX1.out.f4;rw[HA.out]at f4;have HX2:=HX1.out.below (A4 _);have HV2:=HV1.out.below (A4 _);obtain⟨w2,hrun,hm2,hg2⟩:=HV2.map.put mL underlying92 (k:=r) oM (.slice q L cap);obtain⟨MB,hMB⟩:∃MB,a.MB=MB:=⟨_,rfl⟩
   have hfin:=(A9.vec HX2 HV2 HR.out (HP1.out.below (A4 _)) hm2 hg2).pre (bel HB1.out (A4 _));have r4:=HX2.f4;have r0:w2.cell? ⟨FR,4,none⟩=some (.map (some MB)):=by
    have:=hfin.1.f4;rw[HA.out,hMB]at this;exact this
   have r1:w2.cell? ⟨w.heap.size,0,none⟩=some (.slice q L cap):=by
    refine(World.cell?_of_block (hg2.block _ ?_ ?_)).trans z0
    ·have:=A3 z0;exact this
    ·intro e;have i1:=HX1.out.iMB;have:=(HS.out:E'<=w.heap.size)
     simp at e;omega
   rw[hMB]at f4 hrun hm2 hg2;have e9:=HE.out;rw[if_neg h1,if_neg h2]at e9;rw[←e9]at hfin;have HFIN:Hid (A9 T E E' a c G P M F w w2):=hfin;clear hfin e9 hMB hm2 hg2 HX2 HV2 r4 h1 h2;go_enter func74,ntmps74;go_wp2;clear hW1;refine rG (fun v=>v.cell? ⟨FR,4,none⟩=some (.map (some MB))/\v.cell? ⟨w.heap.size,0,none⟩=some (.slice q L cap)) fun hHeld=>?_;refine Tf 0 1 2 3 4 5 ?_;refine AN 6 ?_;clear hHeld;refine Ap 7 fun K hK=>?_;go_simp;refine Ao hK fun hHeld=>?_;clear hK K;refine wpAnyH_done kR ?_ _;go_wp2
   go_end0
   exact⟨rfl,HFIN.out⟩
theorem U7(a b:Int)(ha:0<=a/\a<=2147483647)(hb:0<=b/\b<=2147483647)(w:World):Calls prog 116 #[.int .i64 a,.int .i64 b] w fun e w'=>e=.returned (.int .i64 (if b=0 then 0 else a/b))/\w'=w:=by
 by_cases h:b=0
 ·subst h;go_enter func116,ntmps116;go_wp2;go_ret;exact⟨rfl,rfl⟩
 ·have h2:(b==0)=false:=by simpa using h
  rw[if_neg h];have hq:a.tdiv b=a/b:=Int.tdiv_eq_ediv_of_nonneg ha.1;have hr:0<=a/b:=Int.ediv_nonneg ha.1 hb.1;have hr2:a/b<=a:=Int.ediv_le_self _ ha.1;have hw:IntKind.i64.wrap (a.tdiv b)=a/b:=by rw[hq,IntKind.wrap_i64];omega
  go_enter func116,ntmps116;go_wp2;go_ret;exact⟨by first|rfl|(rw[hw])|(simp only[hw])|(simp[hw]),rfl⟩
def KU(c:Cd)(t:Ty)(h:Hd):Prop:=h.pats.length=Ad c t/\(∀y∈h.pats,Af y)/\0<=h.whole/\h.whole<=2147483647
structure EN(c:Cd)(f:Fr):Prop where
 nums:∀r,Af (f.nums r)
 whs:∀r,0<=f.whs r/\f.whs r<=2147483647
 vecs:∀r,∀y∈f.vecs r,Af y
 vecsL:∀r,(f.vecs r).length<=4096
 slotsL:f.slots.length=c.slots.length
 slots:∀j (h:j<c.slots.length) (h':j<f.slots.length),KU c c.slots[j].ty f.slots[j]
theorem Bv{l:List Int}(h:∀y∈l,Af y)(j:Nat):Af (B7 l j):=by
 unfold B7;cases e:l[j]? with
 |none=>exact Gu
 |some y=>exact h y (List.mem_of_getElem? e)
theorem FV.look{T:Nat->Prop}{E E':Nat}{a:Cn}{c:Cd}{w:World}{X:Nat->Value}{M:Nat}{m:Nat->Option Value}{f:Fr}(h:FV T E E' a c w X M m f){r:Nat}(hr:r<c.regs.length)(hn:c.regs.length<=16384):
 ∃q1 q2,(m r).getD (.slice none 0 0)=.slice q1 (f.vecs r).length q2/\AD w q1 (f.vecs r).length (fun j=>.int .u32 (B7 (f.vecs r) j))/\∀v,Below w.heap.size w v->(Instr.lookup 92 (.map (some a.MB)) (.int .i64 (r:Int)) false).run prog v=.ok (.slice q1 (f.vecs r).length q2) v:=by
 have hp:=h.vecs r hr;obtain⟨q1,q2,hq⟩:=hp.len;refine⟨q1,q2,hq,?_,fun v hv=>?_⟩
 ·rw[hq]at hp;exact hp.reads.2
 ·rw[←hq];exact(h.map.below hv).look1 underlying92 (Tryz.zeroValue57 v) oM
theorem OC{T:Nat->Prop}{E E':Nat}{a:Cn}{c:Cd}{G P:List (List Int)}{X:Nat->Value}{M:Nat}{m:Nat->Option Value}{f:Fr}(w:World)(x:FX T E E' a c G P w)(h:FV T E E' a c w X M m f)(hg:Good c)(ok:EN c f)(ib io:Nat)(i:At)(hi:Aa w ib io (Dt i))
 (hop:Du i.op=true) (ha:i.op≠1->0<=i.a/\i.a<(c.regs.length:Int)) (hb:i.op=16->0<=i.b/\i.b<(c.regs.length:Int)):
 Calls prog 70 #[.pointer (some ⟨a.FR,0,none⟩),.pointer (some ⟨ib,io,none⟩)] w fun e w'=>e=.returned (.int .u32 (Gy f i))/\Below w.heap.size w w':=by
 have i0:=hi.at 0 rfl;rw[Nat.add_zero]at i0;have i2:=hi.at 2 rfl;have i3:=hi.at 3 rfl;have i6:=hi.at 6 rfl;have f2:=x.f2;have f3:=x.f3;have f4:=x.f4;have hN:=hg.regsL;obtain⟨op,D,A,B,Ec,nn,bt⟩:=i;simp only at i0 i2 i3 i6 hop ha hb;unfold Du at hop;simp only[Bool.or_eq_true,beq_iff_eq]at hop;have hop':op=1\/op=16\/op=17\/op=19\/op=20:=oM;clear hop hi;obtain⟨N,hN'⟩:∃N,c.regs.length=N:=⟨_,rfl⟩
 have HN:Hid (c.regs.length=N):=hN';rw[hN']at f2 f3 hN ha hb;clear hN';rcases hop' with rfl|rfl|rfl|rfl|rfl
 ·rw[show Gy f ⟨1,D,A,B,Ec,nn,bt⟩=bt from rfl];clear ha hb f2 f3 f4 x h i2 i3 hg ok;go_enter func70,ntmps70;go_wp2;go_ret;exact⟨rfl,B8 _⟩
 ·obtain⟨a0,a1⟩:=ha dE;obtain⟨b0,b1⟩:=hb rfl;obtain⟨A,rfl⟩:∃j:Nat,A=(j:Int):=⟨A.toNat,oM⟩
  obtain⟨B,rfl⟩:∃j:Nat,B=(j:Int):=⟨B.toNat,oM⟩
  have k1:=h.nums.cell (i:=A) Zhi;have k2:=h.whs.cell (i:=B) Zhi;have p1:=ok.nums A;have p2:=ok.whs B;rw[show Gy f ⟨16,D,(A:Int),(B:Int),Ec,nn,bt⟩=Gs (f.nums A) (f.whs B)from rfl];obtain⟨y1,hy1⟩:∃y1,f.nums A=y1:=⟨_,rfl⟩
  obtain⟨y2,hy2⟩:∃y2,f.whs B=y2:=⟨_,rfl⟩
  obtain⟨FR,hFR⟩:∃FR,a.FR=FR:=⟨_,rfl⟩
  obtain⟨NB,hNB⟩:∃NB,a.NB=NB:=⟨_,rfl⟩
  obtain⟨WB,hWB⟩:∃WB,a.WB=WB:=⟨_,rfl⟩
  rw[hy1]at k1 p1 ⊢;rw[hy2]at k2 p2 ⊢;rw[hFR]at f2 f3 ⊢;rw[hNB]at f2 k1;rw[hWB]at f3 k2;have HP:Hid (Af y1):=p1;clear ha hb f4 x h i6 hg ok hy1 hy2 hFR hNB hWB p1;go_enter func70,ntmps70;go_wp2;refine rG (fun v=>v.cell? ⟨FR,2,none⟩=some (.slice (some ⟨NB,0,none⟩) N N)/\v.cell? ⟨ib,io+2,none⟩=some (.int .i64 (A:Int))/\v.cell? ⟨NB,A,none⟩=some (.int .u32 y1)/\v.cell? ⟨FR,3,none⟩=some (.slice (some ⟨WB,0,none⟩) N N)/\v.cell? ⟨ib,io+3,none⟩=some (.int .i64 (B:Int))/\v.cell? ⟨WB,B,none⟩=some (.int .i64 y2)) fun hHeld=>?_;refine Tf 0 1 2 3 4 5 ?_;refine Tf 6 7 8 9 10 11 ?_;refine Tf 12 13 14 15 16 17 ?_;refine Tb 18 19 ?_;clear hHeld;refine Ap 20 fun K hK=>?_;go_simp;(go_at_call 109;refine(XH _ HP.out.1 HP.out.2 _ oM oM _).mono ?_;rintro e w1 ⟨rfl,hb1⟩;have HB1:=bel (A4 _) hb1;have z1:=kc HB1 f2;have z2:=kc HB1 i2;have z3:=kc HB1 k1;have z4:=kc HB1 f3;have z5:=kc HB1 i3;have z6:=kc HB1 k2);try(go_wp2_with fail)
  refine Ao hK fun hHeld=>?_;clear hK K;refine AN 21 ?_;refine wpAnyH_done kR ?_ _;go_wp2;go_ret;exact⟨rfl,HB1⟩
 ·obtain⟨a0,a1⟩:=ha dE;obtain⟨A,rfl⟩:∃j:Nat,A=(j:Int):=⟨A.toNat,oM⟩
  have k2:=h.whs.cell (i:=A) Zhi;have p2:=ok.whs A;rw[show Gy f ⟨17,D,(A:Int),B,Ec,nn,bt⟩=Ez (f.whs A)from rfl];obtain⟨y2,hy2⟩:∃y2,f.whs A=y2:=⟨_,rfl⟩
  obtain⟨FR,hFR⟩:∃FR,a.FR=FR:=⟨_,rfl⟩
  obtain⟨WB,hWB⟩:∃WB,a.WB=WB:=⟨_,rfl⟩
  rw[hy2]at k2 p2 ⊢;rw[hFR]at f3 ⊢;rw[hWB]at f3 k2;clear ha hb f4 f2 x h i6 hg ok hy2 hFR hWB;go_enter func70,ntmps70;go_wp2;refine rG (fun v=>v.cell? ⟨ib,io+2,none⟩=some (.int .i64 (A:Int))/\v.cell? ⟨FR,3,none⟩=some (.slice (some ⟨WB,0,none⟩) N N)/\v.cell? ⟨WB,A,none⟩=some (.int .i64 y2)) fun hHeld=>?_;refine Tf 0 1 2 3 4 5 ?_;refine Tc 6 7 8 ?_;refine AN 9 ?_;clear hHeld;refine Ap 10 fun K hK=>?_;go_simp;(go_at_call 110;refine(Tp _ oM oM _).mono ?_;rintro e w1 ⟨rfl,hw'⟩;obtain rfl:=hw'.symm);try(go_wp2_with fail)
  refine Ao hK fun hHeld=>?_;clear hK K;refine AN 11 ?_;refine wpAnyH_done kR ?_ _;go_wp2;go_ret;exact⟨rfl,A4 _⟩
 ·obtain⟨a0,a1⟩:=ha dE;obtain⟨A,rfl⟩:∃j:Nat,A=(j:Int):=⟨A.toNat,oM⟩
  have hA:A<c.regs.length:=by rw[HN.out];omega
  obtain⟨q1,q2,-,hr,hlk⟩:=h.look hA Zhi;rw[show Gy f ⟨19,D,(A:Int),B,Ec,nn,bt⟩=I8 (B7 (f.vecs A)) (f.vecs A).length from rfl];have hX:=fun j=>Bv (ok.vecs A) j;have hL9:=ok.vecsL A;obtain⟨V,hV⟩:∃V,B7 (f.vecs A)=V:=⟨_,rfl⟩
  obtain⟨L,hL⟩:∃L,(f.vecs A).length=L:=⟨_,rfl⟩
  obtain⟨FR,hFR⟩:∃FR,a.FR=FR:=⟨_,rfl⟩
  obtain⟨MB,hMB⟩:∃MB,a.MB=MB:=⟨_,rfl⟩
  simp only[hV,hL,hMB]at hX hL9 hr hlk ⊢;rw[hFR,hMB]at f4;rw[hFR];have HXX:Hid (∀j,Af (V j)):=hX;have HRR:Hid (AD w q1 L (fun j=>.int .u32 (V j))):=hr;have lk:=hlk w.drew (A4 _);clear ha hb f3 f2 x h i6 hg ok hV hL hFR hMB hX hr hlk;go_enter func70,ntmps70;go_wp2;refine rG (fun v=>v.cell? ⟨ib,io+2,none⟩=some (.int .i64 (A:Int))/\v.cell? ⟨FR,4,none⟩=some (.map (some MB))) fun hHeld=>?_;refine Tf 0 1 2 3 4 5 ?_;refine Tb 6 7 ?_;clear hHeld;refine Ap 8 fun K hK=>?_;go_simp;refine Ao hK fun hHeld=>?_;clear hK K;clear hHeld;refine Ap 9 fun K hK=>?_;go_simp;(go_at_call 111;refine(Y8 q1 L q2 V HXX.out oM _ (HRR.out.below (A4 _))).mono ?_;rintro e w1 ⟨rfl,hb1⟩;have HB1:=bel (A4 _) hb1;have z1:=kc HB1 i2;have z2:=kc HB1 f4);exact Zev
 ·obtain⟨a0,a1⟩:=ha dE;obtain⟨A,rfl⟩:∃j:Nat,A=(j:Int):=⟨A.toNat,oM⟩
  have hA:A<c.regs.length:=by rw[HN.out];omega
  obtain⟨q1,q2,-,hr,hlk⟩:=h.look hA Zhi;rw[show Gy f ⟨20,D,(A:Int),B,Ec,nn,bt⟩=Dq (B7 (f.vecs A)) (f.vecs A).length from rfl];have hX:=fun j=>Bv (ok.vecs A) j;have hL9:=ok.vecsL A;obtain⟨V,hV⟩:∃V,B7 (f.vecs A)=V:=⟨_,rfl⟩
  obtain⟨L,hL⟩:∃L,(f.vecs A).length=L:=⟨_,rfl⟩
  obtain⟨FR,hFR⟩:∃FR,a.FR=FR:=⟨_,rfl⟩
  obtain⟨MB,hMB⟩:∃MB,a.MB=MB:=⟨_,rfl⟩
  simp only[hV,hL,hMB]at hX hL9 hr hlk ⊢;rw[hFR,hMB]at f4;rw[hFR];have HXX:Hid (∀j,Af (V j)):=hX;have HRR:Hid (AD w q1 L (fun j=>.int .u32 (V j))):=hr;have lk:=hlk w.drew (A4 _);clear ha hb f3 f2 x h i6 hg ok hV hL hFR hMB hX hr hlk;go_enter func70,ntmps70;go_wp2;refine rG (fun v=>v.cell? ⟨ib,io+2,none⟩=some (.int .i64 (A:Int))/\v.cell? ⟨FR,4,none⟩=some (.map (some MB))) fun hHeld=>?_;refine Tf 0 1 2 3 4 5 ?_;refine Tb 6 7 ?_;clear hHeld;refine Ap 8 fun K hK=>?_;go_simp;refine Ao hK fun hHeld=>?_;clear hK K;clear hHeld;refine Ap 9 fun K hK=>?_;go_simp;(go_at_call 112;refine(Ri q1 L q2 V HXX.out oM _ (HRR.out.below (A4 _))).mono ?_;rintro e w1 ⟨rfl,hb1⟩;have HB1:=bel (A4 _) hb1;have z1:=kc HB1 i2;have z2:=kc HB1 f4);exact Zev
theorem Yf(w:World)(FR WB N ib io A B:Nat)(ya yb nn:Int)(hN:N<=16384)(hA:A<N)(hB:B<N)(pa:0<=ya/\ya<=2147483647)(pb:0<=yb/\yb<=2147483647)
 (f3:w.cell? ⟨FR,3,none⟩=some (.slice (some ⟨WB,0,none⟩) N N)) (i0:w.cell? ⟨ib,io,none⟩=some (.int .i64 2)) (i2:w.cell? ⟨ib,io+2,none⟩=some (.int .i64 (A:Int))) (i3:w.cell? ⟨ib,io+3,none⟩=some (.int .i64 (B:Int))) (k1:w.cell? ⟨WB,A,none⟩=some (.int .i64 ya)) (k2:w.cell? ⟨WB,B,none⟩=some (.int .i64 yb)) (i5:w.cell? ⟨ib,io+5,none⟩=some (.int .i64 nn)):
 Calls prog 71 #[.pointer (some ⟨FR,0,none⟩),.pointer (some ⟨ib,io,none⟩)] w fun e w'=>e=.returned (.int .i64 nn)/\Below w.heap.size w w':=by
 go_enter func71,ntmps71;go_wp2;refine rG (fun v=>v.cell? ⟨FR,3,none⟩=some (.slice (some ⟨WB,0,none⟩) N N)/\v.cell? ⟨ib,io+2,none⟩=some (.int .i64 (A:Int))/\v.cell? ⟨WB,A,none⟩=some (.int .i64 ya)/\v.cell? ⟨ib,io+3,none⟩=some (.int .i64 (B:Int))/\v.cell? ⟨WB,B,none⟩=some (.int .i64 yb)) fun hHeld=>?_;refine Tf 0 1 2 3 4 5 ?_;refine Tf 6 7 8 9 10 11 ?_;refine Tf 12 13 14 15 16 17 ?_;refine Tc 18 19 20 ?_;refine AN 21 ?_;refine wpAnyH_done kR ?_ _;go_wp2;go_ret;exact⟨rfl,A4 _⟩
theorem VK(w:World)(FR WB N ib io A B:Nat)(ya yb nn:Int)(NB:Nat)(yn:Int)(pn:Af yn)(hN:N<=16384)(hA:A<N)(hB:B<N)(pa:0<=ya/\ya<=2147483647)(pb:0<=yb/\yb<=2147483647)
 (f3:w.cell? ⟨FR,3,none⟩=some (.slice (some ⟨WB,0,none⟩) N N)) (i0:w.cell? ⟨ib,io,none⟩=some (.int .i64 18)) (i2:w.cell? ⟨ib,io+2,none⟩=some (.int .i64 (A:Int))) (i3:w.cell? ⟨ib,io+3,none⟩=some (.int .i64 (B:Int))) (k1:w.cell? ⟨WB,A,none⟩=some (.int .i64 ya)) (k2:w.cell? ⟨WB,B,none⟩=some (.int .i64 yb)) (f2:w.cell? ⟨FR,2,none⟩=some (.slice (some ⟨NB,0,none⟩) N N)) (k0:w.cell? ⟨NB,A,none⟩=some (.int .u32 yn)):
 Calls prog 71 #[.pointer (some ⟨FR,0,none⟩),.pointer (some ⟨ib,io,none⟩)] w fun e w'=>e=.returned (.int .i64 (B4 (G8 yn 1065353216 0==1065353216)))/\Below w.heap.size w w':=by
 have HP:Hid (Af yn):=pn;clear pn;go_enter func71,ntmps71;go_wp2;refine rG (fun v=>v.cell? ⟨FR,3,none⟩=some (.slice (some ⟨WB,0,none⟩) N N)/\v.cell? ⟨ib,io+2,none⟩=some (.int .i64 (A:Int))/\v.cell? ⟨WB,A,none⟩=some (.int .i64 ya)/\v.cell? ⟨ib,io+3,none⟩=some (.int .i64 (B:Int))/\v.cell? ⟨WB,B,none⟩=some (.int .i64 yb)) fun hHeld=>?_;refine Tf 0 1 2 3 4 5 ?_;refine Tf 6 7 8 9 10 11 ?_;refine Tf 12 13 14 15 16 17 ?_;refine Tc 18 19 20 ?_;refine AN 21 ?_;refine wpAnyH_done kR ?_ _;go_wp2;refine rG (fun v=>v.cell? ⟨FR,2,none⟩=some (.slice (some ⟨NB,0,none⟩) N N)/\v.cell? ⟨ib,io+2,none⟩=some (.int .i64 (A:Int))/\v.cell? ⟨NB,A,none⟩=some (.int .u32 yn)) fun hHeld=>?_;refine Tf 0 1 2 3 4 5 ?_;refine Tc 6 7 8 ?_;refine AN 9 ?_;clear hHeld;refine Ap 10 fun K hK=>?_;go_simp;(go_at_call 114;refine(Rg _ HP.out _).mono ?_;rintro e w1 ⟨rfl,hw'⟩;obtain rfl:=hw'.symm);try(go_wp2_with fail)
 refine Ao hK fun hHeld=>?_;clear hK K;clear hHeld;refine Ap 11 fun K hK=>?_;go_simp;(go_at_call 113;refine(IL _ _).mono ?_;rintro e w1 ⟨rfl,hw'⟩;obtain rfl:=hw'.symm);try(go_wp2_with fail)
 refine Ao hK fun hHeld=>?_;clear hK K;refine AN 12 ?_;refine wpAnyH_done kR ?_ _;go_wp2;go_ret;exact⟨rfl,bel (A4 _) (A4 _)⟩
theorem VN(w:World)(FR WB N ib io A B:Nat)(ya yb nn:Int)(hN:N<=16384)(hA:A<N)(hB:B<N)(pa:0<=ya/\ya<=2147483647)(pb:0<=yb/\yb<=2147483647)
 (f3:w.cell? ⟨FR,3,none⟩=some (.slice (some ⟨WB,0,none⟩) N N)) (i0:w.cell? ⟨ib,io,none⟩=some (.int .i64 22)) (i2:w.cell? ⟨ib,io+2,none⟩=some (.int .i64 (A:Int))) (i3:w.cell? ⟨ib,io+3,none⟩=some (.int .i64 (B:Int))) (k1:w.cell? ⟨WB,A,none⟩=some (.int .i64 ya)) (k2:w.cell? ⟨WB,B,none⟩=some (.int .i64 yb)):
 Calls prog 71 #[.pointer (some ⟨FR,0,none⟩),.pointer (some ⟨ib,io,none⟩)] w fun e w'=>e=.returned (.int .i64 (B4 (decide (ya<yb))))/\Below w.heap.size w w':=by
 exact ZR
theorem VO(w:World)(FR WB N ib io A B:Nat)(ya yb nn:Int)(hN:N<=16384)(hA:A<N)(hB:B<N)(pa:0<=ya/\ya<=2147483647)(pb:0<=yb/\yb<=2147483647)
 (f3:w.cell? ⟨FR,3,none⟩=some (.slice (some ⟨WB,0,none⟩) N N)) (i0:w.cell? ⟨ib,io,none⟩=some (.int .i64 23)) (i2:w.cell? ⟨ib,io+2,none⟩=some (.int .i64 (A:Int))) (i3:w.cell? ⟨ib,io+3,none⟩=some (.int .i64 (B:Int))) (k1:w.cell? ⟨WB,A,none⟩=some (.int .i64 ya)) (k2:w.cell? ⟨WB,B,none⟩=some (.int .i64 yb)):
 Calls prog 71 #[.pointer (some ⟨FR,0,none⟩),.pointer (some ⟨ib,io,none⟩)] w fun e w'=>e=.returned (.int .i64 (B4 (ya==yb)))/\Below w.heap.size w w':=by
 exact ZR
theorem VQ(w:World)(FR WB N ib io A B:Nat)(ya yb nn:Int)(hN:N<=16384)(hA:A<N)(hB:B<N)(pa:0<=ya/\ya<=2147483647)(pb:0<=yb/\yb<=2147483647)
 (f3:w.cell? ⟨FR,3,none⟩=some (.slice (some ⟨WB,0,none⟩) N N)) (i0:w.cell? ⟨ib,io,none⟩=some (.int .i64 25)) (i2:w.cell? ⟨ib,io+2,none⟩=some (.int .i64 (A:Int))) (i3:w.cell? ⟨ib,io+3,none⟩=some (.int .i64 (B:Int))) (k1:w.cell? ⟨WB,A,none⟩=some (.int .i64 ya)) (k2:w.cell? ⟨WB,B,none⟩=some (.int .i64 yb)):
 Calls prog 71 #[.pointer (some ⟨FR,0,none⟩),.pointer (some ⟨ib,io,none⟩)] w fun e w'=>e=.returned (.int .i64 (B4 (ya==0)))/\Below w.heap.size w w':=by
 exact ZR
theorem VP(w:World)(FR WB N ib io A B:Nat)(ya yb nn:Int)(hN:N<=16384)(hA:A<N)(hB:B<N)(pa:0<=ya/\ya<=2147483647)(pb:0<=yb/\yb<=2147483647)
 (f3:w.cell? ⟨FR,3,none⟩=some (.slice (some ⟨WB,0,none⟩) N N)) (i0:w.cell? ⟨ib,io,none⟩=some (.int .i64 24)) (i2:w.cell? ⟨ib,io+2,none⟩=some (.int .i64 (A:Int))) (i3:w.cell? ⟨ib,io+3,none⟩=some (.int .i64 (B:Int))) (k1:w.cell? ⟨WB,A,none⟩=some (.int .i64 ya)) (k2:w.cell? ⟨WB,B,none⟩=some (.int .i64 yb)):
 Calls prog 71 #[.pointer (some ⟨FR,0,none⟩),.pointer (some ⟨ib,io,none⟩)] w fun e w'=>e=.returned (.int .i64 (B4 (ya != 0&&yb != 0)))/\Below w.heap.size w w':=by
 by_cases hz:ya=0
 ·have e1:(ya != 0)=false:=by simpa using hz
  have e2:(ya==0)=true:=by simpa using hz
  rw[e1,Bool.false_and];clear hz;exact ZR
 ·have e1:(ya != 0)=true:=by simpa using hz
  have e2:(ya==0)=false:=by simpa using hz
  rw[e1,Bool.true_and];clear hz;exact ZR
theorem VM(w:World)(FR WB N ib io A B:Nat)(ya yb nn:Int)(hN:N<=16384)(hA:A<N)(hB:B<N)(pa:0<=ya/\ya<=2147483647)(pb:0<=yb/\yb<=2147483647)
 (f3:w.cell? ⟨FR,3,none⟩=some (.slice (some ⟨WB,0,none⟩) N N)) (i0:w.cell? ⟨ib,io,none⟩=some (.int .i64 21)) (i2:w.cell? ⟨ib,io+2,none⟩=some (.int .i64 (A:Int))) (i3:w.cell? ⟨ib,io+3,none⟩=some (.int .i64 (B:Int))) (k1:w.cell? ⟨WB,A,none⟩=some (.int .i64 ya)) (k2:w.cell? ⟨WB,B,none⟩=some (.int .i64 yb)):
 Calls prog 71 #[.pointer (some ⟨FR,0,none⟩),.pointer (some ⟨ib,io,none⟩)] w fun e w'=>e=.returned (.int .i64 (min ya 2147483646+1))/\Below w.heap.size w w':=by
 by_cases hz:ya<=2147483646
 ·have e1:min ya 2147483646=ya:=oM;have e2:IntKind.i64.wrap (ya+1)=ya+1:=by rw[IntKind.wrap_i64];omega
  exact Zay
 ·have e1:min ya 2147483646=2147483646:=oM;have e3:2147483646<ya:=oM;exact Zay
theorem VR(w:World)(FR WB N ib io A B:Nat)(ya yb nn:Int)(Cc:Nat)(yc:Int)(hC:Cc<N)(hN:N<=16384)(hA:A<N)(hB:B<N)(pa:0<=ya/\ya<=2147483647)(pb:0<=yb/\yb<=2147483647)
 (f3:w.cell? ⟨FR,3,none⟩=some (.slice (some ⟨WB,0,none⟩) N N)) (i0:w.cell? ⟨ib,io,none⟩=some (.int .i64 26)) (i2:w.cell? ⟨ib,io+2,none⟩=some (.int .i64 (A:Int))) (i3:w.cell? ⟨ib,io+3,none⟩=some (.int .i64 (B:Int))) (k1:w.cell? ⟨WB,A,none⟩=some (.int .i64 ya)) (k2:w.cell? ⟨WB,B,none⟩=some (.int .i64 yb)) (i4:w.cell? ⟨ib,io+4,none⟩=some (.int .i64 (Cc:Int))) (k3:w.cell? ⟨WB,Cc,none⟩=some (.int .i64 yc)):
 Calls prog 71 #[.pointer (some ⟨FR,0,none⟩),.pointer (some ⟨ib,io,none⟩)] w fun e w'=>e=.returned (.int .i64 (if ya=0 then yc else yb))/\Below w.heap.size w w':=by
 have KC:=fun w=>NM ya yb yc w;obtain⟨R,hR⟩:∃R,(if ya=0 then yc else yb)=R:=⟨_,rfl⟩
 simp only[hR]at KC ⊢;have HKC:Hid (∀w,Calls prog 115 #[.int .i64 ya,.int .i64 yb,.int .i64 yc] w fun e w'=>e=.returned (.int .i64 R)/\w'=w):=KC;clear KC hR;go_enter func71,ntmps71;go_wp2;refine rG (fun v=>v.cell? ⟨FR,3,none⟩=some (.slice (some ⟨WB,0,none⟩) N N)/\v.cell? ⟨ib,io+2,none⟩=some (.int .i64 (A:Int))/\v.cell? ⟨WB,A,none⟩=some (.int .i64 ya)/\v.cell? ⟨ib,io+3,none⟩=some (.int .i64 (B:Int))/\v.cell? ⟨WB,B,none⟩=some (.int .i64 yb)) fun hHeld=>?_;refine Tf 0 1 2 3 4 5 ?_;refine Tf 6 7 8 9 10 11 ?_;refine Tf 12 13 14 15 16 17 ?_;refine Tc 18 19 20 ?_;refine AN 21 ?_;refine wpAnyH_done kR ?_ _;go_wp2;refine rG (fun v=>v.cell? ⟨FR,3,none⟩=some (.slice (some ⟨WB,0,none⟩) N N)/\v.cell? ⟨ib,io+4,none⟩=some (.int .i64 (Cc:Int))/\v.cell? ⟨WB,Cc,none⟩=some (.int .i64 yc)) fun hHeld=>?_;refine Tf 0 1 2 3 4 5 ?_;refine Tf 6 7 8 9 10 11 ?_;clear hHeld;refine Ap 12 fun K hK=>?_;go_simp;(go_at_call 115;refine(HKC.out _).mono ?_;rintro e w1 ⟨rfl,hw'⟩;obtain rfl:=hw'.symm);try(go_wp2_with fail)
 refine Ao hK fun hHeld=>?_;clear hK K;refine AN 13 ?_;refine wpAnyH_done kR ?_ _;go_wp2;go_ret;exact⟨rfl,bel (A4 _) (A4 _)⟩
theorem VS(w:World)(FR WB N ib io A B:Nat)(ya yb nn:Int)(hN:N<=16384)(hA:A<N)(hB:B<N)(pa:0<=ya/\ya<=2147483647)(pb:0<=yb/\yb<=2147483647)
 (f3:w.cell? ⟨FR,3,none⟩=some (.slice (some ⟨WB,0,none⟩) N N)) (i0:w.cell? ⟨ib,io,none⟩=some (.int .i64 27)) (i2:w.cell? ⟨ib,io+2,none⟩=some (.int .i64 (A:Int))) (i3:w.cell? ⟨ib,io+3,none⟩=some (.int .i64 (B:Int))) (k1:w.cell? ⟨WB,A,none⟩=some (.int .i64 ya)) (k2:w.cell? ⟨WB,B,none⟩=some (.int .i64 yb)):
 Calls prog 71 #[.pointer (some ⟨FR,0,none⟩),.pointer (some ⟨ib,io,none⟩)] w fun e w'=>e=.returned (.int .i64 (max (ya-yb) 0))/\Below w.heap.size w w':=by
 have e0:IntKind.i64.wrap (ya-yb)=ya-yb:=by rw[IntKind.wrap_i64];omega
 by_cases hz:ya<=yb
 ·have e1:max (ya-yb) 0=0:=oM;exact Zay
 ·have e1:max (ya-yb) 0=ya-yb:=oM;exact Zay
theorem VT(w:World)(FR WB N ib io A B:Nat)(ya yb nn:Int)(hN:N<=16384)(hA:A<N)(hB:B<N)(pa:0<=ya/\ya<=2147483647)(pb:0<=yb/\yb<=2147483647)
 (f3:w.cell? ⟨FR,3,none⟩=some (.slice (some ⟨WB,0,none⟩) N N)) (i0:w.cell? ⟨ib,io,none⟩=some (.int .i64 28)) (i2:w.cell? ⟨ib,io+2,none⟩=some (.int .i64 (A:Int))) (i3:w.cell? ⟨ib,io+3,none⟩=some (.int .i64 (B:Int))) (k1:w.cell? ⟨WB,A,none⟩=some (.int .i64 ya)) (k2:w.cell? ⟨WB,B,none⟩=some (.int .i64 yb)):
 Calls prog 71 #[.pointer (some ⟨FR,0,none⟩),.pointer (some ⟨ib,io,none⟩)] w fun e w'=>e=.returned (.int .i64 (if yb=0 then 0 else ya/yb))/\Below w.heap.size w w':=by
 have KC:=fun w=>U7 ya yb pa pb w;obtain⟨R,hR⟩:∃R,(if yb=0 then 0 else ya/yb)=R:=⟨_,rfl⟩
 simp only[hR]at KC ⊢;have HKC:Hid (∀w,Calls prog 116 #[.int .i64 ya,.int .i64 yb] w fun e w'=>e=.returned (.int .i64 R)/\w'=w):=KC;clear KC hR;go_enter func71,ntmps71;go_wp2;refine rG (fun v=>v.cell? ⟨FR,3,none⟩=some (.slice (some ⟨WB,0,none⟩) N N)/\v.cell? ⟨ib,io+2,none⟩=some (.int .i64 (A:Int))/\v.cell? ⟨WB,A,none⟩=some (.int .i64 ya)/\v.cell? ⟨ib,io+3,none⟩=some (.int .i64 (B:Int))/\v.cell? ⟨WB,B,none⟩=some (.int .i64 yb)) fun hHeld=>?_;refine Tf 0 1 2 3 4 5 ?_;refine Tf 6 7 8 9 10 11 ?_;refine Tf 12 13 14 15 16 17 ?_;refine Tc 18 19 20 ?_;refine AN 21 ?_;refine wpAnyH_done kR ?_ _;go_wp2_with(go_at_call 116;refine(HKC.out _).mono ?_;rintro e w1 ⟨rfl,hw'⟩;obtain rfl:=hw'.symm);go_ret;exact⟨rfl,A4 _⟩
theorem Ss{T:Nat->Prop}{E E':Nat}{a:Cn}{c:Cd}{G P:List (List Int)}{X:Nat->Value}{M:Nat}{m:Nat->Option Value}{f:Fr}(w:World)(x:FX T E E' a c G P w)(h:FV T E E' a c w X M m f)(hg:Good c)(ok:EN c f)(ib io:Nat)(i:At)(hi:Aa w ib io (Dt i))
 (hop:Bg i.op=true) (ha:0<=i.a/\i.a<(c.regs.length:Int)) (hb:0<=i.b/\i.b<(c.regs.length:Int)) (hc:0<=i.c/\i.c<(c.regs.length:Int)):
 Calls prog 71 #[.pointer (some ⟨a.FR,0,none⟩),.pointer (some ⟨ib,io,none⟩)] w fun e w'=>e=.returned (.int .i64 (DX f i))/\Below w.heap.size w w':=by
 have i0:=hi.at 0 rfl;rw[Nat.add_zero]at i0;have i2:=hi.at 2 rfl;have i3:=hi.at 3 rfl;have i4:=hi.at 4 rfl;have i5:=hi.at 5 rfl;have f2:=x.f2;have f3:=x.f3;have hN:=hg.regsL;obtain⟨op,D,A,B,Ec,nn,bt⟩:=i;simp only at i0 i2 i3 i4 i5 hop ha hb hc;obtain⟨A,rfl⟩:∃j:Nat,A=(j:Int):=⟨A.toNat,oM⟩
 obtain⟨B,rfl⟩:∃j:Nat,B=(j:Int):=⟨B.toNat,oM⟩
 obtain⟨Ec,rfl⟩:∃j:Nat,Ec=(j:Int):=⟨Ec.toNat,oM⟩
 have hA:A<c.regs.length:=oM;have hB:B<c.regs.length:=oM;have hC:Ec<c.regs.length:=oM;have k0:=h.nums.cell hA;have k1:=h.whs.cell hA;have k2:=h.whs.cell hB;have k3:=h.whs.cell hC;unfold Bg at hop;simp only[Bool.or_eq_true,Bool.and_eq_true,beq_iff_eq,decide_eq_true_eq]at hop;have hop':op=2\/op=18\/op=21\/op=22\/op=23\/op=24\/op=25\/op=26\/op=27\/op=28:=oM;rcases hop' with rfl|rfl|rfl|rfl|rfl|rfl|rfl|rfl|rfl|rfl
 ·exact Yf w _ _ _ ib io A B _ _ nn hN hA hB (ok.whs A) (ok.whs B) f3 i0 i2 i3 k1 k2 i5
 ·exact VK w _ _ _ ib io A B _ _ nn _ _ (ok.nums A) hN hA hB (ok.whs A) (ok.whs B) f3 i0 i2 i3 k1 k2 f2 k0
 ·exact VM w _ _ _ ib io A B _ _ nn hN hA hB (ok.whs A) (ok.whs B) f3 i0 i2 i3 k1 k2
 ·exact VN w _ _ _ ib io A B _ _ nn hN hA hB (ok.whs A) (ok.whs B) f3 i0 i2 i3 k1 k2
 ·exact VO w _ _ _ ib io A B _ _ nn hN hA hB (ok.whs A) (ok.whs B) f3 i0 i2 i3 k1 k2
 ·exact VP w _ _ _ ib io A B _ _ nn hN hA hB (ok.whs A) (ok.whs B) f3 i0 i2 i3 k1 k2
 ·exact VQ w _ _ _ ib io A B _ _ nn hN hA hB (ok.whs A) (ok.whs B) f3 i0 i2 i3 k1 k2
 ·exact VR w _ _ _ ib io A B _ _ nn Ec _ hC hN hA hB (ok.whs A) (ok.whs B) f3 i0 i2 i3 k1 k2 i4 k3
 ·exact VS w _ _ _ ib io A B _ _ nn hN hA hB (ok.whs A) (ok.whs B) f3 i0 i2 i3 k1 k2
 ·exact VT w _ _ _ ib io A B _ _ nn hN hA hB (ok.whs A) (ok.whs B) f3 i0 i2 i3 k1 k2
structure Cm(c:Cd)(L:List (List Int)):Prop where
 len:L.length=c.sign.length
 each:∀p (h:p<L.length),(L[p]).length=Bd c p
 isP:∀l∈L,∀y∈l,Af y
theorem EI{c:Cd}(hg:Good c){p:Nat}(h:p<c.sign.length):Bd c p=Ag c p*lenOf c p/\lenOf c p=c.sign[p].len.toNat/\1<=c.sign[p].len/\c.sign[p].len<=4096/\(Ag c p=1\/Ag c p=2):=by
 have h1:=hg.len c.sign[p] (List.getElem_mem h);have h2:=hg.kind c.sign[p] (List.getElem_mem h);have e1:lenOf c (p:Int)=c.sign[p].len.toNat:=by unfold lenOf;simp[h]
 have e2:Ag c (p:Int)=if c.sign[p].kind=2 then 2 else 1:=by unfold Ag Ci;simp[h]
 refine⟨?_,e1,h1.1,h1.2,?_⟩
 ·unfold Bd;rw[e1,e2];simp only[List.getElem?_eq_getElem h,Option.elim_some];unfold Ju BJ;rw[h2];simp only[if_true,beq_iff_eq];split<;>omega
 ·rw[e2];split<;>simp
theorem RC(w:World)(FR C b1 o1 m1 N b0 o0 m0 Ns D p vb vo vm qb qo cap Lq K n Ln ib io:Nat)(V:Nat->Int)(hV:∀j,Af (V j))(hN:N<=16384)(hNs:Ns<=64)(hD:D<N)(hp:p<Ns)(hLn:Ln<=4096)(hL1:1<=Ln)(hK:K=1\/K=2)(hn:n<K)(hLq:Lq=K*Ln)
 (f0:w.cell? ⟨FR,0,none⟩=some (.pointer (some ⟨C,0,none⟩))) (c0:w.cell? ⟨C,0,none⟩=some (.slice (some ⟨b0,o0,none⟩) Ns m0)) (c1:w.cell? ⟨C,1,none⟩=some (.slice (some ⟨b1,o1,none⟩) N m1))
 (r1:w.cell? ⟨b1,o1+D*2+1,none⟩=some (.int .i64 (p:Int))) (s2:w.cell? ⟨b0,o0+p*3+2,none⟩=some (.int .i64 (Ln:Int)))
 (i1:w.cell? ⟨ib,io+1,none⟩=some (.int .i64 (D:Int))) (i5:w.cell? ⟨ib,io+5,none⟩=some (.int .i64 (n:Int)))
 (v1:w.cell? ⟨vb,vo+p,none⟩=some (.slice (some ⟨qb,qo,none⟩) Lq cap)) (hq:∀j,j<Lq->w.cell? ⟨qb,qo+j,none⟩=some (.int .u32 (V j)))
 (KA:Hid (∀v,Below w.heap.size w v->Calls prog 117 #[.pointer (some ⟨FR,0,none⟩),.int .i64 (p:Int)] v fun e w'=>e=.returned (.int .i64 (K:Int))/\w'=v)):
 Calls prog 72 #[.pointer (some ⟨FR,0,none⟩),.slice (some ⟨vb,vo,none⟩) Ns vm,.pointer (some ⟨ib,io,none⟩)] w fun e w'=>∃g,e=.returned (.slice (some ⟨g,0,none⟩) Ln Ln)/\w.heap.size<=g/\w'.rowIs g 43 Ln (fun j=>.int .u32 (canon (V (K*j+n))))/\Below w.heap.size w w':=by
 have hmk:=Lo Ln oM;have HQ:Hid (∀j,j<Lq->w.cell? ⟨qb,qo+j,none⟩=some (.int .u32 (V j))):=hq;have HV:Hid (∀j,Af (V j)):=hV;have HLq:Hid (Lq=K*Ln):=hLq;have g2:Lq<=8192:=by rcases hK with rfl|rfl<;>omega
 clear hq hV hLq;go_enter func72,ntmps72;go_wp2;refine rG (fun v=>v.cell? ⟨FR,0,none⟩=some (.pointer (some ⟨C,0,none⟩))/\v.cell? ⟨C,1,none⟩=some (.slice (some ⟨b1,o1,none⟩) N m1)/\v.cell? ⟨ib,io+1,none⟩=some (.int .i64 (D:Int))/\v.cell? ⟨b1,o1+D*2+1,none⟩=some (.int .i64 (p:Int))) fun hHeld=>?_;refine Tf 0 1 2 3 4 5 ?_;refine Tf 6 7 8 9 10 11 ?_;refine Tc 12 13 14 ?_;refine wpAnyH_done kR ?_ _;go_wp2;refine rG (fun v=>v.cell? ⟨vb,vo+p,none⟩=some (.slice (some ⟨qb,qo,none⟩) Lq cap)) fun hHeld=>?_;refine Tf 0 1 2 3 4 5 ?_;clear hHeld;refine Ap 6 fun K hK=>?_;go_simp;(go_at_call 117;refine(KA.out _ (bel (A4 _) (A4 _))).mono ?_;rintro e w1 ⟨rfl,hw'⟩;obtain rfl:=hw'.symm);try(go_wp2_with fail)
 refine Ao hK fun hHeld=>?_;clear hK K;refine Tb 7 8 ?_;refine wpAnyH_done kR ?_ _;go_wp2
 go_loopw [47] (fun iv wr=>Below w.heap.size w wr/\∃j:Nat,j<=Ln/\iv=.int .i64 j/\Hid (wr.rowIs w.heap.size 43 Ln (fun k=>.int .u32 (if k<j then canon (V (K*k+n))else 0)))) (fun iv _=>Ln-(intOf iv).toNat)
 case atStart=>
  refine⟨gG,0,Nat.zero_le _,rfl,?_⟩;have hr:=(World.rowIs_made w (.int .u32 0) Ln 43).drew.drew;exact hr.congr fun k _=>by simp
 case round=>
  obtain⟨hb,j,hj,rfl,hrow⟩:=hrel;by_cases hlt:j<Ln
  ·have hKj:K*j+n<K*Ln:=by rcases hK with rfl|rfl<;>omega
   have hKL:K*Ln<=8192:=by rw[←HLq.out];exact g2
   obtain⟨I0,hI0⟩:∃I0,K*j=I0:=⟨_,rfl⟩
   obtain⟨I,hI⟩:∃I,I0+n=I:=⟨_,rfl⟩
   have e1:IntKind.i64.wrap ((K:Int)*(j:Int))=(I0:Int):=by
    have:((K:Int)*(j:Int))=((K*j:Nat):Int):=sM;rw[this,hI0,IntKind.wrap_i64];omega
   have e2:IntKind.i64.wrap ((I0:Int)+(n:Int))=(I:Int):=by rw[IntKind.wrap_i64];omega
   have hIL:I<Lq:=by rw[HLq.out];omega
   have hIc:(I:Int)<(Lq:Int):=oM;have hI9:(0:Int)<=(I:Int):=oM;have x1:wr.cell? ⟨qb,qo+I,none⟩=some (.int .u32 (V I)):=kc hb (HQ.out I hIL);have x5:=kc hb i5;have y0:=hrow.out.cell hlt;have y1:=hrow.out.frozen j;have pI:=HV.out I;have HPI:Hid (Af (V I)):=pI;have HI:Hid (K*j+n=I):=by rw[←hI,←hI0];exact rfl
   have n1:w.heap.size≠qb:=by have:=A3 (HQ.out I hIL);simp at this;omega
   clear hI0 hI hKj pI hKL;go_wp2_with(go_at_call 101;refine(Ct _ HPI.out.1 HPI.out.2 _).mono ?_;rintro e w1 ⟨rfl,hw'⟩;obtain rfl:=hw'.symm);go_roundw
   case rel=>
    refine⟨hb.setCell sM _,j+1,oM,gN,?_⟩;exact(hrow.out.set j _).congr fun k hk=>by
     by_cases e:k=j
     ·subst e;rw[if_pos rfl,if_pos oM,HI.out]
     ·rw[if_neg e];by_cases e3:k<j
      ·rw[if_pos e3,if_pos oM]
      ·rw[if_neg e3,if_neg oM]
   case measure=>simp[intOf];omega
  ·have hjL:j=Ln:=oM;subst hjL;go_wp2;go_ret;exact⟨w.heap.size,rfl,Nat.le_refl _,hrow.out.congr fun k hk=>by rw[if_pos hk],hb⟩
theorem KZ{α:Type}(f:Nat->Int)(n j:Nat)(h:j<n):B7 ((List.range n).map f) j=f j:=by
 unfold B7;simp[h]
theorem BC.at{T:Nat->Prop}{w:World}{v:Value}{L:List (List Int)}(h:BC T w v L){p:Nat}(hp:p<L.length):∃b o c u,v=.slice (some ⟨b,o,none⟩) L.length c/\w.cell? ⟨b,o+p,none⟩=some u/\Pt T w u L[p]:=by
 obtain⟨q,c,hv,hh⟩:=h;rcases hh with e|⟨b,o,rfl,_,_,hh⟩
 ·rw[e]at hp;exact absurd hp (Nat.not_lt_zero _)
 ·obtain⟨u,h1,h2⟩:=hh p hp;exact⟨b,o,c,u,hv,h1,h2⟩
theorem Pt.cells{T:Nat->Prop}{w:World}{v:Value}{l:List Int}(h:Pt T w v l)(hl:0<l.length):∃b o c,v=.slice (some ⟨b,o,none⟩) l.length c/\¬T b/\∀j,j<l.length->w.cell? ⟨b,o+j,none⟩=some (.int .u32 (B7 l j)):=by
 obtain⟨q,c,hv,hh⟩:=h;rcases hh with e|⟨b,o,rfl,hn,_,hh⟩
 ·rw[e]at hl;exact absurd hl (Nat.not_lt_zero _)
 ·refine⟨b,o,c,hv,hn,fun j hj=>?_⟩;have:=(hh j hj).at 0 (v:=.int .u32 l[j]) rfl;rw[Nat.mul_one,Nat.add_zero]at this;rw[this];simp[B7,List.getElem?_eq_getElem hj]
structure Fk(c:Cd)(r:Int)(n:Int):Prop where
 r0:0<=r
 r1:r<(c.regs.length:Int)
 kind:(A8 c.regs r).kind=3
 n0:n=0\/(n=1/\Ci c.sign (A8 c.regs r).par=2)
theorem MM{T:Nat->Prop}{E E':Nat}{a:Cn}{c:Cd}{G P:List (List Int)}(w:World)(x:FX T E E' a c G P w)(hg:Good c)(v:Value)(L:List (List Int))(hv:BC (AX T E E') w v L)(hL:Cm c L)(ib io:Nat)(i:At)(hi:Aa w ib io (Dt i))(hp:Fk c i.d i.n):
 Calls prog 72 #[.pointer (some ⟨a.FR,0,none⟩),v,.pointer (some ⟨ib,io,none⟩)] w fun e w'=>∃g,e=.returned (.slice (some ⟨g,0,none⟩) (AH c L i).length (AH c L i).length)/\w.heap.size<=g/\w'.rowIs g 43 (AH c L i).length (fun j=>.int .u32 (B7 (AH c L i) j))/\Below w.heap.size w w':=by
 have i1:=hi.at 1 rfl;have i5:=hi.at 5 rfl;obtain⟨op,D,A,B,Ec,nn,bt⟩:=i;simp only at i1 i5 hp;obtain⟨D,rfl⟩:∃j:Nat,D=(j:Int):=⟨D.toNat,by have:=hp.r0;omega⟩
 have hD:D<c.regs.length:=by have:=hp.r1;omega
 have hk:=hp.kind;have hn0:=hp.n0;rw[Bj hD]at hk hn0;have hpar:=C5.1 (hg.type (List.getElem_mem hD) hk);obtain⟨b1,o1,m1,hv1,-,r1⟩:=x.code.reg hD;have hPE:AH c L ⟨op,(D:Int),A,B,Ec,nn,bt⟩=(List.range (lenOf c c.regs[D].par)).map fun e=>canon (B7 (CF L c.regs[D].par.toNat) (Ag c c.regs[D].par*e+nn.toNat)):=by
  unfold AH;simp only[Bj hD]
 obtain⟨pp,hpp⟩:∃pp,c.regs[D].par=pp:=⟨_,rfl⟩
 rw[hpp]at hpar r1 hPE hn0;obtain⟨p,rfl⟩:∃j:Nat,pp=(j:Int):=⟨pp.toNat,oM⟩
 have hps:p<c.sign.length:=oM;obtain⟨b0,o0,m0,hv0,-,s2⟩:=x.code.par hps;obtain⟨e1,e2,e3,e4,e5⟩:=EI hg hps;have f0:=x.f0;have c0:=x.code.c0;have c1:=x.code.c1;rw[hv0]at c0;rw[hv1]at c1;obtain⟨vb,vo,vm,u,rfl,v1,hu⟩:=hv.at (p:=p) Zgy;have hlen:=hL.each p Zgy;obtain⟨qb,qo,cap,rfl,-,hq⟩:=hu.cells (by rw[hlen,e1,e2];have:=Nat.mul_pos (show 0<Ag c p by omega) (show 0<c.sign[p].len.toNat by omega);exact this);have hkk:nn=0\/(nn=1/\Ag c p=2):=hn0.imp id fun⟨h1,h2⟩=>⟨h1,by unfold Ag;rw[if_pos h2]⟩
 obtain⟨n,rfl⟩:∃j:Nat,nn=(j:Int):=⟨nn.toNat,oM⟩
 have hva:CF L p=L[p]' Zgy:=by unfold CF;rw[List.getElem?_eq_getElem Zgy];rfl
 rw[Int.toNat_natCast,Int.toNat_natCast,hva]at hPE;have hPL:(AH c L ⟨op,(D:Int),A,B,Ec,(n:Int),bt⟩).length=lenOf c p:=by rw[hPE];simp
 have s2':w.cell? ⟨b0,o0+p*3+2,none⟩=some (.int .i64 ((lenOf c p:Nat):Int)):=by rw[s2,e2];congr 2;omega
 have K:=RC w a.FR a.C b1 o1 m1 c.regs.length b0 o0 m0 c.sign.length D p vb vo vm qb qo cap _ (Ag c p) n (lenOf c p) ib io (B7 (L[p]' Zgy)) (Bv (hL.isP _ (List.getElem_mem _))) hg.regsL hg.signL hD hps (hg.lenOf _) oM e5 oM (hlen.trans e1) f0 c0 c1 r1 s2' i1 i5 v1 hq (fun v hv=>JC v (x.below hv) hg p hps);rw[hL.len];refine K.mono ?_;rintro e w' ⟨g,h1,h2,h3,h4⟩;rw[hPL];refine⟨g,h1,h2,h3.congr fun j hj=>?_,h4⟩;rw[hPE,KZ (α:=Int) _ _ _ hj]
end Go.Proofs.YtbinohkcolcbfaaGreat
